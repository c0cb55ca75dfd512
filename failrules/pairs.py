"""Places and directions of one quantity, and what follows a pair of them a moment later."""

FALLING = 0
STEADY = 1
RISING = 2
DIRECTIONS = (0, 1, 2)


def last_place(marks):
    return 2 * marks


def place_of_mark(mark):
    return 2 * mark + 1


def is_at_mark(place):
    return place % 2 == 1


def pairs_of(marks):
    pairs = []
    for place in range(last_place(marks) + 1):
        for direction in DIRECTIONS:
            pairs.append((place, direction))
    return pairs


def next_places(place, direction, marks):
    if direction == RISING:
        return places_above(place, marks)
    if direction == FALLING:
        return places_below(place)
    return [place]


def places_above(place, marks):
    if is_at_mark(place):
        return [place + 1]
    if place == last_place(marks):
        return [place]
    return [place, place + 1]


def places_below(place):
    if is_at_mark(place):
        return [place - 1]
    if place == 0:
        return [place]
    return [place - 1, place]


def next_directions(direction):
    return [later for later in DIRECTIONS if abs(later - direction) <= 1]


def next_pairs(place, direction, marks):
    pairs = []
    for later_place in next_places(place, direction, marks):
        for later_direction in next_directions(direction):
            pairs.append((later_place, later_direction))
    return pairs

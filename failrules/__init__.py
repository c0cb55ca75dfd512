"""Which rules of a plant must be given up, so that what was seen may be."""

"""A loom's treadles: the picks of a cloth and the lifts that they need."""

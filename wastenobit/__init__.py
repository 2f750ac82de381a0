"""A set of numbers, kept in the fewest bytes there can be."""

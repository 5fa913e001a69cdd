"""A house of rooms and doors, and the keys that lead through it."""

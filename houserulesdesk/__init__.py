"""A house that settles by its rules."""

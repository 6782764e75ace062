"""A board of parts."""

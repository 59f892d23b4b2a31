"""A small device's table of values."""

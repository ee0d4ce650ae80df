"""Stairwright: models stepped down to programs."""

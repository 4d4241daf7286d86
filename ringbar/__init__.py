"""Ringbar: rings and drawers that change one at a time."""

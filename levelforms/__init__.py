"""Levels: their one form, which is at most which, and where two differ."""

"""Levels: their one form, which is at most which, where two differ, and the least values that meet bounds."""

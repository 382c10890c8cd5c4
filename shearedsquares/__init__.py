"""Turned and sheared: surfaces glued of squares, and what comes of them by moves."""

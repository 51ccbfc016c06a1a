"""Levels that turns lead up and down, one turn at a time, kept within a room."""

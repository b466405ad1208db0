"""Cuehall: the lights of a play, told by what changes."""

"""Rankbounds: a few kept readings of a long row."""

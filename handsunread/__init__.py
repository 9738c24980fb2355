"""Handsunread: what is sure of a plant whose hands work by programs that nobody has read."""

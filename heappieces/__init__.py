"""Heaps told in pieces: programs on cells, their runs, what assertions say."""

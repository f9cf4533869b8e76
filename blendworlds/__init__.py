"""Blendworlds: what can be promised of all puzzles of a book."""

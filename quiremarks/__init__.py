"""Quiremarks: what the marks of leaves tell of the gatherings of a book."""

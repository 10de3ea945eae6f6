"""Segments of a paragraph, by rules that are handed in."""

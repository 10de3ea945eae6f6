"""Segments of paragraphs and documents, by rules that are handed in."""

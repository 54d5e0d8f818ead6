"""Chords read, moved and gripped."""

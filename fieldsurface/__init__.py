"""Surfaces through a field of whole numbers."""

"""Floors of mirrors, and polygons that lay them out."""

"""Texts with separators."""

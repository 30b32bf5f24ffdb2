"""Stylobate: an analytics engine whose answers never depend on layout, rewriting or memory."""

"""Answers that are kept and follow the changes of their tables."""

"""The query language: tokens, syntax, names and kinds, and texts of queries."""

"""Plans that are rewritten, and turned into physical plans."""

"""Physical plans, and the ways in which they are worked."""

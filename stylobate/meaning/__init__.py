"""The meaning of plans: which rows a query has."""

"""Values, their orders and operations, and expressions on rows."""

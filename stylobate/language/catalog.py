"""What a text can name."""


class Catalog:
    """Tables, named queries, functions and parameters."""

    def __init__(self, tables, *, queries=(), functions=(), parameters=()):
        self.tables = [(name, [tuple(column) for column in columns]) for name, columns in tables]
        self.queries = [(name, text) for name, text in queries]
        self.functions = list(functions)
        self.parameters = list(parameters)

    def with_queries(self, queries):
        """Return a catalog with other named queries."""
        return Catalog(self.tables, queries=queries, functions=self.functions, parameters=self.parameters)

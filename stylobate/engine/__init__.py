"""The engine: tables, queries, kept answers and transactions."""

"""Dealtrows: queries that are answered node by node, decided for all databases and spreads."""

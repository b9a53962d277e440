"""Stores: rows on nodes that can be changed."""

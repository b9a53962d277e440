"""Texts of values, and a shell that takes them."""

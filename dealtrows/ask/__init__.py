"""Queries and their matches."""

"""Patterns, small cases and what they decide."""

"""Placements and cases."""

"""Cubes that show dates."""

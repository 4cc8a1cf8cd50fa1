"""Texts of all values, and a shell that is run by lines."""

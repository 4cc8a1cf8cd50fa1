"""Worlds, and what holds in them without any calls."""

"""Promises in use: a book that changes."""

"""The order of promises: which ones lead to others, and what shapes a promise can have."""

"""Eitherhand: promises of which one hand chooses, or the other."""

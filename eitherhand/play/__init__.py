"""Runs: the calls of both hands, one behind the other."""

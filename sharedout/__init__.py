"""Bases by greed: what a function on sets lets its things have, shared out."""

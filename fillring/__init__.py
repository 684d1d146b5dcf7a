"""Copies of a set of places that fill a ring."""

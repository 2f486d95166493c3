"""Rootward: one tree of names, and every way to ask it."""

"""Picks of things, numbered so that from each to the next one goes out and one comes in."""

"""Wiredorders: orders of things, and all that is one with them."""

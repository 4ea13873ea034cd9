"""Quantities in balance of whose actions only the signs are known."""

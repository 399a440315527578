"""Acquit: a card payment network that neither makes nor loses money."""

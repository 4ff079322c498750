"""Coins turned so many at once."""

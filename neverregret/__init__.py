"""Neverregret: a desk that serves at once, and what it never regrets."""

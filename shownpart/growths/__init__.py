"""Growths of worlds."""

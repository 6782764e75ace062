"""Closings, and what follows from books."""

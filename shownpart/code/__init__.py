"""Pieces of code."""

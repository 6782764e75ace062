"""Tests of shownpart; run them from the top of the repository."""

"""Books of facts."""

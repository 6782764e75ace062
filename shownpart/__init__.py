"""What a part with hidden names tells the rest."""

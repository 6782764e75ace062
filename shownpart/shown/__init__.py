"""Cases of hidden terms, and shown books."""

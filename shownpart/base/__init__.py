"""Terms and facts."""

"""Ten tries, and nobody can try alone."""

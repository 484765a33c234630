"""A record of a garden's hedges and of the walker in it."""

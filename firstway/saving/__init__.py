"""Documents as texts."""

"""Few coins: many coins out of a seed of few numbers."""

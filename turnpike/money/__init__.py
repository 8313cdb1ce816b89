"""Keys, locks, states, steps and settings."""

"""Keys, locks, states, steps, settings, tolls and bounds."""

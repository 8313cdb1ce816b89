"""Honest parties: what they know, need, say and offer."""

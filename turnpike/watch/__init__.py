"""Watchers, and what is due on the ledger for a party that is silent."""

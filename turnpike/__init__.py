"""Turnpike: payment channels over one ledger with little room."""

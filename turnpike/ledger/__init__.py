"""The ledger: channels, purses, and what speaks against a thing."""

"""Towns: a ledger, honest parties, and others who do what they like."""

"""What is due on the ledger for a party that is silent."""

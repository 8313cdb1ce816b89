"""The ledger: channels, purses, things, blocks, and views of them."""

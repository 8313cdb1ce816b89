"""Routes over several channels: ways, the cheapest route, and what attempts teach."""

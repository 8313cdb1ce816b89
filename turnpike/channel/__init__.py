"""One end of a channel, and what splices change for it."""

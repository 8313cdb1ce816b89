"""Values that several tests build."""

from turnpike.money.settings import Settings

PLAIN_SETTINGS = {
    "fee": 5, "lead": 10, "margin": 11, "delay": 12, "far": 13, "least": 14,
    "farthest": 15, "reveal_lead": 16, "base": 17, "per_mille": 18, "gap": 19,
}


def settings_with(**numbers):
    """Return settings with these numbers, and with plain ones otherwise."""
    return Settings(**{**PLAIN_SETTINGS, **numbers})


def secret_with_key(key):
    """Return the secret from 0 to 4294967295 that has the key (point 8)."""
    return (key - 12345) * pow(1103515245, -1, 2 ** 32) % 2 ** 32

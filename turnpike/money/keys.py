"""Keys of secrets."""

FACTOR = 1103515245
SUMMAND = 12345
MODULUS = 4294967296


def key_of(secret):
    """Return the key of the secret."""
    return (secret * FACTOR + SUMMAND) % MODULUS

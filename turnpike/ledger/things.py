"""Acts, and the channels that they are about."""


def channel_of(act):
    """Return the number of the channel that the act is about, or None."""
    kind = act[0]
    if kind == "settle":
        return act[1]
    if kind in ("open", "publish", "splice"):
        return act[1][0]
    return None

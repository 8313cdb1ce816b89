"""Acts: which of them need hands, and the channels that they are about."""

# The kinds of acts on which both ends of a channel give their hands.
KINDS_WITH_HANDS = ("open", "publish", "splice")


def channel_of(act):
    """Return the number of the channel that the act is about, or None."""
    kind = act[0]
    if kind == "settle":
        return act[1]
    if kind in KINDS_WITH_HANDS:
        return act[1][0]
    return None

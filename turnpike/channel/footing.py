"""What an end knows of the splices of its channel."""

from turnpike.money.splices import changes_of, sums_of


class Footing:
    """The sums of a channel, the number of splices taken, and the open splices."""

    def __init__(self):
        self.sums = (0, 0, 0, 0)
        self.taken = 0
        self.splices = []

    def cover(self):
        """Return the covers of the first end and of the second end."""
        changes = [changes_of(sums_of(splice)) for splice in self.splices]
        first_change, second_change = changes_of(self.sums)
        # All open splices have one index, so at most one of them is taken: the worst one counts alone.
        first_least = min([0] + [first for first, _ in changes])
        second_least = min([0] + [second for _, second in changes])
        return (first_change + first_least, second_change + second_least)

    def may_owe(self, as_first):
        """Return the most that one open splice puts in for the first end, or for the second one."""
        most = 0
        for splice in self.splices:
            first_in, _, second_in, _ = sums_of(splice)
            most = max(most, first_in if as_first else second_in)
        return most

    def see(self, vault, height):
        """See the channel on the ledger."""
        if self.taken == vault.splices:
            self.splices = [splice for splice in self.splices if splice[3] >= height]
        else:
            self.splices = []
        self.sums = vault.sums
        self.taken = vault.splices


def copy_footing(footing):
    """Return an equal new footing."""
    copied = Footing()
    copied.sums = footing.sums
    copied.taken = footing.taken
    copied.splices = list(footing.splices)
    return copied

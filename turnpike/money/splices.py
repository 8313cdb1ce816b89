"""Splices: what they put into a channel and take out of it.

A splice is a tuple (channel, index, since, until, first_in, first_out, second_in, second_out),
sums are a tuple (first_in, first_out, second_in, second_out).
"""


def sums_of(splice):
    """Return what the splice puts in and takes out, as sums."""
    _, _, _, _, first_in, first_out, second_in, second_out = splice
    return (first_in, first_out, second_in, second_out)


def sums_with(sums, splice):
    """Return what the sums become with the splice."""
    return tuple([before + more for before, more in zip(sums, sums_of(splice))])


def changes_of(sums):
    """Return by how much the sums change what each of the two ends has."""
    first_in, first_out, second_in, second_out = sums
    return (first_in - first_out, second_in - second_out)

"""What a party knows and keeps."""

from turnpike.channel.end import copy_end
from turnpike.money.settings import copy_settings


class Member:
    """What a party knows of the ledger, and what it keeps of its channels and payments."""

    def __init__(self, number, settings):
        self.number = number
        self.settings = copy_settings(settings)
        self.height = 0
        self.receipts = {}
        self.purse_known = 0
        self.ends = []
        self.given = []
        self.payments = []
        self.invoices = []
        self.secrets = []
        self.noted_keys = []
        self.had = []
        self.tag = 0
        self.pending = 0
        self.bids = []


def copy_member(member):
    """Return an equal new member."""
    copied = Member(member.number, member.settings)
    copied.height = member.height
    copied.receipts = dict(member.receipts)
    copied.purse_known = member.purse_known
    copied.ends = [copy_end(end) for end in member.ends]
    copied.given = list(member.given)
    copied.payments = list(member.payments)
    copied.invoices = list(member.invoices)
    copied.secrets = list(member.secrets)
    copied.noted_keys = list(member.noted_keys)
    copied.had = list(member.had)
    copied.tag = member.tag
    copied.pending = member.pending
    copied.bids = list(member.bids)
    return copied


def end_of(member, channel):
    """Return the party's end of the channel, or None."""
    for end in member.ends:
        if end.opening[0] == channel:
            return end
    return None


def learn(member, secret):
    """Add the secret to those that the party knows, if it is new."""
    if secret not in member.secrets:
        member.secrets.append(secret)

"""Settings of a party."""

from turnpike.errors import InvalidSettings
from turnpike.ranges import GREATEST_AMOUNT, GREATEST_HEIGHT

GREATEST_PER_MILLE = 100000


class Settings:
    """The eleven numbers by which a party runs."""

    def __init__(self, *, fee, lead, margin, delay, far, least, farthest, reveal_lead, base, per_mille, gap):
        _check_range("fee", fee, 1, GREATEST_AMOUNT)
        for name, amount in (("least", least), ("base", base)):
            _check_range(name, amount, 0, GREATEST_AMOUNT)
        _check_range("per_mille", per_mille, 0, GREATEST_PER_MILLE)
        blocks = (
            ("lead", lead), ("margin", margin), ("delay", delay), ("far", far),
            ("farthest", farthest), ("reveal_lead", reveal_lead), ("gap", gap),
        )
        for name, count in blocks:
            _check_range(name, count, 0, GREATEST_HEIGHT)
        self.fee = fee
        self.lead = lead
        self.margin = margin
        self.delay = delay
        self.far = far
        self.least = least
        self.farthest = farthest
        self.reveal_lead = reveal_lead
        self.base = base
        self.per_mille = per_mille
        self.gap = gap

    @property
    def toll(self):
        """The toll of the settings."""
        return (self.base, self.per_mille, self.gap)

    def __eq__(self, other):
        return (
            isinstance(other, Settings) and self.fee == other.fee and self.lead == other.lead
            and self.margin == other.margin and self.delay == other.delay and self.far == other.far
            and self.least == other.least and self.farthest == other.farthest
            and self.reveal_lead == other.reveal_lead and self.base == other.base
            and self.per_mille == other.per_mille and self.gap == other.gap
        )


def copy_settings(settings):
    """Return equal new settings."""
    return Settings(
        fee=settings.fee, lead=settings.lead, margin=settings.margin, delay=settings.delay, far=settings.far,
        least=settings.least, farthest=settings.farthest, reveal_lead=settings.reveal_lead, base=settings.base,
        per_mille=settings.per_mille, gap=settings.gap,
    )


def _check_range(name, number, least, greatest):
    if number < least or number > greatest:
        raise InvalidSettings(f"{name} is not from {least} to {greatest}")

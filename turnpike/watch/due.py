"""When a state and a reveal are due."""

from turnpike.ledger.vault import delay_end
from turnpike.money.keys import key_of


def state_is_due(view, state):
    """Tell whether an older state is published, and the state can still replace it."""
    channel, number, _, _, _, _ = state
    if channel not in view.vaults:
        return False
    vault = view.vaults[channel]
    # In the last block of the delay a thing that is offered would come too late.
    return vault.published is not None and vault.published[1] < number and view.height < delay_end(vault)


def secret_is_due(view, secret, start, last):
    """Tell whether the secret is not shown, and the height is from start on and before last."""
    return key_of(secret) not in view.receipts and start <= view.height < last

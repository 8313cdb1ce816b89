"""What a thing takes from purses, and the reasons against a thing."""

from turnpike.ledger.things import channel_of
from turnpike.ledger.vault import delay_end, ends_of, fits
from turnpike.money.keys import key_of
from turnpike.money.locks import was_opened
from turnpike.money.splices import sums_with
from turnpike.money.states import opening_state
from turnpike.ranges import GREATEST_AMOUNT


def takes(book, thing):
    """Return a dict from parties to what the thing takes from their purses."""
    act, _, payer, fee, _ = thing
    taken = {payer: fee}
    for party, amount in _parts(book, act, payer):
        taken[party] = taken.get(party, 0) + amount
    return taken


def reasons(book, thing):
    """Return the words that speak against the thing, in the order of the document."""
    act, hands, payer, _, tag = thing
    words = []
    if (payer, tag) in book.done:
        words.append("done")
    words.extend(_against_act(book, act, hands))
    if _lacks_money(book, thing):
        words.append("purse")
    return words


def against_settle(vault, height, receipts):
    """Return the words of the channel itself that speak against settling it."""
    if vault.published is None:
        return ["not published"]
    return _told([
        ("runs", height <= delay_end(vault)),
        ("undecided", _has_undecided_lock(vault.published, height, receipts)),
    ])


def _parts(book, act, payer):
    """Return pairs of a party and an amount: what the act takes besides the fee."""
    kind = act[0]
    if kind == "pay":
        _, _, amount = act
        return [(payer, amount)]
    if kind == "open":
        _, first, second, first_in, second_in, _, _ = act[1]
        return [(first, first_in), (second, second_in)]
    if kind == "splice":
        channel, _, _, _, first_in, _, second_in, _ = act[1]
        if channel in book.vaults:
            first, second = ends_of(book.vaults[channel])
            return [(first, first_in), (second, second_in)]
    return []


def _lacks_money(book, thing):
    """Tell whether some purse has less than the thing takes from it."""
    for party, amount in takes(book, thing).items():
        if amount > book.purse(party):
            return True
    return False


def _told(rows):
    """Return the words of the rows that apply. A row is a pair of a word and whether it applies."""
    return [word for word, applies in rows if applies]


def _against_act(book, act, hands):
    kind = act[0]
    if kind == "pay":
        return []
    if kind == "open":
        return _against_open(book, act[1], hands)
    if kind == "reveal":
        return _told([("shown", key_of(act[1]) in book.receipts)])
    channel = channel_of(act)
    if channel not in book.vaults:
        return ["no channel"]
    vault = book.vaults[channel]
    if kind == "publish":
        return _against_publish(book, vault, act[1], hands)
    if kind == "splice":
        return _against_splice(book, vault, act[1], hands)
    return against_settle(vault, book.height, book.receipts)


def _against_open(book, opening, hands):
    channel, first, second, _, _, _, until = opening
    return _told([
        ("one party", first == second),
        ("late", book.height > until),
        ("hands", first not in hands or second not in hands),
        ("stands", channel in book.vaults),
        ("gone", channel in book.ended),
    ])


def _against_publish(book, vault, state, hands):
    _, number, _, _, locks, final = state
    stands = vault.published is not None
    return _told([
        ("hands", _lacks_hands(vault, hands) and state != opening_state(vault.opening)),
        ("below least", number < vault.least),
        ("does not fit", not fits(vault, state)),
        ("final with locks", final and len(locks) > 0),
        ("not newer", stands and vault.published[1] >= number),
        ("over", stands and book.height > delay_end(vault)),
    ])


def _against_splice(book, vault, splice, hands):
    _, index, _, until, first_in, first_out, second_in, second_out = splice
    return _told([
        ("hands", _lacks_hands(vault, hands)),
        ("index", index != vault.splices),
        ("late", book.height > until),
        ("not enough", first_out + second_out > vault.money + first_in + second_in),
        ("too much", max(sums_with(vault.sums, splice)) > GREATEST_AMOUNT),
        ("published", vault.published is not None),
    ])


def _lacks_hands(vault, hands):
    first, second = ends_of(vault)
    return first not in hands or second not in hands


def _has_undecided_lock(state, height, receipts):
    """Tell whether some lock of the state is not opened and can still be."""
    _, _, _, _, locks, _ = state
    for lock in locks:
        _, _, deadline, _ = lock
        if height <= deadline and not was_opened(lock, receipts):
            return True
    return False

"""Which trees are those of objects."""

from turnpike.money.settings import GREATEST_PER_MILLE
from turnpike.ranges import GREATEST_ROOM
from turnpike.texts.shapes import (
    has_all, has_items, is_act, is_amount, is_flag, is_height, is_lock, is_number, is_opening, is_splice, is_state,
    is_step, is_thing, is_whole, is_word,
)
from turnpike.town.town import MOST_PARTIES


def is_settings_tree(tree):
    """Tell whether the tree is that of settings."""
    return has_items(tree, (
        _is_fee, is_height, is_height, is_height, is_height, is_amount, is_height, is_height, is_amount,
        _is_per_mille, is_height,
    ))


def is_end_tree(tree):
    """Tell whether the tree is that of an end."""
    return has_items(tree, (
        is_opening, is_flag, is_state, _is_step_or_none, _is_state_or_none, is_flag, is_flag, _is_footing_tree,
        is_flag,
    )) and (tree[3] is None) == (tree[4] is None)


def is_member_tree(tree):
    """Tell whether the tree is that of what a party knows and keeps."""
    return has_items(tree, (
        is_number, is_settings_tree, is_height, _are_receipts, is_amount, _are_ends, _are_given, _are_payments,
        _are_invoices, _are_numbers, _are_numbers, _are_numbers, is_number, is_number, _are_acts,
    ))


def is_party_tree(tree):
    """Tell whether the tree is that of a party."""
    if not has_items(tree, (is_member_tree, is_member_tree, is_flag)):
        return False
    now, kept, _ = tree
    # The first two items of a member are its number and its settings.
    return now[:2] == kept[:2]


def is_vault_tree(tree):
    """Tell whether the tree is that of a channel on the ledger."""
    return has_items(tree, (
        is_opening, _are_sums, is_number, is_number, _is_state_or_none, _is_height_or_none,
    )) and (tree[4] is None) == (tree[5] is None)


def is_ledger_tree(tree):
    """Tell whether the tree is that of a ledger."""
    return has_items(tree, (_is_book_tree, _is_room, _are_things))


def is_town_tree(tree):
    """Tell whether the tree is that of a town."""
    return has_items(tree, (is_ledger_tree, _are_parties, _are_letters, _are_numbers, _are_signed, _are_things))


def _is_fee(tree):
    return is_amount(tree) and tree >= 1


def _is_per_mille(tree):
    return is_whole(tree) and 0 <= tree <= GREATEST_PER_MILLE


def _is_room(tree):
    return is_whole(tree) and 1 <= tree <= GREATEST_ROOM


def _is_step_or_none(tree):
    return tree is None or is_step(tree)


def _is_state_or_none(tree):
    return tree is None or is_state(tree)


def _is_height_or_none(tree):
    return tree is None or is_height(tree)


def _is_footing_tree(tree):
    return has_items(tree, (_are_sums, is_number, _are_splices))


def _is_book_tree(tree):
    return has_items(tree, (
        _are_purses, _are_vaults, _are_receipts, _are_numbers, _are_tags, is_height, is_amount,
    ))


def _are_sums(tree):
    return has_items(tree, (is_amount, is_amount, is_amount, is_amount))


def _are_splices(tree):
    return has_all(tree, is_splice)


def _are_numbers(tree):
    return has_all(tree, is_number)


def _are_acts(tree):
    return has_all(tree, is_act)


def _are_things(tree):
    return has_all(tree, is_thing)


def _are_ends(tree):
    return has_all(tree, is_end_tree)


def _are_given(tree):
    return _have_items(tree, (is_number, is_number, is_lock, is_lock))


def _are_payments(tree):
    return _have_items(tree, (is_number, is_lock))


def _are_invoices(tree):
    return _have_items(tree, (is_number, is_amount))


def _are_tags(tree):
    return _have_items(tree, (is_number, is_number))


def _are_letters(tree):
    return _have_items(tree, (is_number, is_number, is_word))


def _are_signed(tree):
    return _have_items(tree, (is_number, is_act))


def _are_purses(tree):
    return _have_items(tree, (is_number, is_amount)) and _are_different([party for party, _ in tree])


def _are_receipts(tree):
    return _have_items(tree, (is_number, is_height)) and _are_different([key for key, _ in tree])


def _are_vaults(tree):
    # The opening comes first in a channel, and its number comes first in an opening.
    return has_all(tree, is_vault_tree) and _are_different([vault[0][0] for vault in tree])


def _are_parties(tree):
    if not has_all(tree, is_party_tree) or len(tree) < 1 or len(tree) > MOST_PARTIES:
        return False
    return _are_different([now[0] for now, _, _ in tree])


def _have_items(tree, forms):
    """Tell whether the tree is a tuple of tuples, whose items have these forms."""
    return isinstance(tree, tuple) and all([has_items(row, forms) for row in tree])


def _are_different(numbers):
    return len(set(numbers)) == len(numbers)

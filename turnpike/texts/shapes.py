"""Which trees are values: locks, states, acts, deeds and so on, with their numbers within bounds."""

from turnpike.ranges import GREATEST_AMOUNT, GREATEST_HEIGHT

GREATEST_NUMBER = 4294967295
GREATEST_FREE = 3 * 10 ** 15
MOST_HANDS = 4
MOST_STATE_LOCKS = 30
MOST_MOVES = 16


def is_whole(tree):
    """Tell whether the tree is an integer."""
    return isinstance(tree, int) and not isinstance(tree, bool)


def is_number(tree):
    """Tell whether the tree is a number of a party, a channel, a state and the like, or an index."""
    return is_whole(tree) and 0 <= tree <= GREATEST_NUMBER


def is_amount(tree):
    """Tell whether the tree is an amount."""
    return is_whole(tree) and 0 <= tree <= GREATEST_AMOUNT


def is_height(tree):
    """Tell whether the tree is a height, a deadline or a delay."""
    return is_whole(tree) and 0 <= tree <= GREATEST_HEIGHT


def is_flag(tree):
    """Tell whether the tree is True or False."""
    return isinstance(tree, bool)


def has_items(tree, forms):
    """Tell whether the tree is a tuple of as many items as there are forms, each of which has its form."""
    if not isinstance(tree, tuple) or len(tree) != len(forms):
        return False
    return all([is_form(item) for item, is_form in zip(tree, forms)])


def has_all(tree, is_form):
    """Tell whether the tree is a tuple of items that all have the form."""
    return isinstance(tree, tuple) and all([is_form(item) for item in tree])


def is_lock(tree):
    """Tell whether the tree is a lock."""
    return has_items(tree, (is_number, is_amount, is_height, is_flag))


def is_state(tree):
    """Tell whether the tree is a state."""
    return has_items(tree, (is_number, is_number, _is_free, _is_free, _are_locks, is_flag))


def is_opening(tree):
    """Tell whether the tree is an opening."""
    return has_items(tree, (is_number, is_number, is_number, is_amount, is_amount, is_height, is_height))


def is_splice(tree):
    """Tell whether the tree is a splice."""
    return has_items(tree, (
        is_number, is_number, is_number, is_height, is_amount, is_amount, is_amount, is_amount,
    ))


def is_act(tree):
    """Tell whether the tree is an act."""
    return _begins_with_word(tree) and tree[0] in _ACTS and has_items(tree[1:], _ACTS[tree[0]])


def is_thing(tree):
    """Tell whether the tree is a thing."""
    return has_items(tree, (is_act, _are_hands, is_number, is_amount, is_number))


def is_move(tree):
    """Tell whether the tree is a move."""
    return _begins_with_word(tree) and tree[0] in _MOVES and has_items(tree[1:], _MOVES[tree[0]])


def is_step(tree):
    """Tell whether the tree is a step."""
    return has_all(tree, is_move) and len(tree) <= MOST_MOVES


def is_word(tree):
    """Tell whether the tree is a word that a party says."""
    return _begins_with_word(tree) and tree[0] in _WORDS and has_items(tree[1:], _WORDS[tree[0]])


def is_wish(tree):
    """Tell whether the tree is a wish."""
    return _begins_with_word(tree) and tree[0] in _WISHES and has_items(tree[1:], _WISHES[tree[0]])


def is_deed(tree):
    """Tell whether the tree is a deed of a town."""
    return _begins_with_word(tree) and tree[0] in _DEEDS and has_items(tree[1:], _DEEDS[tree[0]])


def _begins_with_word(tree):
    return isinstance(tree, tuple) and len(tree) > 0 and isinstance(tree[0], str)


def _is_free(tree):
    return is_whole(tree) and -GREATEST_FREE <= tree <= GREATEST_FREE


def _are_locks(tree):
    return has_all(tree, is_lock) and len(tree) <= MOST_STATE_LOCKS


def _are_hands(tree):
    return has_all(tree, is_number) and len(tree) <= MOST_HANDS


# For each word with which a value begins, the forms of its other items.
_ACTS = {
    "pay": (is_number, is_amount),
    "open": (is_opening,),
    "publish": (is_state,),
    "settle": (is_number,),
    "splice": (is_splice,),
    "reveal": (is_number,),
}
_MOVES = {
    "lock": (is_number, is_amount, is_height),
    "paid": (is_number, is_number),
    "dropped": (is_number,),
    "back": (is_number,),
    "transfer": (is_amount,),
    "finish": (),
}
_WORDS = {
    "opening": (is_opening,),
    "step": (is_number, is_number, is_step),
    "answer": (is_number, is_number),
    "splice": (is_splice,),
    "turn": (is_number,),
}
_WISHES = {
    "open": (is_opening,),
    "pay": (is_number, is_number, is_amount, is_height),
    "give": (is_number, is_number, is_number, is_amount, is_height),
    "refuse": (is_number, is_number),
    "transfer": (is_number, is_amount),
    "finish": (is_number,),
    "splice": (is_splice,),
    "leave": (is_number,),
    "invoice": (is_number, is_amount),
}
_DEEDS = {
    "offer": (is_thing,),
    "say": (is_number, is_number, is_word),
    "deliver": (is_number,),
    "lose": (is_number,),
    "copy": (is_number,),
    "block": (),
    "tell": (is_number,),
    "wish": (is_number, is_wish),
    "stop": (is_number,),
}

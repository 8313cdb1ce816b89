"""Trees and their texts: each tree has exactly one text.

A tree is an integer, True, False, None, a word of lower-case letters, or a tuple of trees.
"""

from turnpike.errors import InvalidText

MOST_DIGITS = 20
MOST_DEPTH = 20
DIGITS = "0123456789"
LETTERS = "abcdefghijklmnopqrstuvwxyz"


def write_tree(tree):
    """Return the text of the tree."""
    if tree is True:
        return "T"
    if tree is False:
        return "F"
    if tree is None:
        return "N"
    if isinstance(tree, tuple):
        return "(" + " ".join([write_tree(item) for item in tree]) + ")"
    return str(tree)


def read_tree(text, *, line=1):
    """Return the tree with this text, which stands in the line."""
    found = _read_from(text, 0, 0)
    if found is None or found[1] != len(text):
        raise InvalidText(line)
    return found[0]


def _read_from(text, start, depth):
    """Return the tree that begins at the start, within so many tuples, and the end of its text; or None."""
    if text[start:start + 1] == "(":
        return _read_tuple(text, start + 1, depth + 1)
    end = start
    while end < len(text) and text[end] not in " ()":
        end += 1
    return _read_plain(text[start:end], end)


def _read_tuple(text, start, depth):
    """Return the tuple whose items begin at the start, and the end of its text; or None."""
    if depth > MOST_DEPTH:
        return None
    if text[start:start + 1] == ")":
        return ((), start + 1)
    items = []
    end = start - 1
    mark = " "
    while mark == " ":
        found = _read_from(text, end + 1, depth)
        if found is None:
            return None
        item, end = found
        items.append(item)
        mark = text[end:end + 1]
    if mark != ")":
        return None
    return (tuple(items), end + 1)


def _read_plain(text, end):
    """Return the tree with this text, which is no tuple, and the end; or None."""
    if text == "T":
        return (True, end)
    if text == "F":
        return (False, end)
    if text == "N":
        return (None, end)
    if _consists_of(text, LETTERS):
        return (text, end)
    if _is_integer_text(text):
        return (int(text), end)
    return None


def _is_integer_text(text):
    digits = text.removeprefix("-")
    if not _consists_of(digits, DIGITS) or len(digits) > MOST_DIGITS:
        return False
    # Only one text of an integer has no leading zero, and no minus sign in front of a 0.
    return str(int(text)) == text


def _consists_of(text, characters):
    """Tell whether the text has characters, and only these."""
    return text != "" and all([each in characters for each in text])

"""Scripts: texts of deeds, one in each line."""

from turnpike.errors import InvalidText, TurnpikeError
from turnpike.texts.shapes import is_deed
from turnpike.texts.trees import read_tree, write_tree


def write_script(deeds):
    """Return the script with the texts of the deeds."""
    return "\n".join([write_tree(deed) for deed in deeds])


def read_script(text):
    """Return the list of the pairs of the number of a line and its deed, in order."""
    rows = []
    for line, row in enumerate(text.split("\n"), start=1):
        if row != "" and not row.startswith("#"):
            rows.append((line, _read_deed(row, line)))
    return rows


def run_script(town, text):
    """Do the deeds of the script; return the line of the first one that raised an error, or None."""
    for line, deed in read_script(text):
        try:
            town.do(deed)
        except TurnpikeError:
            return line
    return None


def _read_deed(text, line):
    deed = read_tree(text, line=line)
    if not is_deed(deed):
        raise InvalidText(line)
    return deed

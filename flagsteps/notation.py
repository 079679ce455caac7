"""Rules and logs of states as text."""

from flagsteps.checks import WORDS, is_name
from flagsteps.errors import NotationError
from flagsteps.rules import Rules
from flagsteps.states import check_legal


def _rows_of(text):
    """The list of the rows of a text, each a list of words; there is at least one row with at least one word."""
    if not isinstance(text, str):
        raise NotationError(0, 0)
    return [row.split(" ") for row in text.split("\n")]


def _check_row(row, words, heads, least, most):
    """Raise NotationError if a row is not one of the heads and then at least and at most so many names."""
    for index, word in enumerate(words):
        is_right = word in heads if index == 0 else index <= most and is_name(word)
        if not is_right:
            raise NotationError(row, index)
    if len(words) - 1 < least:
        raise NotationError(row, len(words))


def format_rules(rules):
    """The text of rules."""
    rows = [("switches",) + rules.names] + list(rules.clauses)
    return "\n".join([" ".join(row) for row in rows])


def parse_rules(text):
    """The rules of a text."""
    rows = _rows_of(text)
    # Any number of names has the right form here; too many are invalid rules.
    _check_row(0, rows[0], ("switches",), 1, len(rows[0]))
    for index, words in enumerate(rows):
        if index > 0:
            _check_row(index, words, WORDS, 2, 2)
    clauses = tuple([tuple(words) for words in rows[1:]])
    return Rules(tuple(rows[0][1:]), clauses)


def format_log(rules, states):
    """The text of a list of legal states."""
    for state in states:
        check_legal(rules, state)
    return "\n".join([" ".join(("on",) + state) for state in states])


def parse_log(rules, text):
    """The list of the legal states of a text."""
    if text == "":
        return []
    rows = _rows_of(text)
    for index, words in enumerate(rows):
        _check_row(index, words, ("on",), 0, len(words))
    states = [tuple(words[1:]) for words in rows]
    for state in states:
        check_legal(rules, state)
    return states

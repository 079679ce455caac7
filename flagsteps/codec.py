"""Rules, a state and changes as bytes."""

from flagsteps.checks import LETTERS, MOST_CLAUSES, MOST_LETTERS, MOST_NAMES, WORDS, check_switch, is_number
from flagsteps.errors import DecodeError, InvalidCount
from flagsteps.rules import Rules
from flagsteps.states import check_legal

FIRST_BYTE = 70
GREATEST_BYTE = 255
MOST_CHANGES = 200


def _is_byte(value):
    return is_number(value) and 0 <= value <= GREATEST_BYTE


def pack_bytes(values):
    """The bytes with the values of a list."""
    if not isinstance(values, list) or not all([_is_byte(value) for value in values]):
        raise InvalidCount("this is not a list of integers from 0 to 255")
    return bytes(values)


def unpack_bytes(data):
    """The list of the values of bytes."""
    return list(data)


def _checksum(numbers):
    checksum = 3
    for number in numbers:
        checksum = int(7 * checksum + number) % 241
    return checksum


def _numbers_of_names(names):
    numbers = [len(names)]
    for name in names:
        numbers.append(len(name))
        numbers.extend([LETTERS.index(letter) for letter in name])
    return numbers


def _numbers_of_clauses(rules):
    numbers = [len(rules.clauses)]
    for word, first, second in rules.clauses:
        numbers.extend([WORDS.index(word), rules.names.index(first), rules.names.index(second)])
    return numbers


def _numbers_of_state(names, state):
    """The high and the low byte of the number that has a bit for each switch, the lowest one for the last switch."""
    number = 0
    for name in names:
        number = 2 * number + int(name in state)
    return [number >> 8, number & GREATEST_BYTE]


def encode_rollout(rules, state, changes):
    """The bytes of rules, a legal state and a list of changes."""
    check_legal(rules, state)
    if len(changes) > MOST_CHANGES:
        raise InvalidCount("there are too many changes")
    for name in changes:
        check_switch(rules.names, name)
    numbers = [FIRST_BYTE] + _numbers_of_names(rules.names) + _numbers_of_clauses(rules)
    numbers = numbers + _numbers_of_state(rules.names, state)
    numbers = numbers + [len(changes)] + [rules.names.index(name) for name in changes]
    return pack_bytes(numbers + [_checksum(numbers)])


class Reader:
    """Numbers that are read from left to right; the offset is that of the next one."""

    def __init__(self, numbers):
        self.numbers = numbers
        self.offset = 0

    def take(self, least, most):
        """Read the next number, which must be between two others."""
        if self.offset == len(self.numbers):
            raise DecodeError(self.offset)
        number = self.numbers[self.offset]
        if not least <= number <= most:
            raise DecodeError(self.offset)
        self.offset += 1
        return number

    def take_one_of(self, choices):
        """Read the number of one of several choices, and return that choice."""
        return choices[self.take(0, len(choices) - 1)]


def _read_name(reader):
    many = reader.take(1, MOST_LETTERS)
    return "".join([reader.take_one_of(LETTERS) for _ in range(many)])


def _read_names(reader):
    many = reader.take(1, MOST_NAMES)
    names = ()
    for _ in range(many):
        offset = reader.offset
        name = _read_name(reader)
        if name in names:
            raise DecodeError(offset)
        names = names + (name,)
    return names


def _read_clause(reader, names):
    word = reader.take_one_of(WORDS)
    first = reader.take_one_of(names)
    second = reader.take_one_of(names)
    return word, first, second


def _read_clauses(reader, names):
    many = reader.take(0, MOST_CLAUSES)
    return tuple([_read_clause(reader, names) for _ in range(many)])


def _read_state(reader, names):
    offset = reader.offset
    high = reader.take(0, GREATEST_BYTE)
    low = reader.take(0, GREATEST_BYTE)
    number = 256 * high + low
    state = ()
    for name in reversed(names):
        if number & 1:
            state = (name,) + state
        number = number >> 1
    # What is left are bits for further switches.
    if number > 0:
        raise DecodeError(offset)
    return state


def _read_changes(reader, names):
    many = reader.take(0, MOST_CHANGES)
    return [reader.take_one_of(names) for _ in range(many)]


def _read_end(reader):
    """Read the checksum, behind which there is nothing."""
    checksum = _checksum(reader.numbers[:reader.offset])
    reader.take(checksum, checksum)
    if reader.offset < len(reader.numbers):
        raise DecodeError(reader.offset)


def decode_rollout(data):
    """The tuple of the rules, the legal state and the list of the changes that bytes hold."""
    if not isinstance(data, bytes):
        raise DecodeError(0)
    reader = Reader(unpack_bytes(data))
    reader.take(FIRST_BYTE, FIRST_BYTE)
    names = _read_names(reader)
    rules = Rules(names, _read_clauses(reader, names))
    state = _read_state(reader, names)
    changes = _read_changes(reader, names)
    _read_end(reader)
    check_legal(rules, state)
    return rules, state, changes

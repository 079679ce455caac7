"""Point 18: rules, a state and changes as bytes."""

import itertools
import unittest

from flagsteps.codec import decode_rollout, encode_rollout, pack_bytes, unpack_bytes
from flagsteps.errors import DecodeError, IllegalState, InvalidCount, InvalidState
from flagsteps.rules import Rules
from tests.helpers import (NO_NAMES, TEN_NAMES, VALUES_OF_ALL_KINDS, Case, Mixer, all_states, clauses_about,
                           expected_legal, holds, mixed_rules, parts)

# The example of the document: switches a and b, "needs a b", b is on, and the changes b and a.
EXAMPLE = [70, 2, 1, 0, 1, 1, 1, 0, 0, 1, 0, 1, 2, 1, 0, 89]
# Three switches aa, z and b, two clauses, the state aa b, three changes.
LONGER = [70, 3, 2, 0, 0, 1, 25, 1, 1, 2, 2, 0, 2, 1, 1, 1, 0, 5, 3, 1, 0, 2]


def with_checksum(numbers):
    """The numbers and their checksum."""
    checksum = 3
    for number in numbers:
        checksum = divmod(7 * checksum + number, 241)[1]
    return list(numbers) + [checksum]


def data_of(numbers):
    return bytes(with_checksum(numbers))


def reading():
    """Ask for the bytes one after another, each with how many values it may have; return what they tell."""
    yield 70, 71
    names = []
    many_names = yield 1, 11
    for _ in range(many_names):
        many_letters = yield 1, 9
        letters = []
        for _ in range(many_letters):
            letters.append("abcdefghijklmnopqrstuvwxyz"[(yield 0, 26)])
        names.append("".join(letters))
        if names.count(names[-1]) > 1:
            yield -1 - many_letters
    clauses = []
    many_clauses = yield 0, 41
    for _ in range(many_clauses):
        word = yield 0, 3
        first = yield 0, many_names
        second = yield 0, many_names
        clauses.append((("needs", "excludes", "either")[word], names[first], names[second]))
    high = yield 0, 256
    low = yield 0, 256
    bits = bin(256 * high + low)[2:].zfill(16)
    if "1" in bits[:16 - many_names]:
        yield -2
    state = tuple(itertools.compress(names, map(int, bits[16 - many_names:])))
    many_changes = yield 0, 201
    changes = []
    for _ in range(many_changes):
        changes.append(names[(yield 0, many_names)])
    return tuple(names), tuple(clauses), state, changes


def expected(numbers):
    """What bytes hold, or the offset of the first one that is invalid."""
    reader = reading()
    request = next(reader)
    for offset, number in enumerate(numbers):
        if not request[0] <= number < request[1]:
            return offset
        try:
            request = reader.send(number)
        except StopIteration as end:
            if len(numbers) == offset + 1 or numbers[offset + 1] != with_checksum(numbers[:offset + 1])[-1]:
                return offset + 1
            return end.value if len(numbers) == offset + 2 else offset + 2
        if isinstance(request, int):
            return offset + 1 + request
    return len(numbers)


class ExamplesTest(Case):
    def test_pack_and_unpack(self):
        self.same(unpack_bytes(pack_bytes([70, 0, 255])), [70, 0, 255])

    def test_encode(self):
        rules = Rules(("a", "b"), (("needs", "a", "b"),))
        self.same(unpack_bytes(encode_rollout(rules, ("b",), ["b", "a"])), EXAMPLE)

    def test_decode(self):
        self.same(decode_rollout(pack_bytes(EXAMPLE))[1:], (("b",), ["b", "a"]))
        self.same(parts(decode_rollout(pack_bytes(EXAMPLE))[0]), (("a", "b"), (("needs", "a", "b"),)))

    def test_decode_error(self):
        self.fails(DecodeError, {"offset": 1}, decode_rollout, pack_bytes([70, 11]))


class PackTest(Case):
    def test_all_values(self):
        self.same(pack_bytes(list(range(256))), bytes(range(256)))
        self.same(unpack_bytes(bytes(range(256))), list(range(256)))
        self.same([pack_bytes([]), unpack_bytes(b"")], [b"", []])
        self.same(pack_bytes([0, 0, 7]), b"\x00\x00\x07")

    def test_items_that_are_no_bytes(self):
        for value in VALUES_OF_ALL_KINDS + (256, -1, 1000, -256, "0", b"0", b"", [0], (0,)):
            if isinstance(value, bool) or not isinstance(value, int) or not 0 <= value <= 255:
                self.fails(InvalidCount, {}, pack_bytes, [value])
                self.fails(InvalidCount, {}, pack_bytes, [0, 255, value])
                self.fails(InvalidCount, {}, pack_bytes, [value, 0])

    def test_arguments_that_are_no_list(self):
        for value in VALUES_OF_ALL_KINDS + ((0, 1), b"", b"ab", {}, {0: 1}, range(3)):
            if not isinstance(value, list):
                self.fails(InvalidCount, {}, pack_bytes, value)

    def test_the_list_is_neither_modified_nor_kept(self):
        values = [1, 2]
        data = pack_bytes(values)
        values.append(3)
        unpack_bytes(data).append(3)
        self.same([values, data, unpack_bytes(data)], [[1, 2, 3], b"\x01\x02", [1, 2]])


class EncodeTest(Case):
    def test_the_smallest(self):
        self.same(unpack_bytes(encode_rollout(Rules.free("z"), (), [])), with_checksum([70, 1, 1, 25, 0, 0, 0, 0]))
        self.same(unpack_bytes(encode_rollout(Rules.free("z"), (), []))[-1], 83)

    def test_each_part(self):
        rules = Rules(("aa", "z", "b"), (("either", "aa", "b"), ("excludes", "z", "z")))
        self.same(unpack_bytes(encode_rollout(rules, ("aa", "b"), ["z", "aa", "b"])), with_checksum(LONGER))

    def test_each_word(self):
        for word, number in (("needs", 0), ("excludes", 1), ("either", 2)):
            rules = Rules(("a", "b"), ((word, "b", "a"),))
            self.same(unpack_bytes(encode_rollout(rules, ("a",), [])),
                      with_checksum([70, 2, 1, 0, 1, 1, 1, number, 1, 0, 0, 2, 0]))

    def test_all_letters(self):
        names = ("abcdefgh", "ijklmnop", "qrstuvwx", "yz")
        letters = [[8] + list(range(at, at + 8)) for at in (0, 8, 16)] + [[2, 24, 25]]
        self.same(unpack_bytes(encode_rollout(Rules.free(*names), (), [])),
                  with_checksum([70, 4] + sum(letters, []) + [0, 0, 0, 0]))

    def test_the_bits_of_the_state(self):
        rules = Rules.free(*TEN_NAMES)
        for place, name in enumerate(TEN_NAMES):
            number = 2 ** (9 - place)
            self.same(unpack_bytes(encode_rollout(rules, (name,), []))[-4:-2], [number // 256, number - number // 256 * 256])
        self.same(unpack_bytes(encode_rollout(rules, TEN_NAMES, []))[-4:-2], [3, 255])
        self.same(unpack_bytes(encode_rollout(rules, (), []))[-4:-2], [0, 0])

    def test_changes_need_not_be_legal(self):
        rules = Rules(("a", "b"), (("needs", "a", "b"),))
        data = encode_rollout(rules, (), ["a", "a", "b", "a", "b"])
        self.same(unpack_bytes(data)[-7:-1], [5, 0, 0, 1, 0, 1])
        self.same(decode_rollout(data)[1:], ((), ["a", "a", "b", "a", "b"]))

    def test_two_hundred_and_more_changes(self):
        rules = Rules.free("a", "b")
        for many in (199, 200):
            data = encode_rollout(rules, (), ["b"] * many)
            self.same(unpack_bytes(data), with_checksum([70, 2, 1, 0, 1, 1, 0, 0, 0, many] + [1] * many))
            self.same(decode_rollout(data)[2], ["b"] * many)
        for many in (201, 202, 255, 256, 1000):
            self.fails(InvalidCount, {}, encode_rollout, rules, (), ["b"] * many)

    def test_forty_clauses(self):
        state = ("one", "d", "e", "lastname")
        clauses = tuple([clause for clause in clauses_about(TEN_NAMES) if holds(clause, state)][::5][:40])
        rules = Rules(TEN_NAMES, clauses)
        self.same([len(clauses), len({word for word, _, _ in clauses})], [40, 3])
        rules_again, state_again, changes = decode_rollout(encode_rollout(rules, state, list(TEN_NAMES)))
        self.same([parts(rules_again), state_again, changes], [(TEN_NAMES, clauses), state, list(TEN_NAMES)])

    def test_wrong_states(self):
        rules = Rules(("a", "b"), (("either", "b", "b"), ("needs", "a", "b"), ("excludes", "a", "b")))
        for value in VALUES_OF_ALL_KINDS:
            if not isinstance(value, tuple):
                self.fails(InvalidState, {"index": 0}, encode_rollout, rules, value, [])
        for state, error, index in ((("b", "a"), InvalidState, 1), (("x",), InvalidState, 0), ((), IllegalState, 0),
                                    (("a",), IllegalState, 0), (("a", "b"), IllegalState, 2)):
            for changes in ([], ["x"], ["a"] * 201, ["x"] * 201):
                self.fails(error, {"index": index}, encode_rollout, rules, state, changes)

    def test_unknown_switches(self):
        rules = Rules.free("a", "b")
        for value in NO_NAMES + ("c", "ab"):
            self.unknown(value, encode_rollout, rules, (), [value])
            self.unknown(value, encode_rollout, rules, ("b",), ["a", "b", value, "x"])
            self.unknown(value, encode_rollout, rules, ("b",), ["a"] * 199 + [value])

    def test_too_many_changes_come_before_unknown_switches(self):
        for place in (0, 100, 200):
            changes = ["a"] * 201
            changes[place] = None
            self.fails(InvalidCount, {}, encode_rollout, Rules.free("a", "b"), (), changes)

    def test_the_list_is_neither_modified_nor_kept(self):
        changes = ["b", "a"]
        data = encode_rollout(Rules.free("a", "b"), (), changes)
        self.same([changes, encode_rollout(Rules.free("a", "b"), (), changes)], [["b", "a"], data])
        decode_rollout(data)[2].clear()
        self.same(decode_rollout(data)[1:], ((), ["b", "a"]))


class DecodeTest(Case):
    def check(self, numbers):
        """Compare with the reference; what it says of the bytes is returned."""
        content = expected(numbers)
        if isinstance(content, int):
            self.fails(DecodeError, {"offset": content}, decode_rollout, bytes(numbers))
            return content
        names, clauses, state, changes = content
        broken = [index for index, clause in enumerate(clauses) if not holds(clause, state)]
        if broken:
            self.fails(IllegalState, {"index": broken[0]}, decode_rollout, bytes(numbers))
            return "illegal"
        result = decode_rollout(bytes(numbers))
        self.assertIs(type(result), tuple)
        self.assertIs(type(result[0]), Rules)
        self.same((parts(result[0]),) + result[1:], ((names, clauses), state, changes))
        return "good"

    def test_good_bytes(self):
        for numbers in (EXAMPLE, with_checksum(LONGER), with_checksum([70, 1, 1, 25, 0, 0, 0, 0])):
            self.same(self.check(numbers), "good")

    def test_bytes_lead_back_to_what_they_were_made_of(self):
        mixer = Mixer()
        for rules in mixed_rules() + [Rules.free(*TEN_NAMES)]:
            for state in expected_legal(rules)[::9]:
                changes = [mixer.one_of(rules.names) for _ in range(mixer.below(12))]
                data = encode_rollout(rules, state, changes)
                self.assertIs(type(data), bytes)
                self.same(self.check(unpack_bytes(data)), "good")
                again = decode_rollout(data)
                self.same((parts(again[0]),) + again[1:], (parts(rules), state, changes))
                self.same(encode_rollout(*again), data)

    def test_each_state(self):
        rules = Rules.free(*TEN_NAMES)
        for state in all_states(TEN_NAMES):
            self.same(decode_rollout(encode_rollout(rules, state, []))[1], state)

    def test_each_byte_with_each_value(self):
        for numbers in (EXAMPLE[:-1], LONGER):
            seen = []
            for offset in range(len(numbers)):
                for number in range(256):
                    changed = numbers[:offset] + [number] + numbers[offset + 1:]
                    seen.append(self.check(with_checksum(changed)))
                    self.check(changed + with_checksum(numbers)[-1:])
            self.assertLessEqual({"good", "illegal", *range(len(numbers))}, set(seen))

    def test_each_checksum(self):
        for number in range(256):
            self.same(self.check(EXAMPLE[:-1] + [number]), "good" if number == 89 else 15)

    def test_missing_bytes(self):
        for numbers in (EXAMPLE, with_checksum(LONGER), with_checksum([70, 1, 1, 25, 0, 0, 0, 0])):
            for many in range(len(numbers)):
                self.same(self.check(numbers[:many]), many)

    def test_bytes_after_the_checksum(self):
        for number in range(256):
            self.same(self.check(EXAMPLE + [number]), 16)
            self.same(self.check(EXAMPLE + [number] * 3), 16)

    def test_a_wrong_checksum_comes_before_a_byte_after_it(self):
        self.same(self.check(EXAMPLE[:-1] + [88, 0]), 15)

    def test_numbers_that_are_too_great_or_too_small(self):
        self.same(self.check([70, 0]), 1)
        self.same(self.check([70, 11, 9]), 1)
        self.same(self.check([70, 10, 9]), 2)
        self.same(self.check([70, 10, 0]), 2)
        self.same(self.check([70, 1, 8] + [25] * 8 + [41, 3]), 11)
        self.same(self.check([70, 1, 8] + [25] * 8 + [40, 3]), 12)
        self.same(self.check([70, 1, 1, 26]), 3)
        self.same(self.check([70, 1, 1, 0, 1, 0, 1]), 6)
        self.same(self.check([70, 1, 1, 0, 1, 0, 0, 1]), 7)
        self.same(self.check([70, 1, 1, 0, 0, 0, 0, 201]), 7)
        self.same(self.check([70, 1, 1, 0, 0, 0, 0, 200, 1]), 8)

    def test_a_name_that_occurs_twice(self):
        self.same(self.check([70, 3, 1, 0, 1, 1, 1, 0, 0]), 6)
        self.same(self.check([70, 3, 2, 0, 1, 2, 0, 1]), 5)
        self.same(self.check([70, 2, 8] + [3] * 8 + [8] + [3] * 8), 11)
        self.same(self.check(with_checksum([70, 2, 1, 0, 1, 0, 0, 0, 0, 0])), 4)
        # Until the name has been read, another fault is the first one.
        self.same(self.check([70, 2, 2, 0, 0, 2, 0]), 7)
        self.same(self.check([70, 2, 2, 0, 0, 2, 0, 26]), 7)
        # A name may be the beginning of another one.
        self.same(self.check(with_checksum([70, 2, 1, 0, 2, 0, 0, 0, 0, 0, 0])), "good")

    def test_a_state_with_bits_for_further_switches(self):
        for many in range(1, 11):
            letters = sum(([1, letter] for letter in range(many)), [])
            for bit in range(16):
                numbers = [70, many] + letters + [0] + list(divmod(2 ** bit, 256)) + [0]
                offset = 3 + len(letters)
                self.same(self.check(with_checksum(numbers)), "good" if bit < many else offset)
                # After both bytes have been read: if the second one is missing, this is the fault.
                self.same(self.check(numbers[:offset + 1]), offset + 1)
                self.same(self.check(numbers[:offset + 2]), offset + 2 if bit < many else offset)

    def test_an_illegal_state(self):
        data = [70, 2, 1, 0, 1, 1, 3, 0, 1, 1, 2, 1, 1, 1, 0, 1, 0, 0]
        self.fails(IllegalState, {"index": 1}, decode_rollout, data_of(data + [0]))
        data[-1] = 3
        self.fails(IllegalState, {"index": 2}, decode_rollout, data_of(data + [0]))
        data[-1] = 1
        self.same(decode_rollout(data_of(data + [0]))[1], ("b",))

    def test_an_illegal_state_comes_last(self):
        data = [70, 2, 1, 0, 1, 1, 1, 2, 0, 1, 0, 0]
        self.same(self.check(with_checksum(data + [0])), "illegal")
        self.same(self.check(data + [0, 0]), 13)
        self.same(self.check(with_checksum(data + [0]) + [0]), 14)
        self.same(self.check(data + [201]), 12)
        self.same(self.check(with_checksum(data + [1, 2])), 13)
        self.same(self.check(data), 12)

    def test_arguments_that_are_no_bytes(self):
        for value in VALUES_OF_ALL_KINDS + (EXAMPLE, tuple(EXAMPLE), "F"):
            self.fails(DecodeError, {"offset": 0}, decode_rollout, value)

    def test_two_bytes_changed(self):
        mixer = Mixer()
        numbers = with_checksum(LONGER)
        for _ in range(3000):
            changed = list(numbers)
            for _ in range(2):
                changed[mixer.below(len(changed))] = mixer.below(mixer.one_of((3, 12, 256)))
            self.check(changed)
            self.check(with_checksum(changed[:-1]))


if __name__ == "__main__":
    unittest.main()

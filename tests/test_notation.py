"""Point 17: rules and logs of states as text."""

import itertools
import unittest

from flagsteps.errors import IllegalState, InvalidRules, InvalidState, NotationError
from flagsteps.notation import format_log, format_rules, parse_log, parse_rules
from flagsteps.rules import Rules
from tests.helpers import (TEN_NAMES, VALUES_OF_ALL_KINDS, Case, clauses_about, expected_legal, mixed_rules, parts,
                           rules_with_pairs_of_clauses)

NEEDS, EXCLUDES = ("needs", "a", "b"), ("excludes", "b", "c")
# None of these words is a name.
NO_NAME_WORDS = ("", "A", "aB", "Needs", "ninechars", "abcdefghijk", "1", "a1", "a_b", "a-b", "a,", "\t", "a\t", "\u00e4",
                 "\u00df", "\u03b1", "\uff41", "\u0430", "a\r", "\x0b", "\u00a0", "\u2028", "*", "a.b")


def example():
    return Rules(("a", "b", "c"), (NEEDS, EXCLUDES))


def fault(row, word):
    return {"row": row, "word": word}


class ExamplesTest(Case):
    def test_format_rules(self):
        self.same(format_rules(example()), "switches a b c\nneeds a b\nexcludes b c")

    def test_parse_rules(self):
        self.fails(NotationError, fault(1, 2), parse_rules, "switches a b\nneeds a")

    def test_format_log(self):
        self.same(format_log(example(), [(), ("a", "b")]), "on\non a b")

    def test_parse_log(self):
        self.same(parse_log(example(), "on b\non"), [("b",), ()])


class RulesTest(Case):
    def test_without_clauses(self):
        self.same(format_rules(Rules.free("z")), "switches z")
        self.same(parts(parse_rules("switches z")), (("z",), ()))
        self.same(format_rules(Rules.free(*TEN_NAMES)), "switches one b third d e f g h i lastname")
        self.same(parts(parse_rules("switches one b third d e f g h i lastname")), (TEN_NAMES, ()))

    def test_each_word(self):
        text = "switches b a\neither a b\nneeds b a\nexcludes a a\nneeds a a\neither b b"
        clauses = (("either", "a", "b"), ("needs", "b", "a"), ("excludes", "a", "a"), ("needs", "a", "a"),
                   ("either", "b", "b"))
        self.same(format_rules(Rules(("b", "a"), clauses)), text)
        self.same(parts(parse_rules(text)), (("b", "a"), clauses))
        self.assertIs(type(parse_rules(text)), Rules)

    def test_switches_with_the_names_of_words(self):
        names = ("switches", "needs", "on", "excludes", "either")
        clauses = (("needs", "needs", "on"), ("excludes", "switches", "either"), ("either", "either", "excludes"))
        text = ("switches switches needs on excludes either\nneeds needs on\nexcludes switches either\n"
                "either either excludes")
        self.same(format_rules(Rules(names, clauses)), text)
        self.same(parts(parse_rules(text)), (names, clauses))

    def test_texts_lead_back_to_the_rules(self):
        several = [Rules(TEN_NAMES, tuple(clauses_about(TEN_NAMES)[::7][:40]))]
        several += [Rules(("a", "b"), (NEEDS,) * 40)]
        for rules in several + mixed_rules() + rules_with_pairs_of_clauses(("b", "c", "a")):
            self.same(parts(parse_rules(format_rules(rules))), parts(rules))
            self.same(format_rules(parse_rules(format_rules(rules))), format_rules(rules))


class WrongRulesTest(Case):
    def wrong(self, text, row, word):
        self.fails(NotationError, fault(row, word), parse_rules, text)

    def test_the_empty_text(self):
        self.wrong("", 0, 0)

    def test_the_first_word(self):
        for word in NO_NAME_WORDS + ("switch", "Switches", "SWITCHES", "needs", "on", "a", "switchess"):
            self.wrong(word, 0, 0)
            self.wrong(f"{word} a b", 0, 0)
            self.wrong(f"{word} a b\nneeds a b", 0, 0)

    def test_at_least_one_name(self):
        self.wrong("switches", 0, 1)
        self.wrong("switches\nneeds a b", 0, 1)

    def test_names(self):
        for word in NO_NAME_WORDS:
            self.wrong(f"switches {word}", 0, 1)
            self.wrong(f"switches {word} a", 0, 1)
            self.wrong(f"switches a b {word}", 0, 3)
            self.wrong(f"switches a b {word} c\nneeds a b", 0, 3)
            self.wrong("switches" + " a" * 12 + f" {word}", 0, 13)

    def test_spaces(self):
        self.wrong(" switches a", 0, 0)
        self.wrong(" ", 0, 0)
        self.wrong("switches ", 0, 1)
        self.wrong("switches  a", 0, 1)
        self.wrong("switches a ", 0, 2)
        self.wrong("switches a  b", 0, 2)
        self.wrong("switches a b\n needs a b", 1, 0)
        self.wrong("switches a b\nneeds  a b", 1, 1)
        self.wrong("switches a b\nneeds a  b", 1, 2)
        self.wrong("switches a b\nneeds a b ", 1, 3)
        self.wrong("switches a b\nneeds ", 1, 1)
        self.wrong("switches a b\nneeds a ", 1, 2)

    def test_empty_rows(self):
        self.wrong("\n", 0, 0)
        self.wrong("\nswitches a b", 0, 0)
        self.wrong("switches a b\n", 1, 0)
        self.wrong("switches a b\nneeds a b\n", 2, 0)
        self.wrong("switches a b\n\nneeds a b", 1, 0)
        self.wrong("switches a b\n ", 1, 0)

    def test_the_words_of_clauses(self):
        for word in NO_NAME_WORDS + ("need", "needss", "NEEDS", "switches", "on", "a", "b", "implies"):
            self.wrong(f"switches a b\n{word}", 1, 0)
            self.wrong(f"switches a b\n{word} a b", 1, 0)
            self.wrong(f"switches a b\nneeds a b\n{word} a b\nneeds a b", 2, 0)

    def test_rows_that_end_too_early(self):
        for word in ("needs", "excludes", "either"):
            self.wrong(f"switches a b\n{word}", 1, 1)
            self.wrong(f"switches a b\n{word} a", 1, 2)
            self.wrong(f"switches a b\n{word} a b\n{word} b\n{word} a b", 2, 2)

    def test_the_switches_of_clauses(self):
        for word in NO_NAME_WORDS:
            self.wrong(f"switches a b\nneeds {word}", 1, 1)
            self.wrong(f"switches a b\nneeds {word} b", 1, 1)
            self.wrong(f"switches a b\nneeds {word} {word}", 1, 1)
            self.wrong(f"switches a b\nneeds a {word}", 1, 2)
            self.wrong(f"switches a b\neither a b\nneeds a {word} b", 2, 2)

    def test_superfluous_words(self):
        for word in NO_NAME_WORDS + ("a", "b", "needs"):
            self.wrong(f"switches a b\nneeds a b {word}", 1, 3)
            self.wrong(f"switches a b\nneeds a b {word} a b {word}", 1, 3)
            self.wrong(f"switches a b\nneeds a b\neither b a {word}", 2, 3)

    def test_eight_and_nine_letters(self):
        self.same(parse_rules("switches eightabc\nneeds eightabc eightabc").names, ("eightabc",))
        self.wrong("switches eightabc\nneeds eightabc eightabcd", 1, 2)
        self.wrong("switches eightabcd\nneeds eightabc eightabc", 0, 1)

    def test_the_first_wrong_row_and_its_first_wrong_word(self):
        self.wrong("switches a B c D", 0, 2)
        self.wrong("switches a b\nneeds A\nneeds a B c", 1, 1)
        self.wrong("switches a b\nneeds a b\nneeds a B c\nneeds", 2, 2)
        self.wrong("switches\nneeds", 0, 1)
        self.wrong("switches a b\nneeds a b c\nswitches", 1, 3)

    def test_a_second_row_with_switches(self):
        self.wrong("switches a b\nswitches a b", 1, 0)
        self.wrong("needs a b\nswitches a b", 0, 0)

    def test_other_line_ends(self):
        self.wrong("switches a b\r\nneeds a b", 0, 2)
        self.wrong("switches a b\rneeds a b", 0, 2)
        self.wrong("switches a b\nneeds a b\r\n", 1, 2)
        self.wrong("switches a\x0cb", 0, 1)

    def test_arguments_that_are_no_text(self):
        for value in VALUES_OF_ALL_KINDS:
            if not isinstance(value, str):
                self.wrong(value, 0, 0)
                self.fails(NotationError, fault(0, 0), parse_log, example(), value)

    def test_invalid_names(self):
        for text, index in (("switches a a", 1), ("switches a b c b a", 3), ("switches a b a\nneeds x y", 2),
                            ("switches " + " ".join(TEN_NAMES) + " k", 10),
                            ("switches " + " ".join(TEN_NAMES) + " b", 10), ("switches" + " a" * 500, 1)):
            self.fails(InvalidRules, {"part": "names", "index": index}, parse_rules, text)

    def test_invalid_clauses(self):
        for text, index in (("switches a b\nneeds a c", 0), ("switches a b\nneeds a b\neither c b\nneeds d d", 1),
                            ("switches a b\nneeds needs a", 0), ("switches a b" + "\nneeds a b" * 41, 40),
                            ("switches a b" + "\nneeds a b" * 500, 40)):
            self.fails(InvalidRules, {"part": "clauses", "index": index}, parse_rules, text)

    def test_the_form_comes_before_the_rules(self):
        self.wrong("switches a a\nneeds a", 1, 2)
        self.wrong("switches a a B", 0, 3)
        self.wrong("switches a b\nneeds a c\neither a b\nneeds", 3, 1)
        self.wrong("switches a b" + "\nneeds a b" * 41 + "\n", 42, 0)
        self.wrong("switches " + "a " * 12 + "a\nneed", 1, 0)


class LogsTest(Case):
    def test_the_empty_list_and_the_empty_text(self):
        self.same([format_log(example(), []), parse_log(example(), "")], ["", []])

    def test_one_state(self):
        self.same([format_log(example(), [()]), parse_log(example(), "on")], ["on", [()]])
        self.same([format_log(example(), [("c",)]), parse_log(example(), "on c")], ["on c", [("c",)]])

    def test_states_need_no_changes_between_them(self):
        self.same(format_log(example(), [("a", "b"), ("c",), ("c",), ()]), "on a b\non c\non c\non")
        self.same(parse_log(example(), "on a b\non c\non c\non"), [("a", "b"), ("c",), ("c",), ()])

    def test_switches_with_the_names_of_words(self):
        rules = Rules.free("on", "switches", "needs")
        states = [("on",), (), ("on", "needs"), ("switches", "needs")]
        text = "on on\non\non on needs\non switches needs"
        self.same([format_log(rules, states), parse_log(rules, text)], [text, states])

    def test_texts_lead_back_to_the_states(self):
        for rules in mixed_rules() + [Rules.free(*TEN_NAMES)]:
            states = expected_legal(rules)
            self.same(parse_log(rules, format_log(rules, states)), states)
            self.same(format_log(rules, states[::-1]).split("\n"),
                      [" ".join(("on",) + state) for state in states[::-1]] or [""])

    def test_the_list_is_neither_modified_nor_kept(self):
        states = [(), ("b",)]
        self.same([format_log(example(), states), states], ["on\non b", [(), ("b",)]])
        parse_log(example(), "on b").append(5)
        parse_log(example(), "").append(5)
        self.same([parse_log(example(), "on b"), parse_log(example(), "")], [[("b",)], []])


class WrongStatesTest(Case):
    def test_invalid_and_illegal_states(self):
        for states, error, index in (
                ([("a",)], IllegalState, 0), ([("b", "c")], IllegalState, 1), ([("a", "b", "c")], IllegalState, 1),
                ([("b", "a")], InvalidState, 1), ([("a", "x")], InvalidState, 1), ([("b", "b")], InvalidState, 1),
                ([("a", "c", "b")], InvalidState, 2), ([("d",)], InvalidState, 0)):
            for before, behind in itertools.product(([], [()], [("a", "b"), ("c",)]), repeat=2):
                log = before + states + behind
                text = "\n".join(" ".join(("on",) + state) for state in log)
                self.fails(error, {"index": index}, format_log, example(), log)
                self.fails(error, {"index": index}, parse_log, example(), text)

    def test_items_of_all_kinds(self):
        for value in VALUES_OF_ALL_KINDS:
            if not isinstance(value, tuple):
                self.fails(InvalidState, {"index": 0}, format_log, example(), [value])
                self.fails(InvalidState, {"index": 0}, format_log, example(), [(), ("b",), value])

    def test_the_first_state_that_is_not_legal(self):
        self.fails(IllegalState, {"index": 0}, format_log, example(), [(), ("a",), ("b", "a"), ("b", "c")])
        self.fails(InvalidState, {"index": 1}, format_log, example(), [(), ("b", "a"), ("a",), ("b", "c")])
        self.fails(IllegalState, {"index": 0}, parse_log, example(), "on\non a\non b a\non b c")
        self.fails(InvalidState, {"index": 1}, parse_log, example(), "on\non b a\non a\non b c")

    def test_the_empty_state_may_be_illegal(self):
        rules = Rules(("a", "b"), (("needs", "a", "b"), ("either", "a", "b")))
        self.fails(IllegalState, {"index": 1}, format_log, rules, [()])
        self.fails(IllegalState, {"index": 1}, parse_log, rules, "on")
        self.same([format_log(rules, []), parse_log(rules, "")], ["", []])

    def test_any_name_has_the_right_form(self):
        self.fails(InvalidState, {"index": 1}, parse_log, example(), "on b eightabc")
        self.fails(InvalidState, {"index": 0}, parse_log, example(), "on on")
        self.fails(InvalidState, {"index": 3}, parse_log, Rules.free("a", "b", "c"), "on a b c" + " a" * 50)


class WrongLogsTest(Case):
    def wrong(self, text, row, word):
        self.fails(NotationError, fault(row, word), parse_log, example(), text)

    def test_the_first_word_of_a_row(self):
        for word in NO_NAME_WORDS + ("On", "ON", "off", "o", "onn", "a", "switches"):
            if word:
                self.wrong(word, 0, 0)
            self.wrong(f"{word} a", 0, 0)
            self.wrong(f"on b\n{word}", 1, 0)
            self.wrong(f"on b\non\n{word} b\non", 2, 0)

    def test_names(self):
        for word in NO_NAME_WORDS:
            self.wrong(f"on {word}", 0, 1)
            self.wrong(f"on a {word}", 0, 2)
            self.wrong(f"on b\non {word} b", 1, 1)
            self.wrong(f"on b\non a b {word} {word}", 1, 3)

    def test_spaces(self):
        self.wrong(" ", 0, 0)
        self.wrong(" on", 0, 0)
        self.wrong("on ", 0, 1)
        self.wrong("on  b", 0, 1)
        self.wrong("on b ", 0, 2)
        self.wrong("on\non a  b", 1, 2)

    def test_empty_rows(self):
        self.wrong("\n", 0, 0)
        self.wrong("\non", 0, 0)
        self.wrong("on\n", 1, 0)
        self.wrong("on\n\non", 1, 0)
        self.wrong("on b\non\n\n", 2, 0)

    def test_the_form_comes_before_the_states(self):
        self.wrong("on a\non B", 1, 1)
        self.wrong("on b a\non x\n", 2, 0)
        self.wrong("on x y\non b\n on", 2, 0)

    def test_the_first_wrong_row_and_its_first_wrong_word(self):
        self.wrong("on b\non a B C\noff", 1, 2)
        self.wrong("on b\noff A\non C", 1, 0)


if __name__ == "__main__":
    unittest.main()

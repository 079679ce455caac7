"""Point 2: rules, their names and their clauses."""

import unittest

from flagsteps.errors import InvalidClause, InvalidRules, UnknownClause
from flagsteps.rules import Rules
from tests.helpers import NO_NAMES, TEN_NAMES, VALUES_OF_ALL_KINDS, Case, clauses_about

NEEDS = ("needs", "a", "b")
EXCLUDES = ("excludes", "b", "c")
FORTY = tuple((clauses_about(("a", "b")) * 4)[:40])


def example():
    return Rules(("a", "b", "c"), (NEEDS, EXCLUDES))


def names_fault(index):
    return {"part": "names", "index": index}


def clauses_fault(index):
    return {"part": "clauses", "index": index}


class ExamplesTest(Case):
    def test_properties(self):
        rules = example()
        self.same([rules.names, rules.clauses[1]], [("a", "b", "c"), ("excludes", "b", "c")])

    def test_unknown_switch_in_a_clause(self):
        self.fails(InvalidRules, clauses_fault(0), Rules, ("a", "b"), (("needs", "a", "d"),))

    def test_free(self):
        self.same(Rules.free("a", "b").clauses, ())

    def test_with_and_without_clause(self):
        rules = example()
        self.same([rules.with_clause(("either", "a", "c")).clauses[2], rules.without_clause(0).clauses],
                  [("either", "a", "c"), (("excludes", "b", "c"),)])

    def test_unknown_clause(self):
        self.fails(UnknownClause, {}, example().without_clause, 2)


class NamesTest(Case):
    def test_one_name_and_ten_names(self):
        for many in range(1, 11):
            self.same(Rules(TEN_NAMES[:many], ()).names, TEN_NAMES[:many])

    def test_an_eleventh_name(self):
        self.fails(InvalidRules, names_fault(10), Rules, TEN_NAMES + ("k",), ())

    def test_more_than_eleven_names(self):
        self.fails(InvalidRules, names_fault(10), Rules, TEN_NAMES + ("k", "l", "B"), ())

    def test_a_fault_before_the_eleventh_name_comes_first(self):
        self.fails(InvalidRules, names_fault(9), Rules, TEN_NAMES[:9] + ("b", "k"), ())
        self.fails(InvalidRules, names_fault(9), Rules, TEN_NAMES[:9] + ("B", "k"), ())

    def test_no_name(self):
        self.fails(InvalidRules, names_fault(0), Rules, (), ())

    def test_one_to_eight_letters(self):
        for name in ("a", "z", "az", "abcdefgh", "stuvwxyz", "ijklmnop", "qrst", "needs", "on", "switches"):
            self.same(Rules((name,), ()).names, (name,))

    def test_nine_letters(self):
        self.fails(InvalidRules, names_fault(0), Rules, ("abcdefghi",), ())
        self.fails(InvalidRules, names_fault(1), Rules, ("abcdefgh", "abcdefghi"), ())

    def test_the_order_of_the_names_is_kept(self):
        self.same(Rules(("z", "a", "m"), ()).names, ("z", "a", "m"))

    def test_arguments_that_are_no_tuple(self):
        for value in VALUES_OF_ALL_KINDS:
            if not isinstance(value, tuple):
                self.fails(InvalidRules, names_fault(0), Rules, value, ())

    def test_a_list_of_good_names_is_no_tuple(self):
        self.fails(InvalidRules, names_fault(0), Rules, ["a", "b"], ())

    def test_wrong_items_at_each_place(self):
        for value in NO_NAMES:
            for place in range(4):
                names = ("p", "q", "r")[:place] + (value,) + ("s", "t")
                self.fails(InvalidRules, names_fault(place), Rules, names, ())

    def test_a_repeated_name_is_reported_where_it_is_repeated(self):
        self.fails(InvalidRules, names_fault(1), Rules, ("a", "a"), ())
        self.fails(InvalidRules, names_fault(2), Rules, ("a", "b", "a", "b"), ())
        self.fails(InvalidRules, names_fault(3), Rules, ("a", "b", "c", "c"), ())

    def test_the_first_fault_is_reported(self):
        self.fails(InvalidRules, names_fault(1), Rules, ("a", "B", "a", 5), ())
        self.fails(InvalidRules, names_fault(2), Rules, ("a", "b", "a", 5), ())

    def test_names_come_before_clauses(self):
        for clauses in VALUES_OF_ALL_KINDS:
            self.fails(InvalidRules, names_fault(1), Rules, ("a", ""), clauses)

    def test_a_part_of_a_name_is_not_the_same_name(self):
        self.same(Rules(("ab", "a", "b", "abc"), ()).names, ("ab", "a", "b", "abc"))


class ClausesTest(Case):
    def test_no_clause_and_forty_clauses(self):
        for many in range(41):
            self.same(Rules(("a", "b"), FORTY[:many]).clauses, FORTY[:many])

    def test_a_forty_first_clause(self):
        self.fails(InvalidRules, clauses_fault(40), Rules, ("a", "b"), (NEEDS,) * 41)

    def test_more_than_forty_one_clauses(self):
        self.fails(InvalidRules, clauses_fault(40), Rules, ("a", "b"), (NEEDS,) * 40 + (5, NEEDS, None))

    def test_a_fault_before_the_forty_first_clause_comes_first(self):
        self.fails(InvalidRules, clauses_fault(39), Rules, ("a", "b"), (NEEDS,) * 39 + (("needs", "a", "c"), NEEDS))

    def test_all_words_and_switches(self):
        clauses = tuple(clauses_about(("a", "b", "c")))
        self.same(Rules(("a", "b", "c"), clauses).clauses, clauses)

    def test_equal_clauses_are_all_kept(self):
        self.same(Rules(("a", "b"), (NEEDS, NEEDS)).clauses, (NEEDS, NEEDS))

    def test_arguments_that_are_no_tuple(self):
        for value in VALUES_OF_ALL_KINDS:
            if not isinstance(value, tuple):
                self.fails(InvalidRules, clauses_fault(0), Rules, ("a", "b"), value)

    def test_a_list_of_good_clauses_is_no_tuple(self):
        self.fails(InvalidRules, clauses_fault(0), Rules, ("a", "b"), [NEEDS])

    def test_wrong_items_at_each_place(self):
        for value in VALUES_OF_ALL_KINDS:
            if value != NEEDS:
                for place in range(3):
                    clauses = (NEEDS,) * place + (value,) + (NEEDS, ("needs",))
                    self.fails(InvalidRules, clauses_fault(place), Rules, ("a", "b"), clauses)

    def test_wrong_words_and_switches(self):
        for clause in wrong_clauses():
            self.fails(InvalidRules, clauses_fault(1), Rules, ("a", "b"), (NEEDS, clause, clause))


def wrong_clauses():
    """Tuples that are nearly clauses about a and b."""
    found = [("needs", "a"), ("needs",), ("needs", "a", "b", "a"), ("a", "needs", "b"), ("a", "b", "needs"),
             ("need", "a", "b"), ("Needs", "a", "b"), ("needs ", "a", "b"), ("on", "a", "b"), ("eithe", "a", "b"),
             ("needs", "a", "c"), ("needs", "c", "a"), ("needs", "A", "b"), ("needs", "ab", "b"), ("needs", "", "b")]
    for value in NO_NAMES:
        found.extend([(value, "a", "b"), ("needs", value, "b"), ("needs", "a", value)])
    return found


class FreeTest(Case):
    def test_names(self):
        for many in range(1, 11):
            rules = Rules.free(*TEN_NAMES[:many])
            self.same([rules.names, rules.clauses], [TEN_NAMES[:many], ()])
            self.assertIs(type(rules), Rules)

    def test_no_name(self):
        self.fails(InvalidRules, names_fault(0), Rules.free)

    def test_an_eleventh_name(self):
        self.fails(InvalidRules, names_fault(10), Rules.free, *TEN_NAMES, "k")

    def test_wrong_names(self):
        for value in NO_NAMES:
            self.fails(InvalidRules, names_fault(0), Rules.free, value)
            self.fails(InvalidRules, names_fault(1), Rules.free, "p", value, "p")

    def test_a_repeated_name(self):
        self.fails(InvalidRules, names_fault(2), Rules.free, "a", "b", "b")


class WithClauseTest(Case):
    def test_the_clause_comes_last_and_the_old_rules_stay(self):
        rules = example()
        longer = rules.with_clause(("either", "c", "c"))
        self.same(longer.names, ("a", "b", "c"))
        self.same(longer.clauses, (NEEDS, EXCLUDES, ("either", "c", "c")))
        self.same(rules.clauses, (NEEDS, EXCLUDES))
        self.assertIs(type(longer), Rules)

    def test_every_clause(self):
        rules = Rules.free("a", "b")
        for clause in clauses_about(("a", "b")):
            self.same(rules.with_clause(clause).clauses, (clause,))

    def test_an_equal_clause_is_added_again(self):
        self.same(example().with_clause(NEEDS).clauses, (NEEDS, EXCLUDES, NEEDS))

    def test_wrong_clauses(self):
        rules = Rules(("a", "b"), (NEEDS,))
        for clause in wrong_clauses():
            self.fails(InvalidClause, {}, rules.with_clause, clause)
        for value in VALUES_OF_ALL_KINDS:
            if value != NEEDS:
                self.fails(InvalidClause, {}, rules.with_clause, value)
        self.same(rules.clauses, (NEEDS,))

    def test_the_fortieth_clause(self):
        rules = Rules(("a", "b"), (NEEDS,) * 39)
        self.same(rules.with_clause(("either", "a", "b")).clauses, (NEEDS,) * 39 + (("either", "a", "b"),))

    def test_the_forty_first_clause(self):
        rules = Rules(("a", "b"), FORTY)
        self.fails(InvalidRules, clauses_fault(40), rules.with_clause, NEEDS)
        self.same(rules.clauses, FORTY)

    def test_an_invalid_clause_comes_before_too_many(self):
        rules = Rules(("a", "b"), FORTY)
        for clause in wrong_clauses():
            self.fails(InvalidClause, {}, rules.with_clause, clause)


class WithoutClauseTest(Case):
    def test_each_clause(self):
        clauses = (NEEDS, EXCLUDES, ("either", "a", "c"))
        rules = Rules(("a", "b", "c"), clauses)
        self.same(rules.without_clause(0).clauses, (clauses[1], clauses[2]))
        self.same(rules.without_clause(1).clauses, (clauses[0], clauses[2]))
        self.same(rules.without_clause(2).clauses, (clauses[0], clauses[1]))
        self.same(rules.without_clause(1).names, ("a", "b", "c"))
        self.same(rules.clauses, clauses)
        self.assertIs(type(rules.without_clause(1)), Rules)

    def test_only_the_clause_with_the_number_is_removed(self):
        rules = Rules(("a", "b", "c"), (NEEDS, EXCLUDES, NEEDS))
        self.same(rules.without_clause(2).clauses, (NEEDS, EXCLUDES))
        self.same(rules.without_clause(0).clauses, (EXCLUDES, NEEDS))

    def test_forty_clauses(self):
        rules = Rules(("a", "b"), FORTY)
        self.same(rules.without_clause(39).clauses, FORTY[:39])
        self.fails(UnknownClause, {}, rules.without_clause, 40)

    def test_wrong_numbers(self):
        rules = example()
        for value in VALUES_OF_ALL_KINDS:
            if isinstance(value, bool) or value not in (0, 1):
                self.fails(UnknownClause, {}, rules.without_clause, value)
        for value in (-2, -1, 2, 3, "0", "1", (0,), [0]):
            self.fails(UnknownClause, {}, rules.without_clause, value)

    def test_no_clause(self):
        for value in VALUES_OF_ALL_KINDS:
            self.fails(UnknownClause, {}, Rules.free("a").without_clause, value)


class UnchangingTest(Case):
    def test_properties_cannot_be_assigned(self):
        rules = example()
        with self.assertRaises(AttributeError):
            rules.names = ("x",)
        with self.assertRaises(AttributeError):
            rules.clauses = ()
        self.same([rules.names, rules.clauses], [("a", "b", "c"), (NEEDS, EXCLUDES)])

    def test_equal_calls_give_equal_values(self):
        rules = example()
        for _ in range(2):
            self.same(rules.with_clause(NEEDS).clauses, (NEEDS, EXCLUDES, NEEDS))
            self.same(rules.without_clause(0).clauses, (EXCLUDES,))


if __name__ == "__main__":
    unittest.main()

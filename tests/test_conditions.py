import itertools
import random
import unittest

from indoubt.conditions import condition_of, fact_of, holds_in
from indoubt.errors import Contradiction
from indoubt.facts import holds
from indoubt.outcomes import keep, learn, mention, nothing_known
from indoubt.reader import read_fact
from slow_search import SlowSearch

NAMES = ("t1", "t2")
POSSIBLE = (("t1",), ("t2",), ())


def sets_of(outcomes):
    for many in range(len(outcomes) + 1):
        yield from itertools.combinations(outcomes, many)


class ConditionCase(unittest.TestCase):
    def check(self, undecided, possible, all_chosen):
        search = SlowSearch(undecided, possible)
        for chosen in all_chosen:
            condition = condition_of(undecided, possible, chosen)
            self.assertEqual(condition, search.condition(chosen))
            for outcome in possible:
                self.assertIs(holds_in(condition, outcome), outcome in chosen)
                self.assertIs(holds(fact_of(condition), outcome), outcome in chosen)


class Conditions(ConditionCase):
    def test_the_examples(self):
        self.assertEqual(condition_of(NAMES, POSSIBLE, ((),)), ((("t1", False), ("t2", False)),))
        self.assertEqual(condition_of(NAMES, POSSIBLE, (("t1",), ("t2",))), ((("t1", True),), (("t2", True),)))
        self.assertEqual(condition_of(NAMES, POSSIBLE, (("t1",), ())), ((("t2", False),),))

    def test_the_empty_set_and_all_outcomes(self):
        for known in (nothing_known(), mention(nothing_known(), ("a",)), mention(nothing_known(), tuple("abcdef"))):
            self.assertEqual(condition_of(known[1], known[2], ()), ())
            self.assertEqual(condition_of(known[1], known[2], known[2]), ((),))
        self.assertEqual(condition_of(NAMES, POSSIBLE, ()), ())
        self.assertEqual(condition_of(NAMES, POSSIBLE, POSSIBLE), ((),))

    def test_cases_are_in_order(self):
        all_three = mention(nothing_known(), ("a", "b", "c"))[2]
        self.assertEqual(
            condition_of(("a", "b", "c"), all_three, tuple([one for one in all_three if "c" in one or len(one) != 1])),
            ((("c", True),), (("a", True), ("b", True)), (("a", False), ("b", False))))
        self.assertEqual(
            condition_of(("a", "b"), mention(nothing_known(), ("a", "b"))[2], (("a", "b"), ())),
            ((("a", True), ("b", True)), (("a", False), ("b", False))))

    def test_minimal_cases_that_are_not_needed(self):
        # Each outcome agrees with two of the six minimal cases; the last two are looked at first, and left out.
        all_three = mention(nothing_known(), ("a", "b", "c"))[2]
        ring = tuple([one for one in all_three if 0 < len(one) < 3])
        condition = condition_of(("a", "b", "c"), all_three, ring)
        self.assertEqual(condition, (
            (("a", True), ("b", False)), (("a", True), ("c", False)),
            (("a", False), ("b", True)), (("a", False), ("c", True))))
        self.check(("a", "b", "c"), all_three, [ring])

    def test_all_sets_for_up_to_three_names(self):
        for names in ((), ("a",), ("a", "b"), ("a", "b", "c")):
            possible = mention(nothing_known(), names)[2]
            self.check(names, possible, sets_of(possible))

    def test_all_sets_where_not_all_combinations_of_three_names_are_possible(self):
        everything = mention(nothing_known(), ("a", "b", "c"))
        for kept in sets_of(everything[2]):
            if kept:
                _, undecided, possible = keep(everything, kept)
                self.check(undecided, possible, sets_of(possible))

    def test_all_sets_for_four_names(self):
        names = ("a", "b", "c", "d")
        possible = mention(nothing_known(), names)[2]
        search = SlowSearch(names, possible)
        for chosen in sets_of(possible):
            self.assertEqual(condition_of(names, possible, chosen), search.condition(chosen))

    def test_all_sets_where_not_all_combinations_of_four_names_are_possible(self):
        for text in ("one of (a, b, c, d)", "a implies b implies c implies d and a", "(a implies b) and (c implies d)",
                     "not (a and b) and not (c and d)", "a or b and c or d and not a"):
            _, undecided, possible = learn(nothing_known(), read_fact(text))
            self.assertEqual(len(undecided), 4)
            if len(possible) > 10:
                possible = possible[:5] + possible[-5:]
            self.check(undecided, possible, sets_of(possible))

    def test_sets_for_six_names(self):
        rng = random.Random(9)
        _, names, possible = mention(nothing_known(), tuple("abcdef"))
        self.check(names, possible, [
            tuple([one for one in possible if rng.random() < share]) for share in (0.1, 0.5, 0.5, 0.9)])


class Holding(unittest.TestCase):
    def test_conditions_hold(self):
        for condition, outcome, expected in (
                ((), (), False), (((),), (), True), (((),), ("a", "b"), True), (((("a", True),),), ("a", "b"), True),
                (((("a", True),),), ("b",), False), (((("a", False),),), ("b",), True),
                (((("a", True), ("b", False)),), ("a", "b"), False), (((("a", True), ("b", False)),), ("a",), True),
                (((("a", True),), (("b", True),)), ("b",), True), (((("a", True),), (("b", True),)), ("c",), False)):
            self.assertIs(holds_in(condition, outcome), expected)


class Facts(unittest.TestCase):
    def test_conditions_as_facts(self):
        yes_a, no_b = ("commits", "a"), ("not", ("commits", "b"))
        for condition, fact in (
                ((), ("false",)), (((),), ("true",)), (((("a", True),),), yes_a), (((("b", False),),), no_b),
                (((("a", True), ("b", False)),), ("and", (yes_a, no_b))),
                (((("a", True),), (("b", False),)), ("or", (yes_a, no_b))),
                (((("a", True),), (("a", False), ("b", False), ("c", True))),
                 ("or", (yes_a, ("and", (("not", yes_a), no_b, ("commits", "c"))))))):
            self.assertEqual(fact_of(condition), fact)

    def test_learning_the_fact_of_a_condition(self):
        known = learn(nothing_known(), read_fact("(a implies b) and (c or a) and not d"))
        _, undecided, possible = known
        for chosen in sets_of(possible):
            fact = fact_of(condition_of(undecided, possible, chosen))
            if chosen:
                self.assertEqual(learn(known, fact), keep(known, chosen))
            else:
                with self.assertRaises(Contradiction):
                    learn(known, fact)


if __name__ == "__main__":
    unittest.main()

import random
import unittest

from indoubt.inquiries import cheapest, follow, strategy_cost
from indoubt.outcomes import keep, learn, mention, nothing_known
from indoubt.reader import read_fact
from slow_inquiries import slow_cheapest, slow_cost
from slow_search import all_outcomes

COSTS = {"a": 3, "b": 5, "c": 1000, "d": 1}
ZERO = ("result", 0)
ONE = ("result", 1)
TWO = ("result", 2)
ASK_B = ("ask", "b", ONE, TWO)
ASK_A = ("ask", "a", ZERO, ASK_B)


class Strategies(unittest.TestCase):
    def test_costs(self):
        self.assertEqual(strategy_cost(("result", 7), COSTS), 0)
        self.assertEqual(strategy_cost(ASK_B, COSTS), 5)
        self.assertEqual(strategy_cost(ASK_A, COSTS), 8)
        self.assertEqual(strategy_cost(("ask", "a", ASK_B, ZERO), COSTS), 8)
        self.assertEqual(strategy_cost(("ask", "a", ASK_B, ("ask", "c", ZERO, ONE)), COSTS), 1003)
        self.assertEqual(strategy_cost(("ask", "d", ZERO, ZERO), COSTS), 1)

    def test_costs_of_a_name_that_is_asked_twice(self):
        self.assertEqual(strategy_cost(("ask", "b", ASK_B, ZERO), COSTS), 10)
        self.assertEqual(strategy_cost(("ask", "a", ("ask", "a", ZERO, ASK_A), ZERO), COSTS), 14)

    def test_follow(self):
        self.assertEqual(follow(("result", 7), ()), 7)
        self.assertEqual(follow(("result", 7), ("a",)), 7)
        for outcome, index in (((), 2), (("a",), 0), (("b",), 1), (("a", "b"), 0)):
            self.assertEqual(follow(ASK_A, outcome), index)

    def test_follow_a_name_that_is_asked_twice(self):
        strategy = ("ask", "a", ("ask", "b", ("ask", "a", ONE, TWO), ZERO), ("ask", "a", ZERO, ("result", 9)))
        for outcome, index in ((("a", "b"), 1), (("a",), 0), (("b",), 9), ((), 9)):
            self.assertEqual(follow(strategy, outcome), index)

    def test_outcomes_with_other_names(self):
        self.assertEqual(follow(ASK_A, ("x",)), 2)
        self.assertEqual(follow(ASK_A, ("x", "b")), 1)
        self.assertEqual(follow(ASK_A, ("z", "a", "x")), 0)
        self.assertEqual(follow(("ask", "nobody", ONE, TWO), ("a", "b")), 2)

    def test_twelve_questions_on_a_way(self):
        names = [f"t{number}" for number in range(12)]
        costs = {name: 2 ** number for number, name in enumerate(names)}
        strategy = ("result", 99)
        for number, name in enumerate(names):
            strategy = ("ask", name, ("result", number), strategy)
        self.assertEqual(strategy_cost(strategy, costs), 4095)
        self.assertEqual(follow(strategy, ()), 99)
        for number, name in enumerate(names):
            self.assertEqual(follow(strategy, (name,)), number)


class Cheapest(unittest.TestCase):
    def check(self, known, results, costs, cost, strategy):
        self.assertEqual(cheapest(known[1], known[2], tuple(results), costs), (cost, strategy))
        self.compare(known, results, costs)

    def compare(self, known, results, costs):
        """Compares with the slow search, and follows the strategy for each possible outcome."""
        cost, strategy = cheapest(known[1], known[2], tuple(results), costs)
        self.assertEqual(strategy, slow_cheapest(known[1], list(known[2]), list(results), costs))
        self.assertEqual(cost, slow_cost(strategy, costs))
        self.assertEqual(cost, strategy_cost(strategy, costs))
        for outcome, number in zip(known[2], results):
            self.assertEqual(follow(strategy, outcome), number)

    def test_one_result_for_all_outcomes(self):
        self.check(nothing_known(), (0,), {}, 0, ZERO)
        self.check(nothing_known(), (5,), {}, 0, ("result", 5))
        self.check(mention(nothing_known(), ("a", "b")), (3, 3, 3, 3), COSTS, 0, ("result", 3))

    def test_one_name(self):
        self.check(mention(nothing_known(), ("b",)), (1, 0), COSTS, 5, ("ask", "b", ONE, ZERO))

    def test_the_cheaper_name_is_asked_first(self):
        # The results are 0 where exactly one of a and b commits; either can be asked first.
        known = mention(nothing_known(), ("a", "b"))
        self.check(known, (1, 0, 0, 2), COSTS, 8, ("ask", "a", ("ask", "b", ONE, ZERO), ("ask", "b", ZERO, TWO)))
        # Only b matters.
        self.check(known, (1, 0, 1, 0), COSTS, 5, ("ask", "b", ONE, ZERO))
        self.check(known, (1, 1, 0, 0), COSTS, 3, ("ask", "a", ONE, ZERO))

    def test_what_is_cheap_first_need_not_be_cheapest(self):
        # Asking for a first costs 1 + 4 if a aborts; asking for b first costs 4 and tells everything.
        known = learn(nothing_known(), read_fact("a implies b"))
        self.check(known, (0, 0, 1), {"a": 1, "b": 4}, 4, ("ask", "b", ZERO, ONE))

    def test_equal_costs(self):
        known = mention(nothing_known(), ("a", "b"))
        self.check(known, (0, 0, 0, 1), {"a": 2, "b": 2}, 4, ("ask", "a", ZERO, ("ask", "b", ZERO, ONE)))
        self.check(known, (0, 0, 0, 1), {"a": 5, "b": 2}, 7, ("ask", "a", ZERO, ("ask", "b", ZERO, ONE)))
        known = learn(nothing_known(), read_fact("one of (a, b)"))
        self.check(known, (0, 1), {"a": 7, "b": 7}, 7, ("ask", "a", ZERO, ONE))
        self.check(known, (0, 1), {"a": 7, "b": 6}, 6, ("ask", "b", ONE, ZERO))

    def test_names_that_are_known_already_are_not_asked(self):
        known = learn(nothing_known(), read_fact("(a implies b) and (b implies a) and (c or a)"))
        self.assertEqual(known[2], (("a", "b", "c"), ("a", "b"), ("c",)))
        self.check(known, (0, 1, 2), COSTS, 1003, ("ask", "a", ("ask", "c", ZERO, ONE), TWO))

    def test_numbers_of_results_with_gaps(self):
        known = mention(nothing_known(), ("a", "b"))
        self.check(known, (10, 0, 7, 7), COSTS, 8, ("ask", "a", ("ask", "b", ("result", 10), ZERO), ("result", 7)))

    def test_the_cost_is_that_of_the_worst_way(self):
        known = mention(nothing_known(), ("a", "b", "d"))
        results = [0 if "a" in one else 1 + ("b" in one) + 2 * ("d" in one) for one in known[2]]
        self.check(known, results, COSTS, 9, ("ask", "a", ZERO, ("ask", "b", ("ask", "d", ("result", 4), TWO), (
            "ask", "d", ("result", 3), ONE))))

    def test_random_results(self):
        rng = random.Random(50)
        for _ in range(300):
            names = tuple("abcd"[:rng.randrange(5)])
            known = mention(nothing_known(), names)
            known = keep(known, tuple([one for one in known[2] if rng.random() < 0.7]) or known[2][:1])
            costs = {name: rng.randrange(1, 5) for name in known[1]}
            self.compare(known, [rng.randrange(rng.randrange(1, 5)) for _ in known[2]], costs)

    def test_six_names(self):
        rng = random.Random(51)
        names = tuple("abcdef")
        known = mention(nothing_known(), names)
        for _ in range(3):
            costs = {name: rng.randrange(1, 1001) for name in names}
            results = tuple([rng.randrange(2) for _ in known[2]])
            cost, strategy = cheapest(names, known[2], results, costs)
            self.assertEqual(cost, slow_cost(strategy, costs))
            for outcome, number in zip(all_outcomes(names), results):
                self.assertEqual(follow(strategy, outcome), number)


if __name__ == "__main__":
    unittest.main()

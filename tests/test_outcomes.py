import itertools
import random
import unittest

from grammar import FACTS, Grammar
from indoubt.errors import Contradiction, IndoubtError, TooManyUndecided
from indoubt.facts import holds, names_of
from indoubt.outcomes import keep, learn, mention, nothing_known
from indoubt.reader import read_fact

START = ((), (), ((),))


def learned(*texts):
    """The knowledge after the facts have been learned."""
    known = nothing_known()
    for text in texts:
        known = learn(known, read_fact(text))
    return known


def slow_order(undecided, outcomes):
    """The outcomes in their order, by comparing them as the document says."""
    left = list(outcomes)
    ordered = []
    while left:
        first = left[0]
        for other in left[1:]:
            name = next(name for name in undecided if (name in first) != (name in other))
            if name in other:
                first = other
        left.remove(first)
        ordered.append(first)
    return tuple(ordered)


class KnowledgeCase(unittest.TestCase):
    def check_form(self, known):
        """What holds of all knowledge."""
        decided, undecided, possible = known
        names = [name for name, _ in decided]
        self.assertEqual(names, sorted(set(names)))
        self.assertEqual(list(undecided), sorted(set(undecided)))
        self.assertFalse(set(names) & set(undecided))
        self.assertLessEqual(len(undecided), 6)
        self.assertTrue(possible)
        self.assertEqual(possible, slow_order(undecided, set(possible)))
        for outcome in possible:
            self.assertEqual(list(outcome), [name for name in undecided if name in outcome])
        for name in undecided:
            self.assertEqual({name in outcome for outcome in possible}, {True, False})
        for _, commits in decided:
            self.assertIs(type(commits), bool)
        for part in known:
            self.assertIs(type(part), tuple)


class Mentioning(KnowledgeCase):
    def test_nothing_known(self):
        self.assertEqual(nothing_known(), START)

    def test_new_names(self):
        self.assertEqual(mention(START, ("b",)), ((), ("b",), (("b",), ())))
        self.assertEqual(mention(START, ("b", "a")), ((), ("a", "b"), (("a", "b"), ("a",), ("b",), ())))

    def test_doubled_names_count_once(self):
        self.assertEqual(mention(START, ("b", "a", "b", "b")), mention(START, ("a", "b")))
        self.assertEqual(mention(START, ("a", "b", "c", "d", "e", "f") * 2)[1], ("a", "b", "c", "d", "e", "f"))

    def test_no_names(self):
        self.assertEqual(mention(START, ()), START)
        known = learned("a implies b")
        self.assertEqual(mention(known, ()), known)

    def test_known_names(self):
        known = learned("a implies b", "c")
        self.assertEqual(mention(known, ("b", "c", "a")), known)

    def test_possible_outcomes_are_combined(self):
        known = mention(learned("b implies d", "a"), ("c", "d", "a"))
        self.assertEqual(known, ((("a", True),), ("b", "c", "d"), (
            ("b", "c", "d"), ("b", "d"), ("c", "d"), ("c",), ("d",), ())))

    def test_the_order_of_names(self):
        known = mention(START, ("t10", "t9", "t1", "t_"))
        self.assertEqual(known[1], ("t1", "t10", "t9", "t_"))
        self.check_form(known)

    def test_six_names_and_a_seventh(self):
        six = ("f", "e", "d", "c", "b", "a")
        known = mention(START, six)
        self.check_form(known)
        self.assertEqual((known[1], len(known[2])), (tuple(sorted(six)), 64))
        self.assertEqual((known[2][0], known[2][1], known[2][-1]), (tuple(sorted(six)), tuple("abcde"), ()))
        for names, count in ((("g",), 7), (("g", "a", "g"), 7), (("h", "g"), 8)):
            with self.assertRaises(TooManyUndecided) as caught:
                mention(known, names)
            self.assertEqual(caught.exception.count, count)
        with self.assertRaises(TooManyUndecided) as caught:
            mention(START, six + ("g",))
        self.assertEqual(caught.exception.count, 7)

    def test_decided_names_do_not_count(self):
        known = mention(learned("a and not b and c"), ("d", "e", "f", "g", "h", "i", "a", "b"))
        self.check_form(known)
        self.assertEqual(known[1], ("d", "e", "f", "g", "h", "i"))


class Keeping(KnowledgeCase):
    def test_all_outcomes(self):
        for known in (START, learned("a implies b"), learned("one of (a, b, c)", "d")):
            self.assertEqual(keep(known, known[2]), known)

    def test_one_outcome(self):
        known = mention(START, ("a", "b", "c"))
        for outcome in known[2]:
            decided = tuple([(name, name in outcome) for name in ("a", "b", "c")])
            self.assertEqual(keep(known, (outcome,)), (decided, (), ((),)))

    def test_no_outcome(self):
        for known in (START, learned("a implies b"), learned("a")):
            with self.assertRaises(Contradiction) as caught:
                keep(known, ())
            self.assertIsInstance(caught.exception, IndoubtError)
            self.assertIsInstance(caught.exception, ValueError)
            self.assertNotIsInstance(caught.exception, TooManyUndecided)

    def test_names_become_decided(self):
        known = mention(learned("b"), ("a", "c", "d"))
        for kept, expected in (
                ((("a", "c"), ("a",)), ((("a", True), ("b", True), ("d", False)), ("c",), (("c",), ()))),
                ((("c", "d"), ("c",)), ((("a", False), ("b", True), ("c", True)), ("d",), (("d",), ()))),
                ((("a", "c"), ("d",)), ((("b", True),), ("a", "c", "d"), (("a", "c"), ("d",))))):
            self.assertEqual(keep(known, kept), expected)

    def test_all_sets_of_outcomes(self):
        known = mention(learned("not b"), ("a", "c"))
        for many in range(1, 5):
            for kept in itertools.combinations(known[2], many):
                result = keep(known, kept)
                self.check_form(result)
                committed = [name for name, commits in result[0] if commits]
                self.assertEqual([tuple(sorted(list(outcome) + committed)) for outcome in result[2]], list(kept))


class Learning(KnowledgeCase):
    def test_the_example(self):
        known = learn(nothing_known(), ("implies", ("commits", "t1"), ("commits", "t2")))
        self.assertEqual(known, ((), ("t1", "t2"), (("t1", "t2"), ("t2",), ())))
        self.assertEqual(learn(known, ("not", ("commits", "t2"))), ((("t1", False), ("t2", False)), (), ((),)))

    def test_facts_that_are_always_true(self):
        self.assertEqual(learned("true"), START)
        self.assertEqual(learned("a or not a"), mention(START, ("a",)))
        known = learned("a implies b")
        self.assertEqual(learn(known, read_fact("not a or b")), known)

    def test_facts_that_are_never_true(self):
        for first, second in (
                ("true", "false"), ("a", "not a"), ("a implies b", "a and not b"), ("a", "one of (b, b)")):
            known = learned(first)
            with self.assertRaises(Contradiction):
                learn(known, read_fact(second))
            self.assertEqual(known, learned(first))

    def test_facts_with_decided_names(self):
        self.assertEqual(learned("a", "b implies not a"), ((("a", True), ("b", False)), (), ((),)))
        self.assertEqual(learned("a", "a"), learned("a"))
        self.assertEqual(learned("a", "a implies b or c")[1:], (("b", "c"), (("b", "c"), ("b",), ("c",))))
        self.assertEqual(learned("not a", "one of (a, b, c)"), ((("a", False),), ("b", "c"), (("b",), ("c",))))
        self.assertEqual(learned("not a", "a implies b"), ((("a", False),), ("b",), (("b",), ())))

    def test_one_of_names_that_are_listed_twice(self):
        self.assertEqual(learned("one of (a, b, a)"), ((("a", False), ("b", True)), (), ((),)))

    def test_too_many_names_come_before_a_contradiction(self):
        fact = ("and", (("one of", tuple("abcdefg")), ("false",)))
        with self.assertRaises(TooManyUndecided) as caught:
            learn(START, fact)
        self.assertEqual(caught.exception.count, 7)
        self.assertNotIsInstance(caught.exception, Contradiction)
        self.assertIsInstance(caught.exception, IndoubtError)
        self.assertIsInstance(caught.exception, ValueError)
        with self.assertRaises(TooManyUndecided) as caught:
            learn(learned("a", "b or c"), ("and", (("one of", tuple("defghab")), ("not", ("commits", "a")))))
        self.assertEqual(caught.exception.count, 7)
        with self.assertRaises(Contradiction):
            learn(learned("a", "b or c"), ("and", (("one of", tuple("defgab")), ("not", ("commits", "a")))))

    def test_as_the_words_say(self):
        """Random facts, against all outcomes of all names."""
        rng = random.Random(6)
        grammar = Grammar(FACTS)
        names = ("a", "b", "t1")
        for _ in range(60):
            known = nothing_known()
            facts = []
            for _ in range(5):
                tokens = grammar.random_tokens("fact", rng, 0.3)
                tokens = [token if token not in ("wherever", "nota", "a_very_long_name") else "t1" for token in tokens]
                fact = read_fact(" ".join(tokens))
                admitted = [
                    tuple([name for name, commits in zip(names, values) if commits])
                    for values in itertools.product((True, False), repeat=3)]
                admitted = [outcome for outcome in admitted if all(holds(other, outcome) for other in facts + [fact])]
                if not admitted:
                    with self.assertRaises(Contradiction):
                        learn(known, fact)
                    continue
                known = learn(known, fact)
                facts.append(fact)
                self.check_form(known)
                self.check_knowledge(known, {name for one in facts for name in names_of(one)}, admitted)

    def check_knowledge(self, known, mentioned, admitted):
        decided, undecided, possible = known
        self.assertEqual({name for name, _ in decided} | set(undecided), mentioned)
        for name, commits in decided:
            self.assertEqual({name in outcome for outcome in admitted}, {commits})
        said = {tuple([name for name in undecided if name in outcome]) for outcome in admitted}
        self.assertEqual(set(possible), said)


if __name__ == "__main__":
    unittest.main()

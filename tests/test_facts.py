import itertools
import unittest

from indoubt.facts import holds, names_of
from indoubt.reader import read_fact

A = ("commits", "a")
B = ("commits", "b")
YES = ("true",)
NO = ("false",)
ALL = [committed for many in range(4) for committed in itertools.combinations(("a", "b", "c"), many)]


class Truth(unittest.TestCase):
    def check(self, fact, expected):
        """`expected` says for which outcomes of a, b and c the fact is true."""
        for committed in ALL:
            for order in itertools.permutations(committed):
                with self.subTest(fact=fact, committed=order):
                    self.assertIs(holds(fact, order), expected(*[name in committed for name in "abc"]))

    def test_constants(self):
        self.check(YES, lambda a, b, c: True)
        self.check(NO, lambda a, b, c: False)

    def test_commits(self):
        self.check(A, lambda a, b, c: a)
        self.check(B, lambda a, b, c: b)

    def test_names_that_are_not_mentioned_abort(self):
        self.check(("commits", "d"), lambda a, b, c: False)
        self.assertIs(holds(A, ("ab", "b")), False)
        self.assertIs(holds(("one of", ("a", "d")), ("d", "e")), True)

    def test_one_of(self):
        self.check(("one of", ("a",)), lambda a, b, c: a)
        self.check(("one of", ("a", "b")), lambda a, b, c: a != b)
        self.check(("one of", ("c", "a", "b")), lambda a, b, c: a + b + c == 1)
        self.check(("one of", ("d",)), lambda a, b, c: False)

    def test_a_name_that_is_listed_twice_counts_twice(self):
        self.check(("one of", ("a", "a")), lambda a, b, c: False)
        self.check(("one of", ("a", "b", "a")), lambda a, b, c: b and not a)

    def test_operators(self):
        self.check(("not", A), lambda a, b, c: not a)
        self.check(("and", (A, B)), lambda a, b, c: a and b)
        self.check(("or", (A, B)), lambda a, b, c: a or b)
        self.check(("implies", A, B), lambda a, b, c: not a or b)
        self.check(("implies", B, A), lambda a, b, c: not b or a)

    def test_operators_with_several_parts(self):
        self.check(read_fact("a and b and c"), lambda a, b, c: a and b and c)
        self.check(read_fact("a or b or c"), lambda a, b, c: a or b or c)
        self.check(read_fact("(a or not c) and (b implies c) and not one of (a, b)"),
                   lambda a, b, c: (a or not c) and (not b or c) and a == b)
        self.check(read_fact("true and false or (a implies false)"), lambda a, b, c: not a)
        self.check(read_fact("a implies b implies c"), lambda a, b, c: not a or not b or c)

    def test_deep_facts(self):
        fact = A
        for _ in range(20):
            fact = ("not", fact)
        self.check(fact, lambda a, b, c: a)
        fact = B
        for _ in range(20):
            fact = ("implies", A, fact)
        self.check(fact, lambda a, b, c: not a or b)

    def test_large_facts(self):
        self.check(("or", (A,) * 600), lambda a, b, c: a)
        self.check(("and", (A, B) * 300), lambda a, b, c: a and b)
        self.check(("one of", ("d",) * 599 + ("a",)), lambda a, b, c: a)


class Names(unittest.TestCase):
    def check(self, text, names):
        self.assertEqual(names_of(read_fact(text)), names)

    def test_names(self):
        self.check("true", ())
        self.check("not false and true", ())
        self.check("a", ("a",))
        self.check("one of (c, b, a)", ("c", "b", "a"))
        self.check("not b or a and (d implies c)", ("b", "a", "d", "c"))

    def test_names_that_stand_several_times(self):
        self.check("b and a and b", ("b", "a"))
        self.check("one of (b, b, a, b)", ("b", "a"))
        self.check("c implies (one of (b, c) or a) implies not b", ("c", "b", "a"))

    def test_many_names(self):
        names = tuple([f"t{number}" for number in range(599, -1, -1)])
        self.assertEqual(names_of(("one of", names)), names)
        self.assertEqual(names_of(("and", tuple([("commits", name) for name in names]))), names)

    def test_deep_facts(self):
        fact = ("one of", ("b", "a"))
        for _ in range(20):
            fact = ("not", fact)
        self.assertEqual(names_of(fact), ("b", "a"))


if __name__ == "__main__":
    unittest.main()

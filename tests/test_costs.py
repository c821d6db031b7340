import random
import unittest

from building import ALWAYS, NEVER, cmp, col, is_number, named, num
from indoubt.costs import formula_size, node_count, potential, rows_made, rows_read
from indoubt.queries import answer_of
from indoubt.reader import read_query
from indoubt.schemas import relations_of
from random_queries import SCHEMA, random_query, random_tables

A = is_number("a", 1)
B = cmp(col("b"), "<", num(2))
WITH_OPERAND = ("join", "union", "minus", "matching", "without")
RELATIONS = {
    "t": (("a", "b"), ((1, 1), (1, 2), (2, 1), (3, 3))),
    "u": (("a", "b"), ((1, 2), (3, 3), (4, 4))),
    "v": (("b", "c"), ((1, 7), (1, 8), (2, 9))),
    "w": (("d",), ((1,), (2,))),
    "x": (("b", "c"), ((5, 5), (6, 6))),
    "none": (("a", "b"), ()),
}


def all_queries(query):
    """The query and all queries in it, as often as they stand there."""
    yield query
    if query[0] != "name":
        yield from all_queries(query[1])
    if query[0] in WITH_OPERAND:
        yield from all_queries(query[2])


class Sizes(unittest.TestCase):
    def check(self, formula, size):
        self.assertEqual(formula_size(formula), size)

    def test_comparisons_and_constants(self):
        for formula in (A, B, ALWAYS, NEVER):
            self.check(formula, 1)

    def test_not_and_implies(self):
        self.check(("not", A), 2)
        self.check(("not", ("not", ALWAYS)), 3)
        self.check(("implies", A, B), 3)
        self.check(("implies", ("implies", A, B), ("not", NEVER)), 6)

    def test_and_and_or(self):
        for word in ("and", "or"):
            self.check((word, (A, B)), 3)
            self.check((word, (A, B, ALWAYS)), 5)
            self.check((word, (A, (word, (B, ALWAYS)))), 5)
            self.check((word, (("not", A), ("implies", A, B), B)), 8)

    def test_large_formulas(self):
        self.check(("and", (A,) * 40), 79)
        self.check(("or", (ALWAYS,) * 40), 79)
        formula = A
        for _ in range(20):
            formula = ("not", formula)
        self.check(formula, 21)


class Nodes(unittest.TestCase):
    def check(self, text, nodes, expected):
        query = read_query(text)
        self.assertEqual((node_count(query), potential(query)), (nodes, expected))

    def test_the_example(self):
        self.check("a | union b | where x = 1 and y = 2", 3, 12)

    def test_names_and_stages(self):
        self.check("t", 1, 1)
        self.check("t | select a", 2, 2)
        self.check("t | group: n = count", 2, 2)
        for word in WITH_OPERAND:
            self.check(f"t | {word} u", 3, 3)
            self.check(f"t | {word} (u | select a)", 4, 4)
            self.check(f"t | {word} (u | {word} t) | {word} t", 7, 7)

    def test_where(self):
        self.check("t | where a = 1", 1, 2)
        self.check("t | where not a = 1", 1, 3)
        self.check("t | where a = 1 | where b = 2", 1, 3)

    def test_where_above_and_below_other_stages(self):
        self.check("t | where a = 1 | select a", 2, 3)
        self.check("t | select a | where a = 1", 2, 4)
        self.check("t | where a = 1 | select a | where a = 1 or true", 2, 9)
        self.check("t | join u | where a = 1 | join (v | where b = 1) | where true", 5, 5 + 3 + 1 + 5)
        self.check("t | union (u | where a = 1 and b = 2) | group: n = count", 4, 7)

    def test_a_query_that_stands_at_two_positions(self):
        self.check("t | select a | where a = 1 | union (t | select a | where a = 1)", 5, 9)


class Rows(unittest.TestCase):
    def check(self, text, made, read):
        query = read_query(text)
        before = dict(RELATIONS)
        self.assertEqual((rows_made(query, RELATIONS), rows_read(query, RELATIONS)), (made, read))
        self.assertEqual(list(RELATIONS.items()), list(before.items()))

    def test_names(self):
        for name in RELATIONS:
            self.check(name, 0, 0)

    def test_where(self):
        self.check("t | where a = 1", 0, 0)
        self.check("t | where false | where true", 0, 0)

    def test_select(self):
        self.check("t | select a", 3, 4)
        self.check("t | select a = 1", 1, 4)
        self.check("none | select a", 0, 0)

    def test_group(self):
        self.check("t | group by a: n = count", 3, 4)
        self.check("t | group: n = count", 1, 4)
        self.check("none | group: n = count", 0, 0)

    def test_union(self):
        self.check("t | union u", 5, 7)
        self.check("t | union t", 4, 8)
        self.check("none | union u", 3, 3)

    def test_stages_that_compare_rows(self):
        self.check("t | minus u", 2, 12)
        self.check("t | matching u", 2, 12)
        self.check("t | without u", 2, 12)
        self.check("t | without v", 1, 12)
        self.check("t | join v", 5, 12)
        self.check("t | join w", 8, 8)
        self.check("t | minus none", 4, 0)
        self.check("none | without t", 0, 0)

    def test_a_join_without_common_rows(self):
        self.check("t | join x", 0, 8)
        self.check("t | matching x", 0, 8)

    def test_several_stages(self):
        self.check("t | select a | union (u | select a)", 3 + 3 + 4, 4 + 3 + 6)
        self.check("t | join v | select a | group: n = count", 5 + 2 + 1, 12 + 5 + 2)

    def test_where_below_and_above_other_stages(self):
        self.check("t | where a = 1 | select a", 1, 2)
        self.check("t | select a | where a = 1", 3, 4)
        self.check("t | where a = 1 | join (v | where c = 9)", 1, 2)
        self.check("t | join v | where a = 1 and c = 9", 5, 12)

    def test_a_query_that_stands_at_two_positions(self):
        self.check("t | select a | join (t | select a)", 3 + 3 + 3, 4 + 4 + 9)

    def test_as_the_words_say(self):
        rng = random.Random(4)
        for _ in range(200):
            query = random_query(rng, rng.randrange(7))
            relations = relations_of(SCHEMA, random_tables(rng, False))
            with self.subTest(query=query):
                self.assertEqual(rows_made(query, relations), self.slow_made(query, relations))
                self.assertEqual(rows_read(query, relations), self.slow_read(query, relations))

    def slow_made(self, query, relations):
        made = [part for part in all_queries(query) if part[0] not in ("where", "name")]
        return sum([len(answer_of(part, relations)[1]) for part in made])

    def slow_read(self, query, relations):
        total = 0
        for part in all_queries(query):
            if part[0] in ("select", "group"):
                total += len(answer_of(part[1], relations)[1])
            elif part[0] in WITH_OPERAND:
                left = len(answer_of(part[1], relations)[1])
                right = len(answer_of(part[2], relations)[1])
                total += left + right if part[0] == "union" else left * right
        return total


if __name__ == "__main__":
    unittest.main()

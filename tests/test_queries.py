import itertools
import unittest

from building import ALWAYS, NEVER, cmp, col, copies, integers, minus, named, num, one, plus, strings, txt
from indoubt.queries import agree, answer_of, names_in
from indoubt.shapes import shape_of

ACCOUNT = (("id", "owner", "balance"), ((1, "ada", 100), (2, "bob", 20), (3, "ada", 5)))
OWNER = (("owner", "city"), (("ada", "rome"), ("ada", "york"), ("cleo", "oslo")))
TURNED = (("balance", "owner", "id"), ((5, "ada", 3), (20, "bob", 9), (100, "ada", 1)))
MORE = (("id", "owner", "balance"), ((0, "eve", 7), (2, "bob", 20), (3, "ada", 6)))
NUMBER = (("x",), ((-10,), (2,), (10,)))
EMPTY = (("y",), ())
RELATIONS = {
    "account": ACCOUNT, "owner": OWNER, "turned": TURNED, "more": MORE, "number": NUMBER, "empty": EMPTY,
}
SHAPES = {
    "account": (integers("id") + strings("owner") + integers("balance"), 9),
    "owner": (strings("owner", "city"), 9),
    "turned": (integers("balance") + strings("owner") + integers("id"), 9),
    "more": (integers("id") + strings("owner") + integers("balance"), 9),
    "number": (integers("x"), 9),
    "empty": (integers("y"), 9),
}
A = named("account")


def has_shape(relation, shape):
    names, rows = relation
    columns, most = shape
    if names != tuple([name for name, _ in columns]) or len(rows) > most:
        return False
    for row in rows:
        for value, (_, kind) in zip(row, columns):
            if kind == ("string",):
                if type(value) is not str:
                    return False
            elif type(value) is not int or abs(value) > kind[1]:
                return False
    return len({len(row) for row in rows} - {len(names)}) == 0


class AnswerCase(unittest.TestCase):
    def check(self, query, names, rows):
        before = dict(RELATIONS)
        answer = answer_of(query, RELATIONS)
        self.assertEqual(answer, (names, rows))
        self.assertTrue(has_shape(answer, shape_of(query, SHAPES)))
        self.assertEqual(list(RELATIONS.items()), list(before.items()))


class Stages(AnswerCase):
    def test_name(self):
        self.check(A, *ACCOUNT)
        self.check(named("empty"), *EMPTY)

    def test_where(self):
        self.check(("where", A, cmp(col("owner"), "=", txt("ada"))), ACCOUNT[0], ((1, "ada", 100), (3, "ada", 5)))
        self.check(("where", A, ("not", cmp(col("balance"), ">", col("id")))), ACCOUNT[0], ())
        self.check(("where", A, ALWAYS), *ACCOUNT)
        self.check(("where", A, NEVER), ACCOUNT[0], ())

    def test_select(self):
        items = (("b", minus(col("balance"), col("id"))), ("owner", one(col("owner"))))
        self.check(("select", A, items), ("b", "owner"), ((2, "ada"), (18, "bob"), (99, "ada")))
        self.check(("select", A, copies("balance", "id")), ("balance", "id"), ((5, 3), (20, 2), (100, 1)))
        self.check(("select", named("number"), (("n", minus(num(0), col("x"))),)), ("n",), ((-10,), (-2,), (10,)))

    def test_rows_that_become_equal_are_one_row(self):
        self.check(("select", A, copies("owner")), ("owner",), (("ada",), ("bob",)))
        self.check(("select", A, (("one", one(num(1))),)), ("one",), ((1,),))
        self.check(("select", named("empty"), (("one", one(num(1))),)), ("one",), ())

    def test_join(self):
        names = ("id", "owner", "balance", "city")
        rows = ((1, "ada", 100, "rome"), (1, "ada", 100, "york"), (3, "ada", 5, "rome"), (3, "ada", 5, "york"))
        self.check(("join", A, named("owner")), names, rows)
        rows = (("ada", "rome", 1, 100), ("ada", "rome", 3, 5), ("ada", "york", 1, 100), ("ada", "york", 3, 5))
        self.check(("join", named("owner"), A), ("owner", "city", "id", "balance"), rows)

    def test_join_without_common_columns(self):
        pairs = (("city", one(col("city"))),)
        rows = tuple(itertools.product((-10, 2, 10), ("oslo", "rome", "york")))
        self.check(("join", named("number"), ("select", named("owner"), pairs)), ("x", "city"), rows)
        self.check(("join", named("number"), named("empty")), ("x", "y"), ())
        self.check(("join", named("empty"), named("number")), ("y", "x"), ())

    def test_join_with_all_columns_in_common(self):
        self.check(("join", A, named("turned")), ACCOUNT[0], ((1, "ada", 100), (3, "ada", 5)))
        self.check(("join", A, A), *ACCOUNT)

    def test_join_on_several_columns(self):
        left = ("select", A, copies("id", "owner"))
        right = ("select", named("more"), (("balance", one(col("balance"))),) + copies("owner", "id"))
        self.check(("join", left, right), ACCOUNT[0], ((2, "bob", 20), (3, "ada", 6)))

    def test_union(self):
        rows = ((0, "eve", 7), (1, "ada", 100), (2, "bob", 20), (3, "ada", 5), (3, "ada", 6))
        self.check(("union", A, named("more")), ACCOUNT[0], rows)
        self.check(("union", named("more"), A), ACCOUNT[0], rows)
        self.check(("union", A, A), *ACCOUNT)

    def test_minus(self):
        self.check(("minus", A, named("more")), ACCOUNT[0], ((1, "ada", 100), (3, "ada", 5)))
        self.check(("minus", A, A), ACCOUNT[0], ())
        self.check(("minus", A, ("where", A, NEVER)), *ACCOUNT)

    def test_matching_and_without(self):
        self.check(("matching", A, named("owner")), ACCOUNT[0], ((1, "ada", 100), (3, "ada", 5)))
        self.check(("without", A, named("owner")), ACCOUNT[0], ((2, "bob", 20),))
        self.check(("matching", named("owner"), A), OWNER[0], (("ada", "rome"), ("ada", "york")))
        self.check(("without", named("owner"), A), OWNER[0], (("cleo", "oslo"),))
        self.check(("matching", A, named("turned")), ACCOUNT[0], ((1, "ada", 100), (3, "ada", 5)))
        self.check(("without", A, named("turned")), ACCOUNT[0], ((2, "bob", 20),))

    def test_matching_and_without_where_no_column_is_common(self):
        self.check(("matching", A, named("number")), *ACCOUNT)
        self.check(("without", A, named("number")), ACCOUNT[0], ())
        self.check(("matching", A, named("empty")), ACCOUNT[0], ())
        self.check(("without", A, named("empty")), *ACCOUNT)

    def test_stages_are_applied_one_after_the_other(self):
        query = ("minus", ("union", A, named("more")), named("more"))
        self.check(query, ACCOUNT[0], ((1, "ada", 100), (3, "ada", 5)))
        query = ("union", A, ("minus", named("more"), named("more")))
        self.check(query, *ACCOUNT)


class Groups(AnswerCase):
    EVERYTHING = (
        ("n", "count", None), ("all", "sum", "balance"), ("low", "least", "balance"), ("top", "greatest", "balance"),
    )

    def test_the_examples_of_the_document(self):
        aggregates = (("n", "count", None), ("all", "sum", "balance"), ("top", "greatest", "balance"))
        rows = (("ada", 2, 105, 100), ("bob", 1, 20, 20))
        self.check(("group", A, ("owner",), aggregates), ("owner", "n", "all", "top"), rows)
        chosen = ("select", A, copies("owner"))
        self.check(("group", chosen, (), (("n", "count", None),)), ("n",), ((2,),))

    def test_without_keys(self):
        self.check(("group", A, (), self.EVERYTHING), ("n", "all", "low", "top"), ((3, 125, 5, 100),))
        self.check(("group", named("number"), (), (("s", "sum", "x"), ("l", "least", "x"))), ("s", "l"), ((2, -10),))

    def test_no_rows(self):
        nothing = ("where", A, NEVER)
        self.check(("group", nothing, (), self.EVERYTHING), ("n", "all", "low", "top"), ())
        self.check(("group", nothing, ("owner",), self.EVERYTHING), ("owner", "n", "all", "low", "top"), ())

    def test_several_keys_in_another_order(self):
        rows = (("ada", 1, 1), ("ada", 3, 1), ("bob", 2, 1))
        self.check(("group", A, ("owner", "id"), (("n", "count", None),)), ("owner", "id", "n"), rows)
        rows = ((1, "ada", 100), (2, "bob", 20), (3, "ada", 5))
        self.check(("group", A, ("id", "owner"), (("s", "sum", "balance"),)), ("id", "owner", "s"), rows)

    def test_least_and_greatest_of_strings(self):
        aggregates = (("first", "least", "city"), ("last", "greatest", "city"))
        self.check(("group", named("owner"), (), aggregates), ("first", "last"), (("oslo", "york"),))
        rows = (("ada", "rome", "york"), ("cleo", "oslo", "oslo"))
        self.check(("group", named("owner"), ("owner",), aggregates), ("owner", "first", "last"), rows)
        relations = {"t": (("s",), (("",), ("a",), ("aa",), ("b",)))}
        query = ("group", named("t"), (), (("first", "least", "s"), ("last", "greatest", "s")))
        self.assertEqual(answer_of(query, relations), (("first", "last"), (("", "b"),)))

    def test_equal_values_in_different_rows_count_each(self):
        relations = {"t": (("k", "x"), ((1, 5), (2, 5), (3, 5)))}
        query = ("group", named("t"), (), (("n", "count", None), ("s", "sum", "x")))
        self.assertEqual(answer_of(query, relations), (("n", "s"), ((3, 15),)))

    def test_integers_beyond_64_bits(self):
        relations = {"t": (("k", "x"), ((1, 2 ** 64), (2, 2 ** 64)))}
        query = ("group", named("t"), (), (("s", "sum", "x"),))
        self.assertEqual(answer_of(query, relations), (("s",), ((2 ** 65,),)))


class LargeRelations(unittest.TestCase):
    def test_three_thousand_rows(self):
        rows = tuple([(number, number // 3) for number in range(3000)])
        relations = {"q": (("a", "b"), rows), "r": (("b", "a"), tuple([(n // 3, n) for n in range(0, 3000, 2)]))}
        self.assertEqual(len(answer_of(("matching", named("q"), named("r")), relations)[1]), 1500)
        self.assertEqual(len(answer_of(("without", named("q"), named("r")), relations)[1]), 1500)
        self.assertEqual(answer_of(("minus", named("q"), named("q")), relations)[1], ())


class Agree(unittest.TestCase):
    def test_common_columns(self):
        self.assertIs(agree(("a", "b"), (1, "x"), ("b", "c"), ("x", 3)), True)
        self.assertIs(agree(("a", "b"), (1, "x"), ("b", "c"), ("y", 1)), False)

    def test_columns_in_another_order(self):
        self.assertIs(agree(("a", "b", "c"), (1, 2, 3), ("c", "a"), (3, 1)), True)
        self.assertIs(agree(("a", "b", "c"), (1, 2, 3), ("c", "a"), (1, 3)), False)
        self.assertIs(agree(("a", "b", "c"), (1, 2, 3), ("c", "a"), (3, 2)), False)
        self.assertIs(agree(("c", "a"), (3, 2), ("a", "b", "c"), (1, 2, 3)), False)

    def test_no_common_columns(self):
        self.assertIs(agree(("a",), (1,), ("b",), (2,)), True)


class NamesIn(unittest.TestCase):
    def test_a_name(self):
        self.assertEqual(names_in(A), ("account",))

    def test_the_order_of_first_occurrence(self):
        inner = ("where", ("join", named("d"), ("union", named("b"), named("e"))), ALWAYS)
        query = ("select", ("minus", ("matching", named("c"), inner), named("a")), copies("b"))
        self.assertEqual(names_in(query), ("c", "d", "b", "e", "a"))

    def test_each_once(self):
        query = ("union", ("join", named("b"), ("join", named("a"), named("b"))), named("a"))
        self.assertEqual(names_in(query), ("b", "a"))

    def test_every_stage_with_an_operand(self):
        for word in ("join", "union", "minus", "matching", "without"):
            self.assertEqual(names_in((word, named("b"), named("a"))), ("b", "a"))
        count = (("n", "count", None),)
        self.assertEqual(names_in(("group", ("select", A, copies("id")), (), count)), ("account",))


if __name__ == "__main__":
    unittest.main()

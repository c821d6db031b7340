import unittest

from building import ALWAYS, cmp, col, copies, integers, minus, named, num, one, plus, strings, txt
from indoubt.errors import (
    ColumnsDiffer, DuplicateColumn, IndoubtError, KindsDiffer, MixedComparison, StringArithmetic, TooManyRows,
    UnknownColumn, UnknownTable, ValueTooLarge,
)
from indoubt.shapes import shape_of

LARGEST = 1000000000000
ACCOUNT = (integers("id") + strings("owner") + integers("balance", bound=5000), 50)
OWNED = (integers("id", bound=9) + strings("city"), 60)
SHAPES = {
    "account": ACCOUNT,
    "owned": OWNED,
    "same": (integers("id", bound=7) + strings("owner") + integers("balance", bound=6000), 30),
    "turned": (strings("owner") + integers("id") + integers("balance"), 30),
    "mixed": (strings("balance", "id"), 2),
    "other": (integers("x"), 61),
    "empty": (integers("y"), 0),
    "full": (integers("id") + integers("large", bound=LARGEST), 3000),
}
A = named("account")
UNKNOWN = named("nothing")


class ShapeCase(unittest.TestCase):
    def check(self, query, columns, most):
        self.assertEqual(shape_of(query, SHAPES), (columns, most))

    def refuse(self, query, error, name=None):
        before = dict(SHAPES)
        with self.assertRaises(IndoubtError) as caught:
            shape_of(query, SHAPES)
        self.assertIs(type(caught.exception), error)
        if name is not None:
            self.assertEqual(caught.exception.name, name)
        self.assertEqual(SHAPES, before)


class Shapes(ShapeCase):
    def test_name(self):
        self.check(A, *ACCOUNT)
        self.check(named("full"), *SHAPES["full"])

    def test_where(self):
        self.check(("where", A, cmp(col("owner"), "=", txt("ada"))), *ACCOUNT)

    def test_select(self):
        items = (
            ("b", one(col("balance"))), ("total", plus(col("balance"), num(-20), col("id"))),
            ("fixed", one(num(-3))), ("who", one(col("owner"))), ("text", one(txt("x"))),
        )
        columns = (
            ("b", ("integer", 5000)), ("total", ("integer", 1005020)), ("fixed", ("integer", 3)),
            ("who", ("string",)), ("text", ("string",)),
        )
        self.check(("select", A, items), columns, 50)

    def test_a_selection_may_exchange_names(self):
        items = (("id", one(col("balance"))), ("balance", one(col("id"))))
        self.check(("select", A, items), (("id", ("integer", 5000)), ("balance", ("integer", 1000000))), 50)

    def test_join(self):
        self.check(("join", A, named("owned")), ACCOUNT[0] + strings("city"), 3000)
        self.check(("join", named("owned"), A), OWNED[0] + strings("owner") + integers("balance", bound=5000), 3000)

    def test_join_without_and_with_all_columns_in_common(self):
        self.check(("join", named("mixed"), named("other")), strings("balance", "id") + integers("x"), 122)
        self.check(("join", A, named("same")), ACCOUNT[0], 1500)
        self.check(("join", A, named("turned")), ACCOUNT[0], 1500)
        self.check(("join", named("full"), named("empty")), SHAPES["full"][0] + integers("y"), 0)

    def test_union(self):
        columns = integers("id") + strings("owner") + integers("balance", bound=6000)
        self.check(("union", A, named("same")), columns, 80)
        self.check(("union", named("same"), A), columns, 80)

    def test_stages_that_keep_the_shape(self):
        self.check(("minus", A, named("same")), *ACCOUNT)
        for word in ("matching", "without"):
            for name in ("same", "turned", "owned", "other", "full"):
                self.check((word, A, named(name)), *ACCOUNT)

    def test_group(self):
        aggregates = (
            ("n", "count", None), ("all", "sum", "balance"), ("low", "least", "balance"), ("last", "greatest", "owner"),
        )
        made = (
            ("n", ("integer", 50)), ("all", ("integer", 250000)), ("low", ("integer", 5000)), ("last", ("string",)),
        )
        self.check(("group", A, (), aggregates), made, 50)
        self.check(("group", A, ("owner", "id"), aggregates), strings("owner") + integers("id") + made, 50)

    def test_an_aggregate_may_have_the_name_of_a_column(self):
        self.check(("group", A, ("owner",), (("id", "count", None),)), strings("owner") + (("id", ("integer", 50)),), 50)

    def test_bounds_depend_on_the_stage_before(self):
        twice = ("union", A, A)
        self.check(("group", twice, (), (("n", "count", None), ("all", "sum", "balance"))),
                   (("n", ("integer", 100)), ("all", ("integer", 500000))), 100)
        counted = ("group", A, ("owner",), (("n", "count", None),))
        self.check(("select", counted, (("more", plus(col("n"), num(1))),)), (("more", ("integer", 51)),), 50)

    def test_an_empty_relation(self):
        self.check(("group", named("empty"), (), (("n", "count", None), ("s", "sum", "y"))),
                   (("n", ("integer", 0)), ("s", ("integer", 0))), 0)

    def test_the_argument_is_unchanged(self):
        before = dict(SHAPES)
        shape_of(("join", A, ("group", named("owned"), ("id",), (("n", "count", None),))), SHAPES)
        self.assertEqual(list(SHAPES.items()), list(before.items()))


class Errors(ShapeCase):
    def test_unknown_table(self):
        self.refuse(UNKNOWN, UnknownTable, "nothing")
        self.refuse(("join", A, UNKNOWN), UnknownTable, "nothing")

    def test_where(self):
        self.refuse(("where", A, cmp(col("city"), "=", num(1))), UnknownColumn, "city")
        self.refuse(("where", A, cmp(col("owner"), "=", num(1))), MixedComparison)
        sums = ("compare", "=", plus(col("owner"), num(1)), one(num(1)))
        self.refuse(("where", A, sums), StringArithmetic)
        sums = ("compare", "=", plus(col("large"), num(1)), one(num(1)))
        self.refuse(("where", named("full"), sums), ValueTooLarge)

    def test_where_sees_the_columns_of_the_stage_before(self):
        chosen = ("select", A, (("owner", one(col("id"))),))
        self.refuse(("where", chosen, cmp(col("balance"), "=", num(1))), UnknownColumn, "balance")
        self.refuse(("where", chosen, cmp(col("owner"), "=", txt("a"))), MixedComparison)

    def test_select(self):
        self.refuse(("select", A, copies("id", "city")), UnknownColumn, "city")
        self.refuse(("select", A, copies("id", "owner", "id")), DuplicateColumn, "id")
        self.refuse(("select", A, (("x", plus(col("owner"), txt("a"))),)), StringArithmetic)
        self.refuse(("select", named("full"), (("x", minus(col("large"), num(1))),)), ValueTooLarge)
        self.check(("select", named("full"), (("x", minus(col("large"), num(0))),)), integers("x", bound=LARGEST), 3000)

    def test_select_checks_each_item_in_order(self):
        wrong = ("x", plus(col("owner"), txt("a")))
        self.refuse(("select", A, copies("id", "id") + (wrong,)), DuplicateColumn, "id")
        self.refuse(("select", A, copies("id") + (wrong,) + copies("id")), StringArithmetic)
        self.refuse(("select", A, (("id", one(num(1))), ("id", one(col("city"))))), UnknownColumn, "city")

    def test_join(self):
        self.refuse(("join", A, named("mixed")), KindsDiffer, "balance")
        self.refuse(("join", named("mixed"), A), KindsDiffer, "id")

    def test_matching_and_without(self):
        for word in ("matching", "without"):
            self.refuse((word, A, named("mixed")), KindsDiffer, "balance")
            self.refuse((word, named("mixed"), A), KindsDiffer, "id")

    def test_union_and_minus(self):
        for word in ("union", "minus"):
            for name in ("owned", "turned", "other", "mixed"):
                self.refuse((word, A, named(name)), ColumnsDiffer)
            fewer = ("select", A, copies("id", "owner"))
            self.refuse((word, A, fewer), ColumnsDiffer)
            self.refuse((word, fewer, A), ColumnsDiffer)
            self.refuse((word, named("other"), named("empty")), ColumnsDiffer)
            others = ("select", A, (("id", one(txt("a"))), ("owner", one(col("owner")))))
            self.refuse((word, fewer, others), ColumnsDiffer)

    def test_group_keys(self):
        count = (("n", "count", None),)
        self.refuse(("group", A, ("id", "city"), count), UnknownColumn, "city")
        self.refuse(("group", A, ("id", "owner", "id"), count), DuplicateColumn, "id")
        self.refuse(("group", A, ("id", "id", "city"), count), DuplicateColumn, "id")
        self.refuse(("group", A, ("id", "city", "id"), count), UnknownColumn, "city")
        self.refuse(("group", A, ("city", "city"), count), UnknownColumn, "city")

    def test_group_aggregates(self):
        for word in ("sum", "least", "greatest"):
            self.refuse(("group", A, (), (("n", word, "city"),)), UnknownColumn, "city")
        self.refuse(("group", A, (), (("n", "sum", "owner"),)), StringArithmetic)
        self.refuse(("group", A, ("id",), (("id", "count", None),)), DuplicateColumn, "id")
        self.refuse(("group", A, (), (("n", "count", None), ("m", "least", "id"), ("n", "sum", "id"))),
                    DuplicateColumn, "n")

    def test_group_checks_in_order(self):
        self.refuse(("group", A, ("city",), (("n", "sum", "owner"),)), UnknownColumn, "city")
        self.refuse(("group", A, ("id",), (("id", "sum", "owner"),)), StringArithmetic)
        self.refuse(("group", A, ("id",), (("id", "least", "city"),)), UnknownColumn, "city")
        self.refuse(("group", A, ("id",), (("id", "count", None), ("n", "sum", "owner"))), DuplicateColumn, "id")
        self.refuse(("group", A, ("id",), (("n", "sum", "owner"), ("id", "count", None))), StringArithmetic)


class Sizes(ShapeCase):
    def test_join(self):
        pairs = {"a": (integers("x"), 50), "b": (integers("y"), 60), "c": (integers("z"), 61), "d": (integers("z"), 1)}
        self.assertEqual(shape_of(("join", named("a"), named("b")), pairs), (integers("x", "y"), 3000))
        with self.assertRaises(TooManyRows):
            shape_of(("join", named("a"), named("c")), pairs)

    def test_3000_and_3001_rows(self):
        shapes = {"most": (integers("x"), 2999), "one": (integers("x"), 1), "two": (integers("x"), 2),
                  "prime": (integers("y"), 3001), "a": (integers("x"), 1)}
        self.assertEqual(shape_of(("union", named("most"), named("one")), shapes), (integers("x"), 3000))
        with self.assertRaises(TooManyRows):
            shape_of(("union", named("most"), named("two")), shapes)
        with self.assertRaises(TooManyRows):
            shape_of(("join", named("a"), named("prime")), shapes)

    def test_bounds_of_sums(self):
        shapes = {"fits": (integers("x", bound=LARGEST // 1000), 1000),
                  "more": (integers("x", bound=LARGEST // 1000 + 1), 1000),
                  "large": (integers("x", bound=LARGEST), 1)}
        total = (("s", "sum", "x"),)
        for name in ("fits", "large"):
            self.assertEqual(shape_of(("group", named(name), (), total), shapes)[0], integers("s", bound=LARGEST))
        with self.assertRaises(ValueTooLarge):
            shape_of(("group", named("more"), (), total), shapes)
        least = (("s", "least", "x"), ("t", "greatest", "x"), ("n", "count", None))
        self.assertEqual(shape_of(("group", named("more"), (), least), shapes)[1], 1000)

    def test_the_size_is_checked_last(self):
        self.refuse(("join", named("full"), named("mixed")), KindsDiffer, "id")
        self.refuse(("union", named("full"), A), ColumnsDiffer)
        self.refuse(("group", named("full"), (), (("s", "sum", "large"), ("s", "count", None))), DuplicateColumn, "s")
        self.refuse(("group", named("full"), (), (("s", "sum", "large"), ("t", "sum", "city"))), UnknownColumn, "city")

    def test_rows_are_checked_before_bounds(self):
        shapes = {"q": (integers("x", bound=LARGEST + 1), 3000), "r": (integers("y"), 2)}
        with self.assertRaises(TooManyRows):
            shape_of(("join", named("q"), named("r")), shapes)

    def test_every_stage_up_to_the_last_is_checked(self):
        large = ("union", named("full"), named("full"))
        self.refuse(large, TooManyRows)
        self.refuse(("where", large, ALWAYS), TooManyRows)
        self.refuse(("group", large, ("none",), (("n", "count", None),)), TooManyRows)
        self.refuse(("minus", A, large), TooManyRows)


class Order(ShapeCase):
    """The checks of q come first, then those of r, then those of the last stage."""

    BAD_WHERE = ("where", named("other"), cmp(col("x"), "=", txt("a")))

    def test_q_before_r(self):
        for word in ("join", "union", "minus", "matching", "without"):
            self.refuse((word, UNKNOWN, self.BAD_WHERE), UnknownTable, "nothing")
            self.refuse((word, self.BAD_WHERE, UNKNOWN), MixedComparison)

    def test_r_before_the_stage(self):
        for word in ("union", "minus"):
            self.refuse((word, A, ("select", self.BAD_WHERE, copies("x"))), MixedComparison)
        for word in ("join", "matching", "without"):
            self.refuse((word, A, ("where", named("mixed"), cmp(col("city"), "=", num(1)))), UnknownColumn, "city")

    def test_q_before_the_stage(self):
        self.refuse(("where", UNKNOWN, cmp(txt("a"), "=", num(1))), UnknownTable, "nothing")
        self.refuse(("select", UNKNOWN, copies("city", "city")), UnknownTable, "nothing")
        self.refuse(("group", UNKNOWN, ("city",), (("n", "count", None),)), UnknownTable, "nothing")
        self.refuse(("where", ("where", A, cmp(col("one"), "=", num(1))), cmp(col("two"), "=", num(1))),
                    UnknownColumn, "one")


if __name__ == "__main__":
    unittest.main()

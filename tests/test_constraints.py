import unittest

from building import cmp, col, named, num
from indoubt.constraints import first_violation
from indoubt.schemas import check_schema

ACCOUNT = (
    "account", (("id", "integer"), ("owner", "string"), ("balance", "integer")), ("id",), 9,
    (cmp(col("balance"), ">=", num(0)),), (),
)
TRANSFER = (
    "transfer", (("number", "integer"), ("payer", "integer"), ("payee", "integer"), ("amount", "integer")),
    ("number",), 9, (cmp(col("amount"), ">", num(0)), cmp(col("payer"), "!=", col("payee"))),
    ((("payer",), "account"), (("payee",), "account")),
)
BIG = ("big", ("where", named("transfer"), cmp(col("amount"), ">", num(50))))
BIG_TO_BOB = ("big_to_bob", ("where", named("big"), cmp(col("payee"), "=", num(2))))
DENIALS = (
    ("all_big", ("where", named("big"), cmp(col("amount"), ">", num(90)))),
    ("bob_is_rich", named("big_to_bob")),
)
SCHEMA = ((ACCOUNT, TRANSFER), (BIG, BIG_TO_BOB), DENIALS)
ACCOUNTS = ((1, "ada", 100), (2, "bob", 20))


class Case(unittest.TestCase):
    def check(self, accounts, transfers, reason):
        tables = {"account": accounts, "transfer": transfers}
        before = dict(tables)
        self.assertEqual(first_violation(SCHEMA, tables), reason)
        self.assertEqual(list(tables.items()), list(before.items()))


class OneViolation(Case):
    def test_the_schema(self):
        self.assertIsNone(check_schema(SCHEMA))

    def test_none(self):
        self.check((), (), None)
        self.check(ACCOUNTS, (), None)
        self.check(ACCOUNTS, ((1, 1, 2, 50), (2, 2, 1, 90)), None)

    def test_key(self):
        self.check(((1, "ada", 100), (1, "bob", 20)), (), ("key", "account"))
        self.check(ACCOUNTS, ((1, 1, 2, 5), (1, 2, 1, 5)), ("key", "transfer"))

    def test_checks(self):
        self.check(((1, "ada", 0), (2, "bob", -1)), (), ("check", "account", 1))
        self.check(ACCOUNTS, ((1, 1, 2, 5), (2, 1, 2, 0)), ("check", "transfer", 1))
        self.check(ACCOUNTS, ((1, 1, 1, 5),), ("check", "transfer", 2))

    def test_references(self):
        self.check(ACCOUNTS, ((1, 3, 1, 5),), ("reference", "transfer", 1))
        self.check(ACCOUNTS, ((2, 1, 3, 5),), ("reference", "transfer", 2))
        self.check((), ((2, 1, 3, 5),), ("reference", "transfer", 1))

    def test_denials(self):
        self.check(ACCOUNTS, ((1, 2, 1, 91),), ("denied", "all_big"))
        self.check(ACCOUNTS, ((1, 1, 2, 51),), ("denied", "bob_is_rich"))


class SeveralViolations(Case):
    def test_the_examples_of_the_document(self):
        self.check(ACCOUNTS, ((2, 1, 1, 0),), ("check", "transfer", 1))
        self.check(ACCOUNTS, ((2, 1, 3, 5),), ("reference", "transfer", 2))

    def test_the_key_comes_before_the_checks(self):
        self.check(((1, "ada", -1), (1, "bob", 20)), (), ("key", "account"))

    def test_the_checks_come_before_the_references(self):
        self.check(ACCOUNTS, ((1, 7, 7, 5),), ("check", "transfer", 2))

    def test_one_table_comes_before_the_next_one(self):
        self.check(((1, "ada", -1),), ((1, 1, 2, 5), (1, 1, 3, 5)), ("check", "account", 1))

    def test_the_first_row_does_not_decide(self):
        self.check(ACCOUNTS, ((1, 1, 1, 5), (2, 1, 2, 0)), ("check", "transfer", 1))

    def test_the_first_reference_counts(self):
        self.check(ACCOUNTS, ((1, 3, 4, 5),), ("reference", "transfer", 1))

    def test_denials_come_last(self):
        self.check(ACCOUNTS, ((1, 1, 3, 91),), ("reference", "transfer", 2))
        self.check(ACCOUNTS, ((1, 1, 2, 91),), ("denied", "all_big"))


class LongKeys(unittest.TestCase):
    """Keys and references of several columns, where the order counts."""

    PLACE = ("place", (("a", "integer"), ("name", "string"), ("b", "integer")), ("b", "a"), 9, (), ())
    VISIT = (
        "visit", (("x", "integer"), ("y", "integer"), ("up", "integer")), ("x",), 9, (),
        ((("x", "y"), "place"), (("up",), "visit")),
    )
    SCHEMA = ((VISIT, PLACE), (), ())

    def check(self, visits, places, reason):
        self.assertEqual(first_violation(self.SCHEMA, {"visit": visits, "place": places}), reason)

    def test_the_schema(self):
        self.assertIsNone(check_schema(self.SCHEMA))

    def test_a_key_of_two_columns(self):
        self.check((), ((1, "x", 1), (1, "x", 2), (2, "x", 1)), None)
        self.check((), ((1, "x", 1), (1, "y", 1)), ("key", "place"))

    def test_a_reference_to_a_later_table_in_the_order_of_its_key(self):
        self.check(((2, 1, 2),), ((1, "x", 2),), None)
        self.check(((1, 2, 1),), ((1, "x", 2),), ("reference", "visit", 1))
        self.check(((1, 1, 1),), ((1, "x", 2), (2, "x", 1)), ("reference", "visit", 1))

    def test_a_reference_of_a_table_to_itself(self):
        self.check(((1, 1, 2), (2, 1, 1)), ((1, "x", 1), (1, "x", 2)), None)
        self.check(((1, 1, 2),), ((1, "x", 1),), ("reference", "visit", 2))

    def test_the_limit_is_no_constraint(self):
        table = ("t", (("x", "integer"),), ("x",), 1, (), ())
        self.assertIsNone(first_violation(((table,), (), ()), {"t": ((1,), (2,))}))


if __name__ == "__main__":
    unittest.main()

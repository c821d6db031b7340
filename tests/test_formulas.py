import unittest

from building import ALWAYS, NEVER, cmp, col, integers, is_number, minus, num, one, plus, strings, txt
from indoubt.errors import MixedComparison, StringArithmetic, UnknownColumn, ValueTooLarge
from indoubt.formulas import check_formula, columns_in, evaluate, kind_of, satisfies

COLUMNS = integers("amount") + strings("code") + integers("small", bound=7)
NAMES = ("amount", "code", "small")
ROW = (40, "ink", -3)
MIXED = cmp(col("code"), "=", col("amount"))


class KindOf(unittest.TestCase):
    def test_one_term(self):
        self.assertEqual(kind_of(one(col("amount")), COLUMNS), ("integer", 1000000))
        self.assertEqual(kind_of(one(col("small")), COLUMNS), ("integer", 7))
        self.assertEqual(kind_of(one(col("code")), COLUMNS), ("string",))
        self.assertEqual(kind_of(one(num(12)), COLUMNS), ("integer", 12))
        self.assertEqual(kind_of(one(num(-12)), COLUMNS), ("integer", 12))
        self.assertEqual(kind_of(one(num(0)), COLUMNS), ("integer", 0))
        self.assertEqual(kind_of(one(txt("")), COLUMNS), ("string",))

    def test_the_example_of_the_document(self):
        expression = (("+", num(10)), ("-", col("amount")), ("+", num(5)))
        self.assertEqual(kind_of(expression, COLUMNS), ("integer", 1000015))

    def test_bounds_are_added_whatever_the_signs_are(self):
        self.assertEqual(kind_of(minus(col("small"), num(-5), num(4)), COLUMNS), ("integer", 16))
        self.assertEqual(kind_of(minus(num(1), num(1)), COLUMNS), ("integer", 2))

    def test_twelve_terms(self):
        self.assertEqual(kind_of(plus(*[col("small")] * 12), COLUMNS), ("integer", 84))

    def test_unknown_column(self):
        for expression in (one(col("missing")), plus(num(1), col("missing")), plus(col("missing"), txt("a"))):
            with self.assertRaises(UnknownColumn) as caught:
                kind_of(expression, COLUMNS)
            self.assertEqual(caught.exception.name, "missing")

    def test_string_arithmetic(self):
        for expression in (plus(col("code"), num(1)), minus(num(1), txt("a")), plus(txt("a"), col("missing"))):
            with self.assertRaises(StringArithmetic):
                kind_of(expression, COLUMNS)

    def test_the_first_unknown_column_counts(self):
        with self.assertRaises(UnknownColumn) as caught:
            kind_of(plus(col("amount"), col("first"), col("second")), COLUMNS)
        self.assertEqual(caught.exception.name, "first")

    def test_the_greatest_bound(self):
        columns = integers("x", bound=1000000000000) + integers("y", bound=999999999999)
        self.assertEqual(kind_of(one(col("x")), columns), ("integer", 1000000000000))
        self.assertEqual(kind_of(plus(col("x"), num(0)), columns), ("integer", 1000000000000))
        self.assertEqual(kind_of(minus(col("y"), num(1)), columns), ("integer", 1000000000000))
        for expression in (minus(col("x"), num(1)), plus(col("y"), num(2)), minus(col("x"), col("x"))):
            with self.assertRaises(ValueTooLarge):
                kind_of(expression, columns)

    def test_the_bound_is_checked_after_the_last_term(self):
        columns = integers("x", bound=1000000000000) + strings("s")
        with self.assertRaises(StringArithmetic):
            kind_of(plus(col("x"), col("x"), col("s")), columns)
        with self.assertRaises(UnknownColumn):
            kind_of(plus(col("x"), col("x"), col("t")), columns)


class CheckFormula(unittest.TestCase):
    def test_right_formulas(self):
        for formula in (
            ALWAYS, NEVER, cmp(col("amount"), "<", num(3)), cmp(col("code"), ">=", txt("")),
            ("compare", "=", plus(col("amount"), num(1)), one(col("small"))),
            ("implies", ("not", ("and", (ALWAYS, NEVER))), ("or", (is_number("amount", 1), ALWAYS))),
        ):
            self.assertIsNone(check_formula(formula, COLUMNS))

    def test_mixed_comparison(self):
        for formula in (
            MIXED, cmp(num(1), "!=", txt("1")), ("compare", "<", plus(num(1), num(1)), one(txt("a"))),
            cmp(col("amount"), "=", txt("1")),
        ):
            with self.assertRaises(MixedComparison):
                check_formula(formula, COLUMNS)

    def test_the_examples_of_the_document(self):
        with self.assertRaises(MixedComparison):
            check_formula(("or", (cmp(col("amount"), ">", num(5)), MIXED)), COLUMNS)
        code_and_one = plus(col("code"), num(1))
        with self.assertRaises(UnknownColumn) as caught:
            check_formula(("compare", "=", one(col("missing")), code_and_one), COLUMNS)
        self.assertEqual(caught.exception.name, "missing")
        with self.assertRaises(StringArithmetic):
            check_formula(("compare", "=", code_and_one, one(col("missing"))), COLUMNS)

    def test_a_comparison_that_cannot_matter_is_checked(self):
        for formula in (
            ("and", (NEVER, MIXED)), ("or", (ALWAYS, MIXED)), ("implies", NEVER, MIXED), ("implies", MIXED, ALWAYS),
            ("not", ("or", (ALWAYS, ("and", (NEVER, ("not", MIXED)))))),
        ):
            with self.assertRaises(MixedComparison):
                check_formula(formula, COLUMNS)

    def test_the_first_of_two_faults_counts(self):
        unknown = cmp(col("missing"), "=", num(1))
        sums = ("compare", "=", plus(txt("a"), txt("b")), one(txt("c")))
        for join in (
            lambda left, right: ("and", (ALWAYS, left, right)),
            lambda left, right: ("or", (left, NEVER, right)),
            lambda left, right: ("implies", left, right),
            lambda left, right: ("implies", ("not", left), ("and", (right, ALWAYS))),
        ):
            with self.assertRaises(UnknownColumn):
                check_formula(join(unknown, MIXED), COLUMNS)
            with self.assertRaises(MixedComparison):
                check_formula(join(MIXED, unknown), COLUMNS)
            with self.assertRaises(StringArithmetic):
                check_formula(join(sums, unknown), COLUMNS)

    def test_both_sides_are_checked_before_they_are_compared(self):
        with self.assertRaises(UnknownColumn):
            check_formula(("compare", "=", one(num(1)), plus(num(1), col("missing"))), COLUMNS)
        with self.assertRaises(StringArithmetic):
            check_formula(("compare", "=", one(txt("a")), plus(num(1), txt("a"))), COLUMNS)

    def test_value_too_large(self):
        columns = integers("x", bound=1000000000000) + strings("s")
        fits = ("compare", "=", plus(col("x"), num(0)), one(num(1)))
        self.assertIsNone(check_formula(fits, columns))
        large = plus(col("x"), num(1))
        with self.assertRaises(ValueTooLarge):
            check_formula(("compare", "=", large, one(col("s"))), columns)
        with self.assertRaises(MixedComparison):
            check_formula(("and", (cmp(col("x"), "=", col("s")), ("compare", "=", large, large))), columns)


class Evaluate(unittest.TestCase):
    def test_one_term(self):
        self.assertEqual(evaluate(one(col("amount")), NAMES, ROW), 40)
        self.assertEqual(evaluate(one(col("code")), NAMES, ROW), "ink")
        self.assertEqual(evaluate(one(col("small")), NAMES, ROW), -3)
        self.assertEqual(evaluate(one(num(-8)), NAMES, ROW), -8)
        self.assertEqual(evaluate(one(txt("a b")), NAMES, ROW), "a b")

    def test_several_terms(self):
        expression = (("+", num(10)), ("-", col("amount")), ("+", num(5)))
        self.assertEqual(evaluate(expression, NAMES, ROW), -25)
        self.assertEqual(evaluate(minus(col("amount"), num(7), col("small")), NAMES, ROW), 36)
        self.assertEqual(evaluate(minus(num(0), num(0)), NAMES, ROW), 0)

    def test_a_minus_sign_before_a_negative_constant(self):
        self.assertEqual(evaluate(minus(num(10), num(-3)), NAMES, ROW), 13)
        self.assertEqual(evaluate(plus(num(10), num(-3)), NAMES, ROW), 7)

    def test_twelve_terms(self):
        expression = (("+", num(1)),) + (("+", num(2)), ("-", col("small"))) * 5 + (("-", num(100)),)
        self.assertEqual(len(expression), 12)
        self.assertEqual(evaluate(expression, NAMES, ROW), 1 + 10 + 15 - 100)

    def test_integers_beyond_64_bits(self):
        self.assertEqual(evaluate(plus(col("x"), num(1)), ("x",), (2 ** 64,)), 2 ** 64 + 1)


class Satisfies(unittest.TestCase):
    def check(self, formula, expected):
        with self.subTest(formula):
            self.assertIs(satisfies(formula, NAMES, ROW), expected)

    def test_constants(self):
        self.check(ALWAYS, True)
        self.check(NEVER, False)

    def test_comparisons_of_integers(self):
        for operator, expected in (
            ("=", (False, True, False)), ("!=", (True, False, True)), ("<", (True, False, False)),
            ("<=", (True, True, False)), (">", (False, False, True)), (">=", (False, True, True)),
        ):
            for number, truth in zip((41, 40, 9), expected):
                self.check(cmp(col("amount"), operator, num(number)), truth)

    def test_comparisons_of_strings(self):
        for operator, expected in (
            ("=", (False, True, False)), ("!=", (True, False, True)), ("<", (True, False, False)),
            ("<=", (True, True, False)), (">", (False, False, True)), (">=", (False, True, True)),
        ):
            for text, truth in zip(("inks", "ink", "in"), expected):
                self.check(cmp(col("code"), operator, txt(text)), truth)

    def test_comparisons_of_sums(self):
        self.check(("compare", "=", plus(col("amount"), col("small")), one(num(37))), True)
        self.check(("compare", "<", one(num(36)), minus(col("amount"), num(4))), False)

    def test_not(self):
        self.check(("not", ALWAYS), False)
        self.check(("not", NEVER), True)

    def test_and_or(self):
        self.check(("and", (ALWAYS, ALWAYS)), True)
        self.check(("or", (NEVER, NEVER)), False)
        for parts in ((ALWAYS, NEVER), (NEVER, ALWAYS), (ALWAYS, NEVER, ALWAYS), (NEVER, NEVER, ALWAYS)):
            self.check(("and", parts), False)
            self.check(("or", parts), True)
        self.check(("and", (ALWAYS, ALWAYS, ALWAYS)), True)
        self.check(("or", (NEVER, NEVER, NEVER)), False)

    def test_implies(self):
        self.check(("implies", ALWAYS, ALWAYS), True)
        self.check(("implies", ALWAYS, NEVER), False)
        self.check(("implies", NEVER, ALWAYS), True)
        self.check(("implies", NEVER, NEVER), True)

    def test_nested(self):
        inner = ("or", (is_number("amount", 41), ("not", cmp(col("code"), "=", txt("pen")))))
        self.check(("implies", inner, ("and", (inner, is_number("small", -3)))), True)
        self.check(("implies", inner, ("and", (inner, is_number("small", 3)))), False)
        self.check(("not", ("implies", ("not", NEVER), ("and", (inner, NEVER)))), True)

    def test_twenty_levels(self):
        formula = is_number("amount", 40)
        for _ in range(20):
            formula = ("not", formula)
        self.check(formula, True)
        self.check(("not", formula), False)


class ColumnsIn(unittest.TestCase):
    def test_none(self):
        self.assertEqual(columns_in(ALWAYS), ())
        self.assertEqual(columns_in(("and", (NEVER, cmp(num(1), "=", num(1)), cmp(txt("a"), "=", txt("b"))))), ())

    def test_order_of_first_occurrence(self):
        first = ("compare", "<", plus(col("z"), num(1), col("b")), minus(col("a"), col("z")))
        self.assertEqual(columns_in(first), ("z", "b", "a"))
        formula = ("implies", ("not", cmp(num(1), "=", col("c"))), ("or", (("and", (first, ALWAYS)), is_number("d", 1))))
        self.assertEqual(columns_in(formula), ("c", "z", "b", "a", "d"))

    def test_each_once(self):
        self.assertEqual(columns_in(("and", (is_number("b", 1), is_number("a", 1), is_number("b", 2)))), ("b", "a"))


if __name__ == "__main__":
    unittest.main()

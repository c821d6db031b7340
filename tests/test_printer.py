import random
import unittest

from building import ALWAYS, NEVER, cmp, col, copies, is_number, minus, named, num, one, plus, txt
from grammar import ORACLES, text_of
from indoubt import printer, reader
from indoubt.errors import TextError
from indoubt.printer import show_fact, show_query, show_schema, show_script
from indoubt.reader import read_fact, read_query, read_schema, read_script
from indoubt.tokens import tokens_of

T = named("t")
A = is_number("a", 1)
B = is_number("b", 2)
C = is_number("c", 3)
FORMULAS = (
    (ALWAYS, "true"), (NEVER, "false"), (A, "a = 1"), (("not", A), "not a = 1"), (("not", ("not", A)), "not not a = 1"),
    (("not", ("and", (A, B))), "not (a = 1 and b = 2)"), (("not", ("or", (A, B))), "not (a = 1 or b = 2)"),
    (("not", ("implies", A, B)), "not (a = 1 implies b = 2)"),
    (("and", (A, B, C)), "a = 1 and b = 2 and c = 3"),
    (("and", (("not", A), B)), "not a = 1 and b = 2"), (("and", (A, ("not", B))), "a = 1 and not b = 2"),
    (("and", (("and", (A, B)), C)), "(a = 1 and b = 2) and c = 3"),
    (("and", (A, ("and", (B, C)))), "a = 1 and (b = 2 and c = 3)"),
    (("and", (("or", (A, B)), C)), "(a = 1 or b = 2) and c = 3"),
    (("and", (A, ("implies", B, C))), "a = 1 and (b = 2 implies c = 3)"),
    (("or", (A, B, C)), "a = 1 or b = 2 or c = 3"), (("or", (("not", A), B)), "not a = 1 or b = 2"),
    (("or", (("and", (A, B)), ("and", (B, C)))), "a = 1 and b = 2 or b = 2 and c = 3"),
    (("or", (("or", (A, B)), C)), "(a = 1 or b = 2) or c = 3"),
    (("or", (A, ("or", (B, C)))), "a = 1 or (b = 2 or c = 3)"),
    (("or", (("implies", A, B), C)), "(a = 1 implies b = 2) or c = 3"),
    (("implies", A, B), "a = 1 implies b = 2"), (("implies", ("not", A), ("not", B)), "not a = 1 implies not b = 2"),
    (("implies", ("and", (A, B)), ("and", (B, C))), "a = 1 and b = 2 implies b = 2 and c = 3"),
    (("implies", ("or", (A, B)), ("or", (B, C))), "a = 1 or b = 2 implies b = 2 or c = 3"),
    (("implies", ("implies", A, B), C), "(a = 1 implies b = 2) implies c = 3"),
    (("implies", A, ("implies", B, C)), "a = 1 implies b = 2 implies c = 3"),
)


class PrintedCase(unittest.TestCase):
    def check(self, show, read, tree, text):
        with self.subTest(text=text):
            self.assertEqual(show(tree), text)
            self.assertEqual(read(text), tree)


class Queries(PrintedCase):
    def check_query(self, tree, text):
        self.check(show_query, read_query, tree, text)

    def test_the_example(self):
        text = "t|matching((t|where a<1 or(a<2 or a<3))|minus t)"
        self.assertEqual(show_query(read_query(text)), "t | matching (t | where a < 1 or (a < 2 or a < 3) | minus t)")

    def test_names_and_stages(self):
        self.check_query(T, "t")
        self.check_query(("where", T, A), "t | where a = 1")
        self.check_query(("where", ("where", T, A), B), "t | where a = 1 | where b = 2")
        for word in ("join", "union", "minus", "matching", "without"):
            self.check_query((word, T, named("u")), f"t | {word} u")
            self.check_query((word, T, ("where", named("u"), A)), f"t | {word} (u | where a = 1)")
            self.check_query((word, ("where", T, A), named("u")), f"t | where a = 1 | {word} u")
            self.check_query((word, (word, T, T), (word, T, T)), f"t | {word} t | {word} (t | {word} t)")

    def test_items(self):
        items = copies("a") + (("b", one(col("a"))), ("c", plus(col("c"), num(1))), ("d", minus(col("d"), col("d"))))
        self.check_query(("select", T, items), "t | select a, b = a, c = c + 1, d = d - d")

    def test_items_that_look_like_copies(self):
        self.check_query(("select", T, (("a", one(txt("a"))),)), "t | select a = 'a'")

    def test_groups(self):
        aggregates = (("n", "count", None), ("s", "sum", "a"), ("l", "least", "l"), ("g", "greatest", "b"))
        text = "n = count, s = sum a, l = least l, g = greatest b"
        self.check_query(("group", T, ("a", "b"), aggregates), "t | group by a, b: " + text)
        self.check_query(("group", T, ("a",), aggregates[:1]), "t | group by a: n = count")
        self.check_query(("group", T, (), aggregates), "t | group: " + text)

    def test_formulas(self):
        for formula, text in FORMULAS:
            self.check_query(("where", T, formula), "t | where " + text)
            self.check_query(("join", T, ("where", T, formula)), "t | join (t | where " + text + ")")

    def test_comparisons(self):
        for operator in ("=", "!=", "<", "<=", ">", ">="):
            formula = ("compare", operator, minus(col("a"), num(1)), one(col("b")))
            self.check_query(("where", T, formula), f"t | where a - 1 {operator} b")

    def test_values(self):
        for operand, text in (
                (num(0), "0"), (num(-3), "-3"), (num(1000000), "1000000"), (num(-1000000), "-1000000"),
                (txt(""), "''"), (txt("it's"), "'it''s'"), (txt("'"), "''''"), (txt("''a'"), "'''''a'''"),
                (txt("a , (b) ;:"), "'a , (b) ;:'"), (txt("("), "'('"), (txt(","), "','"), (txt(" "), "' '")):
            self.check_query(("where", T, cmp(operand, "=", operand)), f"t | where {text} = {text}")
            self.check_query(("select", T, (("a", plus(operand, operand)),)), f"t | select a = {text} + {text}")

    def test_signs(self):
        expression = (("+", num(-1)), ("-", num(-2)), ("+", num(-3)), ("-", num(4)), ("-", col("a")))
        self.check_query(("select", T, (("a", expression),)), "t | select a = -1 - -2 + -3 - 4 - a")


class Facts(PrintedCase):
    def as_fact(self, tree):
        """The fact of the same form as a formula, which has names in the place of comparisons."""
        if tree[0] == "compare":
            return ("commits", tree[2][0][1][1])
        if tree[0] in ("and", "or"):
            return (tree[0], tuple([self.as_fact(part) for part in tree[1]]))
        return (tree[0],) + tuple([self.as_fact(part) for part in tree[1:]])

    def test_facts_of_all_forms(self):
        for formula, text in FORMULAS:
            for digit in "123":
                text = text.replace(" = " + digit, "")
            self.check(show_fact, read_fact, self.as_fact(formula), text)

    def test_one_of(self):
        self.check(show_fact, read_fact, ("one of", ("t1",)), "one of (t1)")
        fact = ("not", ("one of", ("b", "a", "b")))
        self.check(show_fact, read_fact, fact, "not one of (b, a, b)")
        self.check(show_fact, read_fact, ("and", (fact, ("true",))), "not one of (b, a, b) and true")


class Schemas(PrintedCase):
    def test_tables(self):
        t = ("t", (("a", "integer"),), ("a",), 9, (), ())
        text = "table t (a integer) key a limit 9;"
        self.check(show_schema, read_schema, ((t,), (), ()), text)
        references = ((("a",), "t"), (("a", "b"), "u"))
        u = ("u", (("a", "integer"), ("b", "string")), ("b", "a"), 60, (A, ("or", (A, B))), references)
        more = ("table u (a integer, b string) key b, a limit 60 check a = 1 check a = 1 or b = 2"
                " reference a to t reference a, b to u;")
        self.check(show_schema, read_schema, ((t, u), (), ()), text + " " + more)

    def test_views_and_denials(self):
        t = ("t", (("a", "integer"),), ("a",), 9, (), ())
        text = "table t (a integer) key a limit 9;"
        views = (("v", T), ("w", ("where", named("v"), A)))
        denials = (("d", ("join", T, ("where", T, B))), ("e", named("w")))
        shown = " view v = t; view w = v | where a = 1;", " deny d = t | join (t | where b = 2); deny e = w;"
        self.check(show_schema, read_schema, ((t,), views, ()), text + shown[0])
        self.check(show_schema, read_schema, ((t,), (), denials), text + shown[1])
        self.check(show_schema, read_schema, ((t,), views, denials), text + shown[0] + shown[1])

    def test_schemas_need_not_have_been_checked(self):
        t = ("t", (("a", "integer"), ("a", "string")), ("b",), 9, (cmp(col("c"), "=", txt("")),), ((("d",), "e"),))
        text = "table t (a integer, a string) key b limit 9 check c = '' reference d to e;"
        self.check(show_schema, read_schema, ((t, t), (), ()), text + " " + text)


class Scripts(PrintedCase):
    def test_the_example(self):
        text = "insert t(1,'it''s'),( -0 , '')  ;delete t where not(not(a=1 or(a=2))and(true));"
        self.assertEqual(
            show_script(read_script(text)),
            "insert t (1, 'it''s'), (0, ''); delete t where not (not (a = 1 or a = 2) and true);")

    def test_statements(self):
        for statement, text in (
                (("insert", "t", ((1,),)), "insert t (1);"),
                (("insert", "t", ((-1, "a'b", 0), ("",))), "insert t (-1, 'a''b', 0), ('');"),
                (("insert from", "t", named("u")), "insert t from u;"),
                (("insert from", "t", ("minus", named("u"), ("where", T, A))),
                 "insert t from u | minus (t | where a = 1);"),
                (("update", "t", (("a", plus(col("a"), num(1))), ("b", one(col("b")))), ("or", (A, B))),
                 "update t set a = a + 1, b = b where a = 1 or b = 2;"),
                (("delete", "t", ("not", A)), "delete t where not a = 1;"),
                (("require", T), "require t;"), (("forbid", ("where", T, A)), "forbid t | where a = 1;"),
                (("return", ("select", T, copies("a", "b"))), "return t | select a, b;")):
            self.check(show_script, read_script, (statement,), text)
            self.check(show_script, read_script, (statement, statement), text + " " + text)


class AllTrees(unittest.TestCase):
    def texts(self):
        """Random texts of all kinds, with their trees."""
        rng = random.Random(11)
        for _ in range(80):
            for kind, oracle in ORACLES.items():
                tokens = oracle.limited.random_tokens(kind, rng, rng.choice((0, 0.3, 0.5)))
                if len(tokens) < 150:
                    text = text_of(tokens, rng)[0]
                    yield kind, text, getattr(reader, "read_" + kind)(text)

    def test_what_is_printed_is_read_back(self):
        for kind, text, tree in self.texts():
            with self.subTest(kind=kind, text=text):
                printed = getattr(printer, "show_" + kind)(tree)
                self.assertEqual(getattr(reader, "read_" + kind)(printed), tree)
                self.assertLessEqual(len(tokens_of(printed)), len(tokens_of(text)))

    def test_no_parentheses_can_be_left_out(self):
        for kind, _, tree in self.texts():
            printed = getattr(printer, "show_" + kind)(tree)
            opened = []
            for token, value, place in tokens_of(printed):
                if (token, value) == ("symbol", "("):
                    opened.append(place)
                elif (token, value) == ("symbol", ")"):
                    first = opened.pop()
                    shorter = printed[:first] + " " + printed[first + 1:place] + " " + printed[place + 1:]
                    with self.subTest(kind=kind, text=shorter):
                        self.assertNotEqual(self.read_or_none(kind, shorter), tree)

    def read_or_none(self, kind, text):
        try:
            return getattr(reader, "read_" + kind)(text)
        except TextError:
            return None

    def test_blanks(self):
        for kind, _, tree in self.texts():
            printed = getattr(printer, "show_" + kind)(tree)
            tokens = tokens_of(printed)
            with self.subTest(kind=kind, text=printed):
                self.assertEqual((tokens[0][2], printed.rstrip()), (0, printed))
                for token, following in zip(tokens, tokens[1:]):
                    between = printed[token[2]:following[2]]
                    blanks = between[len(between.rstrip()):]
                    self.assertIn(blanks, self.right_blanks(token, following))

    def right_blanks(self, token, following):
        if token[:2] == ("symbol", "(") or following[:2] in [("symbol", word) for word in "),;:"]:
            return ("",)
        if token[:2] == ("symbol", "-") and following[0] == "number":
            return ("", " ")
        return (" ",)


if __name__ == "__main__":
    unittest.main()

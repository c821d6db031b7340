import unittest

from building import ALWAYS, NEVER, cmp, col, copies, is_number, minus, named, num, one, plus, txt
from grammar import RESERVED
from indoubt.errors import UnexpectedToken
from indoubt.reader import read_fact, read_query, read_schema, read_script

A = is_number("a", 1)
B = is_number("b", 2)
C = is_number("c", 3)


def where(text):
    """The tree of a formula."""
    word, query, formula = read_query("t | where " + text)
    assert (word, query) == ("where", named("t"))
    return formula


def item(text):
    """The tree of an expression."""
    _, _, ((_, expression),) = read_query("t | select x = " + text)
    return expression


class Queries(unittest.TestCase):
    def test_names(self):
        self.assertEqual(read_query("t"), named("t"))
        self.assertEqual(read_query("\n t \n"), named("t"))
        self.assertEqual(read_query("(((t)))"), named("t"))

    def test_where(self):
        self.assertEqual(read_query("t|where a=1"), ("where", named("t"), A))

    def test_select(self):
        self.assertEqual(read_query("t | select a, b = a - 1, c"), (
            "select", named("t"), copies("a") + (("b", minus(col("a"), num(1))),) + copies("c")))

    def test_an_item_that_is_only_a_name_copies_its_column(self):
        self.assertEqual(read_query("t | select a"), read_query("t | select a = a"))
        self.assertEqual(read_query("t | select a"), ("select", named("t"), copies("a")))
        self.assertEqual(read_query("t | select a = b"), ("select", named("t"), (("a", one(col("b"))),)))

    def test_stages_with_an_operand(self):
        for word in ("join", "union", "minus", "matching", "without"):
            self.assertEqual(read_query(f"t | {word} u"), (word, named("t"), named("u")))
            self.assertEqual(read_query(f"t | {word} (u)"), (word, named("t"), named("u")))
            self.assertEqual(read_query(f"t | {word} (u | where a = 1)"), (
                word, named("t"), ("where", named("u"), A)))

    def test_group(self):
        self.assertEqual(read_query("t | group by a, b: n = count, s = sum c, l = least d, g = greatest a"), (
            "group", named("t"), ("a", "b"),
            (("n", "count", None), ("s", "sum", "c"), ("l", "least", "d"), ("g", "greatest", "a"))))

    def test_group_without_by(self):
        self.assertEqual(read_query("t | group: n = count"), ("group", named("t"), (), (("n", "count", None),)))

    def test_stages_are_applied_from_left_to_right(self):
        self.assertEqual(read_query("a | union b | minus c"), (
            "minus", ("union", named("a"), named("b")), named("c")))
        self.assertEqual(read_query("a | union (b | minus c)"), (
            "union", named("a"), ("minus", named("b"), named("c"))))
        self.assertEqual(read_query("(a | union b) | minus c"), read_query("a | union b | minus c"))
        self.assertEqual(read_query("t | where a = 1 | where b = 2 | select c"), (
            "select", ("where", ("where", named("t"), A), B), copies("c")))


class Expressions(unittest.TestCase):
    def test_operands(self):
        self.assertEqual(item("a"), one(col("a")))
        self.assertEqual(item("12"), one(num(12)))
        self.assertEqual(item("'it''s'"), one(txt("it's")))
        self.assertEqual(item("''"), one(txt("")))

    def test_terms(self):
        self.assertEqual(item("a + 1 - b + 'x'"), (
            ("+", col("a")), ("+", num(1)), ("-", col("b")), ("+", txt("x"))))

    def test_minus_signs(self):
        self.assertEqual(item("-3"), one(num(-3)))
        self.assertEqual(item("- 3"), one(num(-3)))
        self.assertEqual(item("a - -3"), minus(col("a"), num(-3)))
        self.assertEqual(item("a--3"), minus(col("a"), num(-3)))
        self.assertEqual(item("a + - 3"), plus(col("a"), num(-3)))
        self.assertEqual(item("a -3"), minus(col("a"), num(3)))
        self.assertEqual(item("-1 - 1"), minus(num(-1), num(1)))

    def test_minus_zero_is_zero(self):
        self.assertEqual(item("-0"), one(num(0)))
        self.assertEqual(item("a - -000"), minus(col("a"), num(0)))

    def test_numbers(self):
        self.assertEqual(item("0000012"), one(num(12)))
        self.assertEqual(item("1000000"), one(num(1000000)))
        self.assertEqual(item("-1000000"), one(num(-1000000)))


class Formulas(unittest.TestCase):
    def test_constants(self):
        self.assertEqual(where("true"), ALWAYS)
        self.assertEqual(where("false"), NEVER)

    def test_comparisons(self):
        for operator in ("=", "!=", "<", "<=", ">", ">="):
            self.assertEqual(where(f"a {operator} 'x'"), cmp(col("a"), operator, txt("x")))
        self.assertEqual(where("1 - a < b + 2"), ("compare", "<", minus(num(1), col("a")), plus(col("b"), num(2))))
        self.assertEqual(where("-1<- 1"), cmp(num(-1), "<", num(-1)))

    def test_not(self):
        self.assertEqual(where("not a = 1"), ("not", A))
        self.assertEqual(where("not not a = 1"), ("not", ("not", A)))
        self.assertEqual(where("not a = 1 and b = 2"), ("and", (("not", A), B)))
        self.assertEqual(where("not (a = 1 and b = 2)"), ("not", ("and", (A, B))))

    def test_and_and_or(self):
        self.assertEqual(where("a = 1 and b = 2"), ("and", (A, B)))
        self.assertEqual(where("a = 1 and b = 2 and c = 3"), ("and", (A, B, C)))
        self.assertEqual(where("a = 1 or b = 2 or c = 3"), ("or", (A, B, C)))
        self.assertEqual(where("a = 1 and b = 2 or c = 3"), ("or", (("and", (A, B)), C)))
        self.assertEqual(where("a = 1 or b = 2 and c = 3"), ("or", (A, ("and", (B, C)))))

    def test_parentheses_group(self):
        self.assertEqual(where("(a = 1)"), A)
        self.assertEqual(where("(((a = 1)))"), A)
        self.assertEqual(where("(a = 1 and b = 2) and c = 3"), ("and", (("and", (A, B)), C)))
        self.assertEqual(where("a = 1 and (b = 2 and c = 3)"), ("and", (A, ("and", (B, C)))))
        self.assertEqual(where("(a = 1 or b = 2) or c = 3"), ("or", (("or", (A, B)), C)))
        self.assertEqual(where("(a = 1 or b = 2) and c = 3"), ("and", (("or", (A, B)), C)))
        self.assertEqual(where("(a = 1 and b = 2) or c = 3"), ("or", (("and", (A, B)), C)))

    def test_implies(self):
        self.assertEqual(where("a = 1 implies b = 2"), ("implies", A, B))
        self.assertEqual(where("a = 1 implies b = 2 implies c = 3"), ("implies", A, ("implies", B, C)))
        self.assertEqual(where("(a = 1 implies b = 2) implies c = 3"), ("implies", ("implies", A, B), C))
        self.assertEqual(where("a = 1 or b = 2 implies not c = 3"), ("implies", ("or", (A, B)), ("not", C)))
        self.assertEqual(where("not (a = 1 implies b = 2)"), ("not", ("implies", A, B)))

    def test_a_formula_ends_with_its_stage(self):
        self.assertEqual(read_query("t | where a = 1 or b = 2 | where c = 3"), (
            "where", ("where", named("t"), ("or", (A, B))), C))
        self.assertEqual(read_query("t | join (u | where a = 1) | where b = 2"), (
            "where", ("join", named("t"), ("where", named("u"), A)), B))


class Schemas(unittest.TestCase):
    def test_a_table(self):
        self.assertEqual(read_schema("table t (a integer) key a limit 9;"), (
            (("t", (("a", "integer"),), ("a",), 9, (), ()),), (), ()))

    def test_all_parts_of_a_table(self):
        text = """table t (a integer, b string, c integer) key a, b limit 060
            check a = 1 and b = 2 check c = 3 reference c to u reference a, c to t;"""
        self.assertEqual(read_schema(text), ((
            ("t", (("a", "integer"), ("b", "string"), ("c", "integer")), ("a", "b"), 60,
             (("and", (A, B)), C), ((("c",), "u"), (("a", "c"), "t"))),), (), ()))

    def test_tables_views_and_denials(self):
        t = ("t", (("a", "integer"),), ("a",), 9, (), ())
        u = ("u", (("a", "string"),), ("a",), 1, (), ())
        text = "table t (a integer) key a limit 9; table u (a string) key a limit 1;"
        self.assertEqual(read_schema(text), ((t, u), (), ()))
        self.assertEqual(read_schema(text + "view v = t; view w = v | where a = 1;"), (
            (t, u), (("v", named("t")), ("w", ("where", named("v"), A))), ()))
        self.assertEqual(read_schema(text + "deny d = t | join u;deny e = (t);"), (
            (t, u), (), (("d", ("join", named("t"), named("u"))), ("e", named("t")))))
        self.assertEqual(read_schema(text + "view v = t; deny e = v;"), (
            (t, u), (("v", named("t")),), (("e", named("v")),)))

    def test_the_limits(self):
        for limit in (1, 2, 59, 60):
            (table,), _, _ = read_schema(f"table t (a integer) key a limit {limit};")
            self.assertEqual(table[3], limit)

    def test_nothing_else_is_checked(self):
        read_schema("table t (a integer, a string) key b limit 9 check c = 'x' - 1 reference d to e; deny t = f;")


class Scripts(unittest.TestCase):
    def test_insert(self):
        self.assertEqual(read_script("insert t (1);"), (("insert", "t", ((1,),)),))
        self.assertEqual(read_script("insert t (1, 'a', -2), ('it''s', -0, ''), (0);"), (
            ("insert", "t", ((1, "a", -2), ("it's", 0, ""), (0,))),))

    def test_insert_from(self):
        self.assertEqual(read_script("insert t from u;"), (("insert from", "t", named("u")),))
        self.assertEqual(read_script("insert t from (u) | where a = 1;"), (
            ("insert from", "t", ("where", named("u"), A)),))

    def test_update(self):
        self.assertEqual(read_script("update t set a = a + 1, b = 'x' where a = 1 or b = 2;"), (
            ("update", "t", (("a", plus(col("a"), num(1))), ("b", one(txt("x")))), ("or", (A, B))),))

    def test_delete(self):
        self.assertEqual(read_script("delete t where true;"), (("delete", "t", ALWAYS),))

    def test_statements_with_a_query(self):
        for word in ("require", "forbid", "return"):
            self.assertEqual(read_script(f"{word} t | where a = 1;"), ((word, ("where", named("t"), A)),))

    def test_several_statements(self):
        self.assertEqual(read_script("return t;delete t where false; return u;"), (
            ("return", named("t")), ("delete", "t", NEVER), ("return", named("u"))))

    def test_nothing_else_is_checked(self):
        self.assertEqual(read_script("insert t (1), ('a', 2);"), (("insert", "t", ((1,), ("a", 2))),))


class Facts(unittest.TestCase):
    def test_atoms(self):
        self.assertEqual(read_fact("true"), ("true",))
        self.assertEqual(read_fact("false"), ("false",))
        self.assertEqual(read_fact("t1"), ("commits", "t1"))
        self.assertEqual(read_fact("one of (a)"), ("one of", ("a",)))
        self.assertEqual(read_fact("one of(a,b , a)"), ("one of", ("a", "b", "a")))

    def test_operators(self):
        a, b, c = ("commits", "a"), ("commits", "b"), ("commits", "c")
        self.assertEqual(read_fact("not a and b or c implies a"), (
            "implies", ("or", (("and", (("not", a), b)), c)), a))
        self.assertEqual(read_fact("a implies b implies c"), ("implies", a, ("implies", b, c)))
        self.assertEqual(read_fact("(a implies b) implies c"), ("implies", ("implies", a, b), c))
        self.assertEqual(read_fact("a or b or c"), ("or", (a, b, c)))
        self.assertEqual(read_fact("(a or b) or c"), ("or", (("or", (a, b)), c)))
        self.assertEqual(read_fact("not not one of (a, b) and true"), (
            "and", (("not", ("not", ("one of", ("a", "b")))), ("true",))))

    def test_words_of_logs_are_names(self):
        for word in "schema undecided prepared mentioned possible row when begin execute prepare learn".split():
            self.assertEqual(read_fact(word), ("commits", word))


class Words(unittest.TestCase):
    def test_reserved_words_are_no_names(self):
        for word in RESERVED:
            with self.subTest(word):
                with self.assertRaises(UnexpectedToken) as caught:
                    read_query("t | join " + word)
                self.assertEqual(caught.exception.place, 9)

    def test_names_that_begin_with_a_reserved_word(self):
        for word in RESERVED:
            name = word + "_1"
            self.assertEqual(read_query(f"{name}|join {name}"), ("join", named(name), named(name)))
            self.assertEqual(read_fact(name), ("commits", name))


if __name__ == "__main__":
    unittest.main()

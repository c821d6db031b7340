import unittest

from building import ALWAYS, NEVER, cmp, col, copies, integers, is_number, named, num, one, plus, strings, txt
from indoubt.errors import (
    ColumnsDiffer, DuplicateColumn, DuplicateName, IndoubtError, KeyMismatch, KindsDiffer, MixedComparison,
    StringArithmetic, TooManyRows, UnknownColumn, UnknownTable,
)
from indoubt.schemas import can_store, check_schema, empty_tables, relations_of, shapes_of

COLUMNS = (("id", "integer"), ("owner", "string"), ("boss", "integer"))


def table(name, columns=COLUMNS, key=("id",), limit=50, checks=(), references=()):
    return (name, columns, key, limit, checks, references)


def view(name, of):
    return (name, ("where", named(of), ALWAYS))


NOTE = table("note", (("number", "integer"), ("text", "string"), ("owner", "string")), ("number", "text"), 7)
RICH = ("rich", ("where", named("account"), cmp(col("boss"), ">", num(5))))
NAMES = ("names", ("select", named("rich"), (("who", one(col("owner"))), ("more", plus(col("id"), num(1))))))
PAIRS = ("pairs", ("join", named("names"), named("note")))
SCHEMA = ((table("account"), NOTE), (RICH, NAMES, PAIRS), (("wrong", named("pairs")),))


class SchemaCase(unittest.TestCase):
    def accept(self, tables, views=(), denials=()):
        self.assertIsNone(check_schema((tables, views, denials)))

    def refuse(self, error, name, tables, views=(), denials=()):
        with self.assertRaises(IndoubtError) as caught:
            check_schema((tables, views, denials))
        self.assertIs(type(caught.exception), error)
        if name is not None:
            self.assertEqual(caught.exception.name, name)


class Tables(SchemaCase):
    def test_right_schemas(self):
        self.accept((table("account"),))
        self.accept(*SCHEMA)
        self.accept((table("t", key=("boss", "id", "owner"), limit=1, checks=(ALWAYS, NEVER)),))

    def test_names(self):
        self.refuse(DuplicateName, "t", (table("t"), table("u"), table("t")))

    def test_columns(self):
        columns = (("a", "integer"), ("b", "string"), ("a", "string"))
        self.refuse(DuplicateColumn, "a", (table("t", columns, ("b",)),))
        self.refuse(DuplicateColumn, "a", (table("t", (("a", "integer"), ("a", "integer")), ("a",)),))

    def test_key(self):
        self.refuse(UnknownColumn, "city", (table("t", key=("city",)),))
        self.refuse(UnknownColumn, "city", (table("t", key=("id", "city", "id")),))
        self.refuse(DuplicateColumn, "id", (table("t", key=("id", "owner", "id")),))

    def test_checks(self):
        self.refuse(UnknownColumn, "city", (table("t", checks=(ALWAYS, is_number("city", 1))),))
        self.refuse(MixedComparison, None, (table("t", checks=(cmp(col("id"), "=", col("owner")),)),))
        sums = ("compare", "=", plus(col("owner"), num(1)), one(num(1)))
        self.refuse(StringArithmetic, None, (table("t", checks=(sums, is_number("city", 1))),))

    def test_columns_before_the_key_before_the_checks(self):
        doubled = (("a", "integer"), ("a", "integer"))
        wrong = (is_number("city", 1),)
        self.refuse(DuplicateColumn, "a", (table("t", doubled, ("b",), checks=wrong),))
        self.refuse(UnknownColumn, "b", (table("t", key=("b",), checks=wrong),))
        self.refuse(DuplicateName, "t", (table("t"), table("t", doubled)))
        self.refuse(DuplicateColumn, "a", (table("t", doubled, ("a",)), table("t")))


class References(SchemaCase):
    def test_right_references(self):
        to_itself = table("account", references=((("boss",), "account"), (("id",), "account")))
        self.accept((to_itself,))
        to_later = table("first", references=((("boss", "owner"), "note"),))
        to_earlier = table("last", references=((("id",), "first"),))
        self.accept((to_later, NOTE, to_earlier))

    def test_unknown_table(self):
        self.refuse(UnknownTable, "city", (table("t", references=((("id",), "t"), (("id",), "city"))),))
        self.refuse(UnknownTable, "seen", (table("t", references=((("id",), "seen"),)),), (view("seen", "t"),))
        self.refuse(UnknownTable, "city", (table("t", references=((("none",), "city"),)),))

    def test_columns(self):
        self.refuse(UnknownColumn, "city", (table("t", references=((("id", "city"), "t"),)),))
        self.refuse(DuplicateColumn, "id", (table("t", references=((("id", "id"), "t"),)),))
        self.refuse(UnknownColumn, "number", (table("t", references=((("number",), "note"),)), NOTE))
        self.refuse(UnknownColumn, "city", (table("t", references=((("city", "id", "id"), "t"),)),))
        self.refuse(DuplicateColumn, "id", (table("t", references=((("id", "id", "city"), "t"),)),))

    def test_key_mismatch(self):
        for columns in (("id",), ("id", "owner", "boss"), ("owner", "id"), ("id", "boss")):
            self.refuse(KeyMismatch, "note", (table("t", references=((columns, "note"),)), NOTE))
        self.refuse(KeyMismatch, "t", (table("t", references=((("owner",), "t"),)),))
        self.refuse(KeyMismatch, "t", (table("t", references=((("id", "boss"), "t"),)),))

    def test_references_come_after_all_tables(self):
        wrong = table("t", references=((("id",), "city"),))
        doubled = (("a", "integer"), ("a", "integer"))
        self.refuse(DuplicateColumn, "a", (wrong, table("u", doubled, ("a",))))
        self.refuse(UnknownColumn, "x", (wrong, table("u", key=("x",))))
        self.refuse(DuplicateName, "t", (wrong, table("t")))
        self.refuse(MixedComparison, None, (wrong, table("u", checks=(cmp(num(1), "=", txt("1")),))))

    def test_references_in_order(self):
        first = table("t", references=((("owner",), "t"), (("none",), "t")))
        second = table("u", references=((("id",), "city"),))
        self.refuse(KeyMismatch, "t", (first, second))
        self.refuse(UnknownTable, "city", (second, first))


class ViewsAndDenials(SchemaCase):
    def test_names_of_views(self):
        tables = (table("t"), table("u"))
        self.refuse(DuplicateName, "u", tables, (view("a", "t"), view("u", "t")))
        self.refuse(DuplicateName, "a", tables, (view("a", "t"), view("b", "t"), view("a", "u")))
        self.refuse(DuplicateName, "t", tables, (view("t", "nothing"),))

    def test_names_of_denials(self):
        tables = (table("t"), table("u"))
        for name in ("t", "u", "a", "d"):
            self.refuse(DuplicateName, name, tables, (view("a", "t"),), (view("d", "t"), view(name, "nothing")))
        self.accept(tables, (view("a", "t"),), (view("d", "t"), view("e", "a")))

    def test_a_view_uses_tables_and_earlier_views(self):
        self.accept((table("t"),), (view("a", "t"), view("b", "a"), view("c", "b")))
        self.refuse(UnknownTable, "b", (table("t"),), (view("a", "b"), view("b", "t")))
        self.refuse(UnknownTable, "a", (table("t"),), (view("a", "a"),))

    def test_nothing_uses_denials(self):
        self.refuse(UnknownTable, "d", (table("t"),), (view("a", "d"),), (view("d", "t"),))
        self.refuse(UnknownTable, "d", (table("t"),), (), (view("d", "t"), view("e", "d")))

    def test_queries_are_checked(self):
        tables = (table("t", limit=60), NOTE)
        for error, name, query in (
            (UnknownColumn, "city", ("select", named("t"), copies("city"))),
            (DuplicateColumn, "id", ("select", named("t"), copies("id", "id"))),
            (ColumnsDiffer, None, ("union", named("t"), named("note"))),
            (KindsDiffer, "owner", ("join", named("t"), ("select", named("t"), (("owner", one(col("id"))),)))),
            (TooManyRows, None, ("join", named("t"), ("select", named("t"), (("x", one(col("id"))),)))),
        ):
            self.refuse(error, name, tables, (("a", query),))
            self.refuse(error, name, tables, (), (("d", query),))

    def test_order(self):
        tables = (table("t"),)
        bad_table = table("t", references=((("owner",), "t"),))
        self.refuse(KeyMismatch, "t", (bad_table,), (view("t", "t"),))
        self.refuse(UnknownTable, "x", tables, (view("a", "x"), view("t", "t")))
        self.refuse(DuplicateName, "t", tables, (view("t", "t"), view("a", "x")))
        self.refuse(UnknownTable, "x", tables, (view("a", "x"),), (view("t", "t"),))
        self.refuse(UnknownTable, "y", tables, (view("a", "t"),), (view("d", "y"), view("t", "t")))
        self.refuse(DuplicateName, "t", tables, (view("a", "t"),), (view("t", "t"), view("d", "y")))


class Shapes(unittest.TestCase):
    def test_tables_and_views(self):
        shapes = shapes_of(SCHEMA)
        self.assertEqual(list(shapes), ["account", "note", "rich", "names", "pairs"])
        account = (integers("id") + strings("owner") + integers("boss"), 50)
        self.assertEqual(shapes["account"], account)
        self.assertEqual(shapes["note"], (integers("number") + strings("text", "owner"), 7))
        self.assertEqual(shapes["rich"], account)
        names = strings("who") + integers("more", bound=1000001)
        self.assertEqual(shapes["names"], (names, 50))
        self.assertEqual(shapes["pairs"], (names + integers("number") + strings("text", "owner"), 350))

    def test_a_returned_dict_may_be_changed(self):
        shapes = shapes_of(SCHEMA)
        shapes["account"] = None
        del shapes["note"]
        self.assertEqual(list(shapes_of(SCHEMA)), ["account", "note", "rich", "names", "pairs"])
        self.assertEqual(shapes_of(SCHEMA)["account"][1], 50)


class Relations(unittest.TestCase):
    TABLES = {"account": ((1, "ada", 9), (2, "bob", 5), (3, "ada", 6)), "note": ((1, "x", "ada"),)}

    def test_tables_and_views(self):
        relations = relations_of(SCHEMA, self.TABLES)
        self.assertEqual(list(relations), ["account", "note", "rich", "names", "pairs"])
        self.assertEqual(relations["account"], (("id", "owner", "boss"), self.TABLES["account"]))
        self.assertEqual(relations["note"], (("number", "text", "owner"), ((1, "x", "ada"),)))
        self.assertEqual(relations["rich"], (("id", "owner", "boss"), ((1, "ada", 9), (3, "ada", 6))))
        self.assertEqual(relations["names"], (("who", "more"), (("ada", 2), ("ada", 4))))
        rows = (("ada", 2, 1, "x", "ada"), ("ada", 4, 1, "x", "ada"))
        self.assertEqual(relations["pairs"], (("who", "more", "number", "text", "owner"), rows))

    def test_empty_tables(self):
        relations = relations_of(SCHEMA, {"account": (), "note": ()})
        self.assertEqual([rows for _, rows in relations.values()], [()] * 5)

    def test_dicts_are_not_shared(self):
        before = dict(self.TABLES)
        relations = relations_of(SCHEMA, self.TABLES)
        relations["account"] = None
        del relations["rich"]
        self.assertEqual(list(self.TABLES.items()), list(before.items()))
        self.assertEqual(len(relations_of(SCHEMA, self.TABLES)), 5)


class CanStore(unittest.TestCase):
    def test_rows_that_can_be_stored(self):
        for row in ((1, "ada", 2), (1000000, "", -1000000), (-1000000, "x" * 20, 1000000)):
            self.assertIs(can_store(SCHEMA, "account", row), True)
        self.assertIs(can_store(SCHEMA, "note", (1, "", "")), True)

    def test_integers_out_of_range(self):
        for row in ((1000001, "ada", 2), (-1000001, "ada", 2), (1, "ada", 1000001), (1, "ada", -1000001)):
            self.assertIs(can_store(SCHEMA, "account", row), False)

    def test_other_lengths(self):
        for row in ((), (1,), (1, "ada"), (1, "ada", 2, 3), (1, "ada", 2, "x")):
            self.assertIs(can_store(SCHEMA, "account", row), False)

    def test_other_kinds(self):
        for row in (("1", "ada", 2), (1, 5, 2), (1, "ada", ""), ("ada", 1, 2)):
            self.assertIs(can_store(SCHEMA, "account", row), False)
        self.assertIs(can_store(SCHEMA, "note", (1, "ada", 2)), False)


class EmptyTables(unittest.TestCase):
    def test_every_table_and_no_view(self):
        self.assertEqual(list(empty_tables(SCHEMA).items()), [("account", ()), ("note", ())])
        turned = ((NOTE, table("account")), (), ())
        self.assertEqual(list(empty_tables(turned)), ["note", "account"])

    def test_a_returned_dict_may_be_changed(self):
        tables = empty_tables(SCHEMA)
        tables["account"] = ((1, "ada", 2),)
        self.assertEqual(empty_tables(SCHEMA), {"account": (), "note": ()})


if __name__ == "__main__":
    unittest.main()

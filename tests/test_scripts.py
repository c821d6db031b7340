import unittest

from building import ALWAYS, NEVER, cmp, col, copies, is_number, minus, named, num, one, plus, txt
from indoubt.errors import (
    ColumnsDiffer, DuplicateColumn, IndoubtError, KindsDiffer, MixedComparison, RowMismatch, StringArithmetic,
    UnknownColumn, UnknownTable,
)
from indoubt.schemas import check_schema
from indoubt.scripts import check_script, conflicts, run, tables_read, tables_written

ITEM = (
    "item", (("code", "integer"), ("name", "string"), ("amount", "integer")), ("code",), 4,
    (cmp(col("amount"), ">=", num(0)),), (),
)
LOG = ("log", (("number", "integer"), ("code", "integer")), ("number", "code"), 5, (), ((("code",), "item"),))
OTHER = ("other", (("x", "integer"),), ("x",), 60, (), ())
DEAR = ("dear", ("where", named("item"), cmp(col("amount"), ">", num(5))))
DEARER = ("dearer", ("minus", named("dear"), ("where", named("dear"), cmp(col("amount"), "<", num(8)))))
LOGGED = ("logged", ("join", named("log"), named("dearer")))
DENIALS = (("bad_number", ("where", named("log"), is_number("number", 13))),)
SCHEMA = ((ITEM, LOG, OTHER), (DEAR, DEARER, LOGGED), DENIALS)
ITEMS = ((1, "ink", 4), (2, "pen", 9))
TABLES = {"item": ITEMS, "log": ((1, 1), (2, 2)), "other": ((1,), (2,), (3,))}


def insert(table, *rows):
    return ("insert", table, rows)


def update(table, formula, **assignments):
    return ("update", table, tuple(assignments.items()), formula)


def add_to_amount(number):
    return update("item", ALWAYS, amount=plus(col("amount"), num(number)))


COUNT = ("return", ("group", named("item"), (), (("n", "count", None),)))


class CheckScript(unittest.TestCase):
    def accept(self, *script):
        self.assertIsNone(check_script(SCHEMA, script))

    def refuse(self, error, name, *script):
        with self.assertRaises(IndoubtError) as caught:
            check_script(SCHEMA, script)
        self.assertIs(type(caught.exception), error)
        if name is not None:
            self.assertEqual(caught.exception.name, name)

    def test_the_schema(self):
        self.assertIsNone(check_schema(SCHEMA))

    def test_right_scripts(self):
        self.accept(
            insert("item", (1, "ink", 4), (1, "ink", 4), (1000000, "", -1000000)),
            ("insert from", "item", named("dearer")),
            update("item", cmp(col("name"), "=", txt("a")), name=one(txt("b")), code=plus(col("amount"), num(1))),
            ("delete", "log", NEVER),
            ("require", named("logged")), ("forbid", named("dear")), ("return", named("item")),
        )

    def test_insert(self):
        for name in ("nothing", "dear", "bad_number"):
            self.refuse(UnknownTable, name, insert(name, (1,)))
        good = (1, "ink", 4)
        for row in ((1, "ink"), (1, "ink", 4, 5), ("1", "ink", 4), (1, 1, 4), (1, "ink", 1000001), (-1000001, "a", 1)):
            self.refuse(RowMismatch, "item", insert("item", row))
            self.refuse(RowMismatch, "item", insert("item", good, row))

    def test_insert_from(self):
        for name in ("nothing", "dear"):
            self.refuse(UnknownTable, name, ("insert from", name, named("none")))
        self.refuse(UnknownTable, "none", ("insert from", "item", named("none")))
        self.refuse(UnknownColumn, "city", ("insert from", "item", ("select", named("item"), copies("city"))))
        for query in (
            named("log"),
            ("select", named("item"), copies("code", "name")),
            ("select", named("item"), copies("code", "amount", "name")),
            ("select", named("item"), copies("code") + (("name", one(num(1))),) + copies("amount")),
            ("select", named("item"), copies("code", "name", "amount") + (("more", one(num(1))),)),
        ):
            self.refuse(ColumnsDiffer, None, ("insert from", "item", query))
        sums = ("select", named("item"), (("number", plus(col("code"), col("amount"))),) + copies("code"))
        self.accept(("insert from", "log", sums))

    def test_update(self):
        for name in ("nothing", "dear"):
            self.refuse(UnknownTable, name, update(name, ALWAYS, city=one(num(1))))
        self.refuse(UnknownColumn, "city", update("item", ALWAYS, city=one(num(1))))
        twice = (("code", one(num(1))), ("code", one(num(2))))
        self.refuse(DuplicateColumn, "code", ("update", "item", twice, ALWAYS))
        self.refuse(UnknownColumn, "city", update("item", ALWAYS, code=one(col("city"))))
        self.refuse(StringArithmetic, None, update("item", ALWAYS, code=plus(col("name"), num(1))))
        self.refuse(KindsDiffer, "code", update("item", ALWAYS, code=one(col("name"))))
        self.refuse(KindsDiffer, "name", update("item", ALWAYS, name=one(num(1))))
        self.refuse(UnknownColumn, "city", update("item", is_number("city", 1), code=one(num(1))))
        self.refuse(MixedComparison, None, update("item", is_number("name", 1), code=one(num(1))))

    def test_update_in_order(self):
        wrong = is_number("city", 1)
        self.refuse(KindsDiffer, "code", update("item", wrong, code=one(txt("a")), town=one(num(1))))
        self.refuse(UnknownColumn, "town", update("item", wrong, town=one(num(1)), code=one(txt("a"))))
        again = (("code", one(num(1))), ("code", one(col("town"))))
        self.refuse(DuplicateColumn, "code", ("update", "item", again, wrong))
        self.refuse(UnknownColumn, "town", update("item", wrong, name=one(col("town"))))
        self.refuse(StringArithmetic, None, update("item", wrong, name=plus(txt("a"), num(1))))

    def test_delete(self):
        for name in ("nothing", "dear"):
            self.refuse(UnknownTable, name, ("delete", name, is_number("city", 1)))
        self.refuse(UnknownColumn, "city", ("delete", "item", is_number("city", 1)))
        self.refuse(MixedComparison, None, ("delete", "item", is_number("name", 1)))

    def test_queries(self):
        for word in ("require", "forbid", "return"):
            self.refuse(UnknownTable, "nothing", (word, named("nothing")))
            self.refuse(UnknownTable, "bad_number", (word, named("bad_number")))
            self.refuse(UnknownColumn, "city", (word, ("select", named("dear"), copies("city"))))

    def test_the_first_statement_counts(self):
        self.refuse(UnknownTable, "none", ("delete", "none", ALWAYS), insert("item", (1,)))
        self.refuse(RowMismatch, "item", COUNT, insert("item", (1,)), ("delete", "none", ALWAYS))
        self.refuse(UnknownTable, "none", ("require", named("none")), update("item", ALWAYS, city=one(num(1))))

    def test_nothing_is_executed_before_the_checks(self):
        self.refuse(UnknownTable, "none", insert("item", *[(n, "a", 1) for n in range(9)]), ("require", named("none")))


class RunCase(unittest.TestCase):
    def run_script(self, *script, tables=TABLES):
        before = dict(tables)
        after, result = run(SCHEMA, tables, script)
        self.assertEqual(list(tables.items()), list(before.items()))
        self.assertEqual(list(after), list(before))
        self.assertIsNot(after, tables)
        return after, result

    def done(self, name, rows, *script, answers=()):
        """The script succeeds, changes only one table, and gives the answers."""
        after, result = self.run_script(*script)
        self.assertEqual(result, ("done", answers))
        self.assertEqual(after, {**TABLES, name: rows})

    def failed(self, reason, *script, tables=TABLES):
        """The script fails with the reason, and leaves the tables as they were."""
        after, result = self.run_script(*script, tables=tables)
        self.assertEqual(result, ("failed", reason))
        self.assertEqual(after, tables)


class Statements(RunCase):
    def test_insert(self):
        rows = ((1, "ink", 4), (2, "pen", 9), (3, "cap", 5))
        self.done("item", rows, insert("item", (3, "cap", 5)))
        self.done("item", rows, insert("item", (3, "cap", 5), (2, "pen", 9), (3, "cap", 5)))
        self.done("item", ((0, "cap", 5),) + ITEMS, insert("item", (0, "cap", 5)))
        self.done("item", ITEMS, insert("item", (2, "pen", 9), (1, "ink", 4)))

    def test_too_many_rows(self):
        full = insert("item", (3, "cap", 5), (4, "map", 1))
        self.done("item", ITEMS + full[2], full)
        self.failed(("statement", 1, "too many rows"), insert("item", (3, "cap", 5), (4, "map", 1), (5, "bag", 2)))
        self.failed(("statement", 2, "too many rows"), full, insert("item", (5, "bag", 2)))
        self.done("item", ITEMS + full[2], full, insert("item", (2, "pen", 9), (3, "cap", 5), (2, "pen", 9)))

    def test_insert_from(self):
        copied = ("select", named("dear"), (("code", plus(col("code"), num(1))),) + copies("name", "amount"))
        self.done("item", ITEMS + ((3, "pen", 9),), ("insert from", "item", copied))
        self.done("item", ITEMS, ("insert from", "item", named("dear")))
        self.done("item", ITEMS, ("insert from", "item", ("where", copied, NEVER)))

    def test_insert_from_computes_the_answer_first(self):
        more = ("select", named("other"), (("x", plus(col("x"), num(10))),))
        self.done("other", ((1,), (2,), (3,), (11,), (12,), (13,)), ("insert from", "other", more))

    def test_insert_from_fails(self):
        large = ("select", named("item"), (("number", plus(col("code"), num(999998))),) + copies("code"))
        after, result = self.run_script(("insert from", "log", large))
        self.assertEqual((result, after["log"]), (("done", ()), ((1, 1), (2, 2), (999999, 1), (1000000, 2))))
        large = ("select", named("item"), (("number", plus(col("code"), num(999999))),) + copies("code"))
        self.failed(("statement", 1, "value out of range"), ("insert from", "log", large))
        crossed = ("select", ("join", named("item"), named("other")), (("number", one(col("x"))),) + copies("code"))
        self.failed(("statement", 1, "too many rows"), ("insert from", "log", crossed))
        both = ("select", ("join", named("item"), named("other")),
                (("number", plus(col("x"), num(999999))),) + copies("code"))
        self.failed(("statement", 1, "value out of range"), ("insert from", "log", both))

    def test_update(self):
        self.done("item", ((1, "ink", 4), (2, "pen", 7)),
                  update("item", cmp(col("name"), "=", txt("pen")), amount=minus(col("amount"), num(2))))
        self.done("item", ITEMS, update("item", NEVER, amount=one(num(0))))
        self.done("item", ((1, "x", 4), (2, "x", 9)), update("item", ALWAYS, name=one(txt("x"))))

    def test_an_update_exchanges_two_columns(self):
        exchange = update("log", ALWAYS, number=one(col("code")), code=one(col("number")))
        tables = {**TABLES, "log": ((1, 2), (2, 2))}
        after, result = run(SCHEMA, tables, (exchange,))
        self.assertEqual((after["log"], result), (((2, 1), (2, 2)), ("done", ())))

    def test_an_update_changes_all_rows_at_the_same_time(self):
        self.done("item", ((1, "pen", 9), (2, "ink", 4)), update("item", ALWAYS, code=minus(num(3), col("code"))))

    def test_rows_that_become_equal_are_one_row(self):
        self.done("other", ((7,),), update("other", ALWAYS, x=one(num(7))))
        self.done("other", ((2,), (3,)), update("other", is_number("x", 1), x=one(num(3))))

    def test_an_update_fails(self):
        up = update("other", ALWAYS, x=plus(col("x"), num(999997)))
        self.done("other", ((999998,), (999999,), (1000000,)), up)
        self.failed(("statement", 1, "value out of range"), update("other", ALWAYS, x=plus(col("x"), num(999998))))
        self.failed(("statement", 2, "value out of range"), up, update("other", ALWAYS, x=plus(col("x"), num(1))))
        self.done("other", ((1,), (2,), (3,)), update("other", NEVER, x=plus(col("x"), num(1000000))))
        down = minus(num(-1000000), col("x"))
        self.failed(("statement", 1, "value out of range"), update("other", is_number("x", 1), x=down))

    def test_delete(self):
        self.done("other", ((1,), (3,)), ("delete", "other", is_number("x", 2)))
        self.done("other", (), ("delete", "other", ALWAYS))
        self.done("other", TABLES["other"], ("delete", "other", NEVER))

    def test_require(self):
        self.done("item", ITEMS, ("require", named("dearer")))
        self.failed(("statement", 1, "required rows are missing"), ("require", ("where", named("item"), NEVER)))

    def test_forbid(self):
        self.done("item", ITEMS, ("forbid", ("where", named("item"), NEVER)))
        self.failed(("statement", 1, "forbidden rows exist"), ("forbid", named("dearer")))

    def test_return(self):
        add = insert("item", (3, "cap", 5))
        answers = ((("n",), ((2,),)), (("n",), ((3,),)))
        self.done("item", ITEMS + ((3, "cap", 5),), COUNT, add, COUNT, answers=answers)
        answer = (("number", "code", "name", "amount"), ((2, 2, "pen", 9),))
        self.done("item", ITEMS, ("return", named("logged")), answers=(answer,))

    def test_statements_see_what_the_ones_before_have_left(self):
        empty = ("delete", "other", ALWAYS)
        self.failed(("statement", 2, "required rows are missing"), empty, ("require", named("other")))
        self.done("other", ((5,),), empty, ("forbid", named("other")), insert("other", (5,)))
        gone = update("item", ALWAYS, amount=one(num(6)))
        self.failed(("statement", 3, "required rows are missing"),
                    ("require", named("logged")), gone, ("require", named("logged")))


class Results(RunCase):
    def test_constraints_are_examined_at_the_end(self):
        self.failed(("key", "item"), insert("item", (1, "cap", 5)))
        self.failed(("check", "item", 1), insert("item", (3, "cap", -1)))
        self.failed(("reference", "log", 1), ("delete", "item", is_number("code", 2)))
        self.failed(("denied", "bad_number"), insert("log", (13, 1)))
        self.failed(("check", "item", 1), insert("log", (13, 3)), insert("item", (4, "cap", -1)))

    def test_constraints_may_be_broken_in_between(self):
        self.done("item", ITEMS, add_to_amount(-5), add_to_amount(5))
        self.done("item", ((1, "ink", 3), (2, "pen", 9)), insert("item", (1, "ink", 3)),
                  ("delete", "item", is_number("amount", 4)))
        after, result = self.run_script(insert("log", (5, 3)), insert("item", (3, "cap", 1)))
        self.assertEqual(result, ("done", ()))
        self.assertEqual(after["log"], ((1, 1), (2, 2), (5, 3)))

    def test_constraints_may_be_broken_before(self):
        tables = {**TABLES, "item": ((1, "ink", -4), (2, "pen", 9))}
        after, result = self.run_script(add_to_amount(4), tables=tables)
        self.assertEqual((after["item"], result), (((1, "ink", 0), (2, "pen", 13)), ("done", ())))
        self.failed(("check", "item", 1), COUNT, tables=tables)

    def test_a_failing_statement_comes_before_the_constraints(self):
        self.failed(("statement", 2, "forbidden rows exist"), insert("item", (1, "cap", 5)), ("forbid", named("log")))

    def test_the_first_failing_statement_counts(self):
        self.failed(("statement", 2, "required rows are missing"), COUNT, ("require", ("where", named("log"), NEVER)),
                    ("forbid", named("log")))

    def test_a_script_that_fails_behind_changes(self):
        self.failed(("statement", 4, "forbidden rows exist"), insert("item", (3, "cap", 5)),
                    ("delete", "other", ALWAYS), update("log", ALWAYS, number=one(num(1))), ("forbid", named("log")))
        self.failed(("reference", "log", 1), ("delete", "other", ALWAYS), ("delete", "item", ALWAYS))

    def test_a_returned_dict_may_be_changed(self):
        for script in ((COUNT,), (("forbid", named("log")),)):
            first, _ = run(SCHEMA, TABLES, script)
            first["item"] = ()
            del first["log"]
            self.assertEqual(list(TABLES), ["item", "log", "other"])
            self.assertEqual(run(SCHEMA, TABLES, script)[0], TABLES)
            self.assertEqual(TABLES["item"], ITEMS)


    def test_a_passed_dict_may_be_changed(self):
        for script in ((insert("other", (4,)),), (COUNT,), (("forbid", named("log")),)):
            passed = dict(TABLES)
            after, _ = run(SCHEMA, passed, script)
            passed["item"] = ()
            del passed["log"]
            self.assertEqual((after["item"], after["log"]), (ITEMS, TABLES["log"]))


class WrittenAndRead(unittest.TestCase):
    def test_tables_written(self):
        self.assertEqual(tables_written((COUNT, ("require", named("log")), ("forbid", named("item")))), ())
        script = (
            ("delete", "other", ALWAYS), insert("log", (1, 1)), ("delete", "log", ALWAYS),
            ("insert from", "item", named("dear")),
        )
        self.assertEqual(tables_written(script), ("item", "log", "other"))
        self.assertEqual(tables_written((update("item", ALWAYS, code=one(num(1))),)), ("item",))

    def test_tables_read(self):
        for script, read in (
            ((insert("other", (1,)),), ("other",)),
            ((("delete", "log", ALWAYS), update("item", NEVER, code=one(num(1)))), ("item", "log")),
            ((("return", named("other")),), ("other",)),
            ((("insert from", "log", ("join", named("other"), named("dearer"))),), ("item", "log", "other")),
            ((("require", named("other")), ("forbid", named("log"))), ("log", "other")),
        ):
            self.assertEqual(tables_read(SCHEMA, script), read)

    def test_tables_read_through_views_over_views(self):
        self.assertEqual(tables_read(SCHEMA, (("require", named("dear")),)), ("item",))
        self.assertEqual(tables_read(SCHEMA, (("forbid", named("dearer")),)), ("item",))
        self.assertEqual(tables_read(SCHEMA, (("return", named("logged")),)), ("item", "log"))
        script = (("return", ("matching", named("other"), ("select", named("logged"), copies("code")))),)
        self.assertEqual(tables_read(SCHEMA, script), ("item", "log", "other"))

    def test_the_example_of_the_document(self):
        script = (("delete", "log", ALWAYS), ("require", named("dear")))
        self.assertEqual(tables_written(script), ("log",))
        self.assertEqual(tables_read(SCHEMA, script), ("item", "log"))
        self.assertEqual(conflicts(SCHEMA, script, (add_to_amount(1),)), ("item",))
        self.assertEqual(conflicts(SCHEMA, (add_to_amount(1),), script), ("item",))

    def test_conflicts(self):
        read_all = (("return", named("logged")), ("return", named("other")))
        write_all = (("delete", "other", ALWAYS), ("delete", "log", ALWAYS), ("delete", "item", ALWAYS))
        self.assertEqual(conflicts(SCHEMA, read_all, read_all), ())
        self.assertEqual(conflicts(SCHEMA, read_all, write_all), ("item", "log", "other"))
        self.assertEqual(conflicts(SCHEMA, write_all, write_all), ("item", "log", "other"))
        self.assertEqual(conflicts(SCHEMA, (insert("log", (1, 1)),), (insert("other", (1,)),)), ())
        left = (insert("other", (1,)), ("require", named("log")))
        right = (insert("log", (1, 1)), ("require", named("other")))
        self.assertEqual(conflicts(SCHEMA, left, right), ("log", "other"))


if __name__ == "__main__":
    unittest.main()

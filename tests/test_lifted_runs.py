import random
import unittest

from indoubt.certificates import truth
from indoubt.errors import IndoubtError
from indoubt.facts import holds, names_of
from indoubt.lifted import lifted_run, tables_for
from indoubt.outcomes import learn, nothing_known
from indoubt.reader import read_fact, read_schema, read_script
from indoubt.scripts import check_script, run
from lifted_cases import LiftedCase, pairs_of
from random_facts import random_fact
from slow_search import all_outcomes

ACCOUNT = "table account (id integer, balance integer) key id limit 9 check balance >= 0;"
ITEM = "table item (code integer, amount integer) key code limit {limit};"
TWO = "table item (code integer, amount integer) key code limit 9; table log (n integer, code integer) key n limit 9{};"


class Example(LiftedCase):
    def test_the_example(self):
        before = {"account": pairs_of(((1, 20), "t1"), ((1, 100), "not t1"))}
        after, success, results = self.check_run(
            ACCOUNT, before, "update account set balance = balance - 50 where true;")
        self.assertEqual(results, {("done", ()), ("failed", ("check", "account", 1))})
        self.assertEqual([holds(success, ()), holds(success, ("t1",))], [True, False])
        self.assertEqual(tables_for(after, ()), {"account": ((1, 50),)})
        self.assertEqual(tables_for(after, ("t1",)), {"account": ((1, 20),)})


class Statements(LiftedCase):
    def check(self, limit, rows, script, *results):
        """Checks a lifted run on one table, and that these are the words of its results."""
        found = self.check_run(ITEM.format(limit=limit), {"item": pairs_of(*rows)}, script)[2]
        self.assertEqual({result[1][-1] if result[0] == "failed" else "done" for result in found}, set(results))

    def test_insert(self):
        self.check(9, (), "insert item (1, 1), (2, 2);", "done")
        self.check(9, (((1, 1), "a"), ((3, 3), "b")), "insert item (2, 2), (4, 4);", "done")

    def test_insert_of_a_row_that_is_there_for_some_outcomes(self):
        self.check(9, (((1, 1), "a"),), "insert item (1, 1);", "done")
        self.check(2, (((1, 1), "a"), ((2, 2), "b")), "insert item (1, 1), (1, 1), (3, 3);", "done", "too many rows")
        self.check(9, (((1, 1), "a"), ((1, 2), "not a")), "insert item (1, 1);", "done", "item")

    def test_a_limit_that_is_kept_for_some_outcomes(self):
        self.check(2, (((1, 1), "a"), ((2, 2), "b")), "insert item (3, 3);", "done", "too many rows")
        self.check(3, (((1, 1), "a"), ((2, 2), "b"), ((3, 3), "a and b")), "insert item (4, 4), (5, 5);",
                   "done", "too many rows")
        self.check(4, (((1, 1), "a"), ((2, 2), "b"), ((3, 3), "c"), ((4, 4), "d")), "insert item (5, 5), (6, 6);",
                   "done", "too many rows")
        self.check(1, (((1, 1), "a"), ((2, 2), "not a")), "insert item (1, 1);", "done", "too many rows")

    def test_limits_that_are_kept_always_or_never(self):
        self.check(4, (((1, 1), "a"), ((2, 2), "b")), "insert item (3, 3), (4, 4);", "done")
        self.check(1, (((1, 1), "a"),), "insert item (3, 3), (4, 4);", "too many rows")
        self.check(1, (((1, 1), "a"), ((2, 1), "not a")), "insert item (3, 3);", "too many rows")

    def test_a_limit_of_many_rows(self):
        # Without a key that is violated, sixteen rows that are there for some outcomes are counted.
        text = ("table q (x integer) key x limit 4; table r (y integer) key y limit 4; "
                "table s (x integer, y integer) key x, y limit {};")
        tables = {
            "q": pairs_of(*[((n,), name) for n, name in enumerate("abcd")]),
            "r": pairs_of(*[((n,), name) for n, name in enumerate("efgh")]), "s": ()}
        for limit in (1, 4, 9, 15, 16):
            results = self.check_run(text.format(limit), tables, "insert s from q | join r;")[2]
            self.assertEqual(len(results), 1 if limit == 16 else 2)

    def test_insert_from(self):
        rows = (((1, 1), "a"), ((2, 2), "b"), ((3, 3), "not a"))
        self.check(9, rows, "insert item from item;", "done")
        self.check(9, rows, "insert item from item | where code < 3 | select code = code + 1, amount = 3;",
                   "done", "item")
        self.check(3, rows, "insert item from item | select code = code + 3, amount;", "done", "too many rows")
        self.check(9, rows, "insert item from item | where false;", "done")

    def test_insert_from_a_query_with_values_out_of_range(self):
        rows = (((1, 1), "a"), ((900000, 2), "b"))
        self.check(9, rows, "insert item from item | select code = code + code, amount;",
                   "done", "value out of range")
        self.check(2, rows, "insert item from item | select code = code + 100001, amount;",
                   "done", "value out of range")
        self.check(9, rows, "insert item from item | select code = 0 - 1000000 - code, amount;",
                   "done", "value out of range")

    def test_update(self):
        rows = (((1, 1), "a"), ((2, 2), "b"))
        self.check(9, rows, "update item set code = 3 - code where true;", "done")
        self.check(9, rows, "update item set code = 5, amount = code where code = 1;", "done")
        self.check(9, rows, "update item set code = 5 where false;", "done")
        self.check(9, rows, "update item set code = 5 where true;", "done", "item")

    def test_update_that_makes_rows_alike(self):
        rows = (((1, 1), "a"), ((2, 1), "b"), ((3, 1), "c"))
        self.check(9, rows, "update item set code = 3 where code < 3;", "done")
        self.check(9, rows, "update item set code = 7 where code != 2;", "done")
        self.check(1, (((1, 1), "a"), ((2, 1), "not a")), "update item set code = 7 where true;", "done")

    def test_update_with_values_out_of_range(self):
        rows = (((1, 999999), "a"), ((2, 1000000), "b"))
        self.check(9, rows, "update item set amount = amount + 1 where true;", "done", "value out of range")
        self.check(9, rows, "update item set amount = amount + 2 where true;", "done", "value out of range")
        self.check(9, (((1, 1000000), "true"),), "update item set amount = amount + 2 where true;",
                   "value out of range")

    def test_delete(self):
        rows = (((1, 1), "a"), ((2, 2), "b"))
        for formula in ("true", "false", "code = 1", "code + amount > 2"):
            self.check(9, rows, f"delete item where {formula};", "done")

    def test_require_and_forbid(self):
        rows = (((1, 1), "a"), ((2, 2), "b"), ((3, 3), "a and not a"), ((4, 4), "true"))
        self.check(9, rows, "require item | where code < 3;", "done", "required rows are missing")
        self.check(9, rows, "forbid item | where code < 3;", "done", "forbidden rows exist")
        self.check(9, rows, "require item | where code = 3;", "required rows are missing")
        self.check(9, rows, "forbid item | where code = 3;", "done")
        self.check(9, rows, "require item;", "done")
        self.check(9, rows, "forbid item;", "forbidden rows exist")

    def test_return(self):
        found = self.check_run(ITEM.format(limit=9), {"item": pairs_of(((1, 1), "a"))}, "return item; return item;")
        self.assertEqual(len(found[2]), 2)
        self.assertTrue(holds(found[1], ()))
        self.assertTrue(holds(found[1], ("a",)))

    def test_a_second_statement_that_fails_where_the_first_one_has_changed_rows(self):
        rows = (((1, 1), "a"), ((2, 2), "b"))
        self.check(9, rows, "update item set amount = 5 where true; forbid item | where code = 1;",
                   "done", "forbidden rows exist")
        self.check(3, rows, "insert item (7, 7); insert item (8, 8);", "done", "too many rows")
        self.check(3, rows, "insert item (7, 7), (8, 8); delete item where code > 1; require item;",
                   "done", "too many rows", "required rows are missing")
        self.check(9, rows, "delete item where code = 1; require item; insert item (1, 1);",
                   "done", "required rows are missing")

    def test_the_first_statement_that_fails_decides(self):
        rows = (((1, 999999), "a"), ((2, 1000000), "b"))
        self.check(9, rows, "update item set amount = amount + 1 where true; require item | where amount = 1000000;",
                   "done", "value out of range", "required rows are missing")

    def test_scripts_that_succeed_always_or_never(self):
        rows = {"item": pairs_of(((1, 1), "a"))}
        after, success, _ = self.check_run(ITEM.format(limit=9), rows, "forbid item | where code = 9;")
        self.assertEqual(success, ("true",))
        self.assertEqual(after, rows)
        after, success, _ = self.check_run(ITEM.format(limit=9), rows, "delete item where true; require item;")
        self.assertEqual(success, ("false",))
        self.assertEqual(after, rows)


class Constraints(LiftedCase):
    def check(self, schema, tables, script, *reasons):
        """Checks a lifted run, and that these are the reasons for which it fails; it succeeds for some outcomes."""
        results = self.check_run(schema, tables, script)[2]
        self.assertEqual({result[1] for result in results if result[0] == "failed"}, set(reasons))
        self.assertIn("done", {result[0] for result in results})

    def test_keys(self):
        rows = {"item": pairs_of(((1, 1), "a"), ((1, 2), "b"), ((2, 2), "a or b"), ((2, 3), "c"))}
        self.check(ITEM.format(limit=9), rows, "return item;", ("key", "item"))
        self.check(ITEM.format(limit=9), rows, "delete item where code = 2;", ("key", "item"))
        self.check(ITEM.format(limit=9), rows, "insert item (2, 9);", ("key", "item"))
        schema = "table item (code integer, amount integer) key code, amount limit 9;"
        self.check(schema, rows, "return item;")
        schema = "table item (code integer, amount integer) key amount limit 9;"
        self.check(schema, rows, "update item set amount = code where code = 2;", ("key", "item"))

    def test_checks(self):
        schema = "table item (code integer, amount integer) key code limit 9 check amount > 0 check code < 5;"
        rows = {"item": pairs_of(((1, 1), "a"), ((2, 2), "b"), ((4, 4), "c"))}
        self.check(schema, rows, "update item set amount = amount - 1, code = code + 1 where true;",
                   ("check", "item", 1), ("check", "item", 2))
        self.check(schema, rows, "update item set code = 9 where code = 2;", ("check", "item", 2))

    def test_references(self):
        schema = TWO.format(" reference code to item")
        rows = {"item": pairs_of(((1, 1), "a"), ((1, 2), "not a and b"), ((2, 2), "c")),
                "log": pairs_of(((1, 1), "a or b"), ((2, 2), "d"), ((3, 1), "a"))}
        self.check(schema, rows, "return log;", ("reference", "log", 1))
        self.check(schema, rows, "delete item where code = 2;", ("reference", "log", 1))
        self.check(schema, rows, "insert log (4, 2);", ("reference", "log", 1))
        self.check(schema, rows, "update log set code = 3 where n = 1;", ("reference", "log", 1))
        self.check(schema, rows, "delete log where true; delete item where true;")

    def test_references_of_a_table_to_itself_and_with_several_columns(self):
        schema = "table node (n integer, up integer) key n limit 9 reference up to node;"
        rows = {"node": pairs_of(((1, 1), "a"), ((2, 1), "b"), ((3, 2), "c"))}
        self.check(schema, rows, "return node;", ("reference", "node", 1))
        self.check(schema, rows, "delete node where n = 2;", ("reference", "node", 1))
        schema = ("table pair (x integer, y integer) key y, x limit 9; "
                  "table link (n integer, x integer, y integer) key n limit 9 reference y, x to pair;")
        rows = {"pair": pairs_of(((1, 2), "a"), ((2, 1), "b")), "link": pairs_of(((1, 1, 2), "c"), ((2, 2, 1), "d"))}
        self.check(schema, rows, "return pair;", ("reference", "link", 1))
        self.check(schema, rows, "update pair set x = y, y = x where true;", ("reference", "link", 1))

    def test_the_second_reference(self):
        schema = TWO.format(" reference n to item reference code to item")
        rows = {"item": pairs_of(((1, 1), "a"), ((2, 1), "b")), "log": pairs_of(((1, 2), "c"))}
        self.check(schema, rows, "return log;", ("reference", "log", 1), ("reference", "log", 2))

    def test_denials_and_views(self):
        schema = TWO.format("") + (
            "view dear = item | where amount > 2; view noted = dear | join log; "
            "deny no_note = noted | where n = 1; deny too_dear = dear | where amount > 8;")
        rows = {"item": pairs_of(((1, 3), "a"), ((2, 1), "b"), ((3, 9), "c and not a")),
                "log": pairs_of(((1, 1), "b"), ((2, 2), "true"))}
        self.check(schema, rows, "return item;", ("denied", "no_note"), ("denied", "too_dear"))
        self.check(schema, rows, "update item set amount = amount + 2 where true;",
                   ("denied", "no_note"), ("denied", "too_dear"))
        self.check(schema, rows, "require noted; delete log where n = 1;",
                   ("statement", 1, "required rows are missing"))
        self.check(schema, rows, "insert log from noted | select n = n + 5, code;",
                   ("denied", "no_note"), ("denied", "too_dear"))

    def test_tables_that_the_script_does_not_write_are_examined(self):
        schema = TWO.format(" check code > 0")
        rows = {"item": (), "log": pairs_of(((1, 0), "a"))}
        self.check(schema, rows, "insert item (1, 1);", ("check", "log", 1))


class Larger(LiftedCase):
    def test_too_many_names_for_all_outcomes(self):
        rng = random.Random(20)
        schema = read_schema(
            "table p (x integer, y integer) key x limit 4; table q (x integer, z integer) key x limit 4; "
            "table r (x integer, w integer) key x limit 4; "
            "table big (x integer, y integer, z integer, w integer) key x, y, z limit 6 check w < 9;"
            "deny bad = big | where x = 3 and w = 1;")
        tables = {}
        for table in "pqr":
            rows = []
            for n in range(4):
                rows.append(((n, n % 2), f"a{table}{n} and b{table}{n} or not c{table}{n} and d{table}{n}"))
            tables[table] = pairs_of(*rows)
        tables["big"] = ()
        names = self.names_in_facts(tables.values())
        self.assertEqual(len(names), 48)
        script = read_script(
            "insert big from p | join (q | select v = x, z) | join r | select x, y, z = v, w;"
            "update big set y = 0 where z < 2; delete p where x = 1;")
        check_script(schema, script)
        after, success = lifted_run(schema, tables, script)
        self.assertLessEqual(set(names_of(success)), set(names))
        results = set()
        for share in (0.2, 0.4, 0.5, 0.6, 0.8):
            for _ in range(40):
                committed = tuple([name for name in names if rng.random() < share])
                expected, result = run(schema, tables_for(tables, committed), script)
                self.assertIs(holds(success, committed), result[0] == "done")
                self.assertEqual(tables_for(after, committed), expected)
                results.add(result)
        self.assertGreater(len(results), 2)

    def test_the_success_can_be_passed_on(self):
        rows = {"item": pairs_of(((1, 1), "a"), ((2, 2), "b"), ((3, 3), "c"))}
        after, success, _ = self.check_run(ITEM.format(limit=3), rows, "insert item (4, 4), (5, 5);")
        known = learn(nothing_known(), success)
        self.assertEqual(known[2], (("a",), ("b",), ("c",), ()))
        for committed in all_outcomes("abc"):
            assigned = tuple([(name, name in committed) for name in "abc"])
            self.assertIs(truth(success, assigned), len(committed) <= 1)
        for row, fact in after["item"]:
            self.assertEqual(truth(fact, (("a", False), ("b", False), ("c", False))), row[0] > 3)

    def test_random_runs(self):
        rng = random.Random(21)
        done = 0
        failed = set()
        for _ in range(500):
            schema = self.random_schema(rng)
            tables = {"a": self.random_rows(rng, "ii"), "b": self.random_rows(rng, "is"),
                      "c": self.random_rows(rng, "ii")}
            for result in self.check_run(schema, tables, self.random_script(rng, schema))[2]:
                if result[0] == "done":
                    done += 1
                else:
                    failed.add(result[1])
        self.assertGreater(done, 100)
        self.assertGreater(len(failed), 15)

    def random_schema(self, rng):
        limits = [rng.choice((4, 5, 6)) for _ in range(3)]
        return read_schema(
            f"table a (id integer, x integer) key id limit {limits[0]} check x >= 0 reference x to b;"
            f"table b (n integer, s string) key n limit {limits[1]} check n < 6 or s = 'q';"
            f"table c (id integer, x integer) key id, x limit {limits[2]} check x != 3;"
            "view v = a | join (b | select x = n, s); deny d = a | matching c | where x = 2 and id > 1;")

    def random_rows(self, rng, kinds):
        rows = set()
        for _ in range(rng.randrange(5)):
            rows.add(tuple([rng.randrange(4) if kind == "i" else rng.choice("pq") for kind in kinds]))
        return tuple([(row, random_fact(rng, "wxyz", 2)) for row in sorted(rows)])

    def random_script(self, rng, schema):
        while True:
            script = read_script(" ".join(rng.choices(STATEMENTS, k=rng.randrange(1, 4))))
            try:
                check_script(schema, script)
            except IndoubtError:
                continue
            return script


STATEMENTS = (
    "insert a (1, 2), (2, 3);", "insert a (0, 0);", "insert b (0, 'p'), (1, 'q'), (2, 'p'), (3, 'q');",
    "insert c (1, 1), (2, 2);", "insert a from c;", "insert c from a | union c | where x > 0;",
    "insert a from a | select id = id + 1, x;", "insert c from v | select id, x;",
    "insert a from a | join (c | select y = x, z = id) | select id = id + y, x = z;",
    "update a set x = x + 1 where id > 1;", "update a set id = 1 where x > 1;", "update c set x = 0 where true;",
    "update c set id = 3 - id where x < 2;", "update a set x = x - 1000000 where id = 3;",
    "update b set n = n + 999999 where n > 1;", "delete a where x = 2;", "delete b where n = 1;",
    "delete c where true;", "require a | matching c;", "forbid a | without c | where id > 2;",
    "require b | where n = 2;", "forbid v | where id = 1;", "return v;", "require a | minus c;",
)


if __name__ == "__main__":
    unittest.main()

import random
import unittest

from building import execute, learn, prepare
from indoubt.facts import holds
from indoubt.history import admits, serial
from indoubt.reader import read_schema
from indoubt.schemas import empty_tables
from indoubt.scripts import run
from random_entries import SCHEMA, random_entries
from slow_search import all_outcomes

SEATS = read_schema("table seat (number integer, guest string) key number limit 9;")
NONE = {"seat": ()}
ADA = prepare("t1", "insert seat (1, 'ada');")
BOB = prepare("t2", "insert seat (1, 'bob');")
ALL = execute("return seat;")
FAILED = ("failed", ("key", "seat"))
DONE = ("done", ())


class Serial(unittest.TestCase):
    def check(self, entries, committed, *expected):
        """`expected` are pairs of the rows of the table and the result."""
        found = serial(SEATS, NONE, tuple(entries), committed)
        self.assertEqual(found, tuple([({"seat": rows}, result) for rows, result in expected]))
        self.assertIs(type(found), tuple)

    def test_no_entries(self):
        self.check((), ())
        self.check((), ("t1",))

    def test_facts_make_no_versions(self):
        self.check((learn("t1"), learn("false")), ("t1",))
        self.check((learn("t1"), ADA, learn("t2")), ("t1",), (((1, "ada"),), DONE))

    def test_executed_scripts(self):
        self.check((execute("insert seat (1, 'eve');"), ALL), (),
                   (((1, "eve"),), DONE), (((1, "eve"),), ("done", ((("number", "guest"), ((1, "eve"),)),))))

    def test_prepared_scripts(self):
        self.check((ADA, ALL), ("t1",), (((1, "ada"),), DONE),
                   (((1, "ada"),), ("done", ((("number", "guest"), ((1, "ada"),)),))))

    def test_skipped_scripts_have_a_result(self):
        self.check((ADA,), (), ((), DONE))
        self.check((execute("insert seat (1, 'eve');"), ADA), (), (((1, "eve"),), DONE), (((1, "eve"),), FAILED))
        self.check((ADA, BOB), ("t1",), (((1, "ada"),), DONE), (((1, "ada"),), FAILED))
        self.check((ADA, BOB), ("t2",), ((), DONE), (((1, "bob"),), DONE))

    def test_scripts_that_fail_change_nothing(self):
        self.check((ADA, BOB, execute("insert seat (1, 'eve'), (2, 'eve');")), ("t1", "t2"),
                   (((1, "ada"),), DONE), (((1, "ada"),), FAILED), (((1, "ada"),), FAILED))
        self.check((execute("require seat;"),), (),
                   ((), ("failed", ("statement", 1, "required rows are missing"))))

    def test_given_tables(self):
        found = serial(SEATS, {"seat": ((1, "eve"),)}, (ADA, execute("delete seat where true;"), ADA), ("t1",))
        self.assertEqual(found, (
            ({"seat": ((1, "eve"),)}, FAILED), ({"seat": ()}, DONE), ({"seat": ((1, "ada"),)}, DONE)))

    def test_other_names_may_commit(self):
        self.check((ADA,), ("t9", "t1", "x"), (((1, "ada"),), DONE))

    def test_every_version_has_a_dict_of_its_own(self):
        tables = {"seat": ()}
        found = serial(SEATS, tables, (ADA, ADA, execute("require seat;"), ALL), ())
        for place, (one, _) in enumerate(found):
            one["seat"] = place
        self.assertEqual([one["seat"] for one, _ in found], [0, 1, 2, 3])
        self.assertEqual(tables, {"seat": ()})

    def test_random_entries(self):
        rng = random.Random(30)
        for _ in range(60):
            entries = random_entries(rng, 6, ("a", "b", "c"))
            for committed in all_outcomes(("a", "b", "c")):
                tables = empty_tables(SCHEMA)
                expected = []
                for entry in entries:
                    if entry[0] == "learn":
                        continue
                    after, result = run(SCHEMA, tables, entry[-1])
                    if entry[0] == "execute" or entry[1] in committed:
                        tables = after
                    expected.append((tables, result))
                self.assertEqual(serial(SCHEMA, empty_tables(SCHEMA), entries, committed), tuple(expected))


class Admitting(unittest.TestCase):
    def check(self, entries, committed, expected, rows=()):
        self.assertIs(admits(SEATS, {"seat": rows}, tuple(entries), committed), expected)

    def test_no_entries(self):
        self.check((), (), True)
        self.check((), ("t1",), True)

    def test_facts(self):
        self.check((learn("t1"),), ("t1",), True)
        self.check((learn("t1"),), (), False)
        self.check((learn("t1 or t2"), learn("not t1")), ("t2",), True)
        self.check((learn("t1 or t2"), learn("not t1")), ("t1",), False)
        self.check((learn("t1 or t2"), learn("not t1")), (), False)
        self.check((learn("false"),), (), False)
        self.check((ADA, learn("not t1")), ("t1",), False)

    def test_prepared_scripts_must_succeed_if_they_commit(self):
        self.check((ADA, BOB), (), True)
        self.check((ADA, BOB), ("t1",), True)
        self.check((ADA, BOB), ("t2",), True)
        self.check((ADA, BOB), ("t1", "t2"), False)
        self.check((ADA,), ("t1",), False, ((1, "eve"),))
        self.check((ADA,), (), True, ((1, "eve"),))
        self.check((ADA, execute("delete seat where true;"), BOB), ("t1", "t2"), True)

    def test_executed_scripts_may_fail(self):
        self.check((execute("require seat;"), ADA), ("t1",), True)
        self.check((ADA, execute("insert seat (1, 'eve');")), ("t1",), True)

    def test_random_entries(self):
        rng = random.Random(31)
        counts = {True: 0, False: 0}
        for _ in range(60):
            entries = random_entries(rng, 6, ("a", "b", "c"))
            for committed in all_outcomes(("a", "b", "c")):
                expected = all(holds(entry[1], committed) for entry in entries if entry[0] == "learn")
                steps = serial(SCHEMA, empty_tables(SCHEMA), entries, committed)
                transactions = [entry for entry in entries if entry[0] != "learn"]
                for entry, (_, result) in zip(transactions, steps):
                    if entry[0] == "prepare" and entry[1] in committed and result[0] != "done":
                        expected = False
                self.assertIs(admits(SCHEMA, empty_tables(SCHEMA), entries, committed), expected)
                counts[expected] += 1
        self.assertGreater(min(counts.values()), 50)


if __name__ == "__main__":
    unittest.main()

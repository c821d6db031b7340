import random
import unittest

from building import execute, learn, prepare
from indoubt.certificates import check_certificate, claim_value, excludes, settle, truth
from indoubt.engine import Database
from indoubt.facts import holds
from indoubt.history import admits, serial
from indoubt.queries import answer_of
from indoubt.reader import read_fact, read_query, read_schema
from indoubt.schemas import empty_tables, relations_of
from random_entries import QUERIES, SCHEMA, add_what_is_accepted, random_entries
from random_facts import random_fact
from slow_certificates import SlowCertificates, slow_truth
from slow_search import all_outcomes

SEATS = read_schema("table seat (number integer, guest string) key number limit 9;")
NEW = ((), ((),), ({"seat": ()},))
HOLDS = ("holds",)
FAILED = ("failed", ("key", "seat"))
DONE = ("done", ())


def fact(text):
    return ("fact", read_fact(text))


def assignment(text):
    """An assignment from a text such as "a -b"."""
    return tuple([(word.strip("-"), word[0] != "-") for word in sorted(text.split(), key=lambda word: word.strip("-"))])


ADA = prepare("t2", "insert seat (1, 'ada');")
BOB = prepare("t1", "insert seat (1, 'bob');")
SEAT_ONE = read_query("seat | where number = 1 | select guest")
# Two transactions are pending at this beginning; t3 has inserted one of two rows.
PENDING = (
    (("t3", 5, True), ("t4", 1, False)), (("t3", "t4"), ("t3",), ("t4",)),
    ({"seat": ((1, "eve"),)}, {"seat": ((1, "eve"),)}, {"seat": ((2, "eve"),)}))


class Truth(unittest.TestCase):
    def check(self, text, true, false, open_):
        """The fact is true, false and open under the assignments, which are separated by commas."""
        for expected, texts in ((True, true), (False, false), (None, open_)):
            for assigned in texts.split(", ") if texts is not None else ():
                with self.subTest(fact=text, assigned=assigned):
                    self.assertIs(truth(read_fact(text), assignment(assigned)), expected)

    def test_constants(self):
        self.check("true", ", a, -a", None, None)
        self.check("false", None, ", a, -a", None)

    def test_commits(self):
        self.check("a", "a, a b, a -b", "-a, -a b", ", b, -b")

    def test_one_of(self):
        self.check("one of (a)", "a", "-a", ", b")
        self.check("one of (a, b, c)", "a -b -c, -a -b c", "-a -b -c, a b, b c, a b c, -a b c",
                   ", a, a -b, -a -b, -a b, b -c")

    def test_one_of_with_a_name_at_two_places(self):
        self.check("one of (a, a)", None, "a, -a", "")
        self.check("one of (a, b, a)", "-a b", "a, a b, a -b, -a -b", ", -a, b, -b")

    def test_not(self):
        self.check("not a", "-a", "a", ", b")
        self.check("not not a", "a", "-a", "")

    def test_and(self):
        self.check("a and b", "a b", "-a, -b, a -b, -a b", ", a, b")

    def test_an_open_part_before_a_false_one(self):
        self.check("a and b and c", "a b c", "-c, a -c, b -c, -b", "a b, c, b c")
        self.check("a and false", None, ", a", None)
        self.check("a or b or c", "c, -a c, b", "-a -b -c", "-a -b, -c, ")
        self.check("a or true", ", -a", None, None)

    def test_or(self):
        self.check("a or b", "a, b, a -b, -a b", "-a -b", ", -a, -b")

    def test_implies(self):
        self.check("a implies b", "-a, b, a b, -a -b", "a -b", ", a, -b")
        self.check("a implies b implies c", "-a, -b, c", "a b -c", "a b, a -c, ")

    def test_what_is_open_stays_open_even_if_it_could_be_known(self):
        self.check("a or not a", "a, -a", None, "")
        self.check("a and not a", None, "a, -a", "")
        self.check("a implies a", "a, -a", None, "b")

    def test_random_facts(self):
        rng = random.Random(40)
        names = ("a", "b", "c", "d")
        for _ in range(400):
            one = random_fact(rng, names, 3)
            assigned = tuple([(name, rng.random() < 0.5) for name in names if rng.random() < 0.6])
            self.assertIs(truth(one, assigned), slow_truth(one, assigned))
            if len(assigned) == 4:
                self.assertIs(truth(one, assigned), holds(one, tuple([name for name, yes in assigned if yes])))


class Excluding(unittest.TestCase):
    def check(self, beginning, entries, number, excluded, not_excluded):
        """The number excludes the first assignments, not the others; they are separated by commas."""
        for expected, texts in ((True, excluded), (False, not_excluded)):
            for text in texts.split(", ") if texts is not None else ():
                with self.subTest(number=number, assigned=text):
                    self.assertIs(excludes(SEATS, beginning, tuple(entries), number, assignment(text)), expected)

    def test_the_beginning(self):
        self.check(NEW, (ADA,), 0, None, ", t2, -t2")
        self.check(PENDING, (), 0, "-t3 -t4", ", t3, -t3, t4, -t4, t3 t4, t3 -t4, -t3 t4, t9")

    def test_facts(self):
        entries = (learn("t1 or t2"), learn("not t1"))
        self.check(NEW, entries, 1, "-t1 -t2", ", t1, -t1, -t2, t1 -t2")
        self.check(NEW, entries, 2, "t1, t1 -t2", ", -t1, t2, -t1 -t2")

    def test_executed_scripts_exclude_nothing(self):
        self.check(NEW, (execute("require seat;"),), 1, None, ", t1, -t1")

    def test_prepared_scripts(self):
        entries = (ADA, BOB)
        self.check(NEW, entries, 1, None, ", t2, t1, t1 t2")
        self.check(NEW, entries, 2, "t1 t2", ", t1, t2, -t1 t2, t1 -t2, -t1 -t2")

    def test_a_script_that_always_fails(self):
        always = (prepare("t1", "require seat;"),)
        self.check(NEW, always, 1, "t1, t1 t2", ", -t1, t2")

    def test_the_version_must_be_determined(self):
        # The second script fails whether t2 commits or not, but without t2 its tables are not determined.
        entries = (ADA, prepare("t1", "require seat | where number = 9;"), execute("return seat;"), learn("t1"))
        self.check(NEW, entries, 2, "t1 t2, t1 -t2", "t1, , -t1, -t1 t2")
        self.check(PENDING, (prepare("t1", "insert seat (1, 'bob');"),), 1, "t1 t3 t4, t1 t3 -t4",
                   "t1, t1 t3, t1 t4, t1 -t3, -t1 t3 t4, t1 -t3 t4, t1 -t3 -t4, t3 t4")

    def test_versions_are_not_numbers_of_entries(self):
        entries = (learn("t8"), ADA, learn("t9 or t8"), execute("insert seat (7, 'eve');"), BOB)
        self.check(NEW, entries, 5, "t1 t2", "t1, t1 -t2, -t1 t2, t8")
        self.check(NEW, entries, 2, None, "t1 t2, t1, t2")

    def test_names_that_were_prepared_later_do_not_matter(self):
        entries = (prepare("t1", "require seat;"), ADA)
        self.check(NEW, entries, 1, "t1, t1 t2, t1 -t2", "-t1")


class Claims(unittest.TestCase):
    def check(self, claim, true, false, open_, beginning=NEW, entries=(ADA, BOB, learn("t1 or t2"))):
        for expected, texts in ((True, true), (False, false), (None, open_)):
            for text in texts.split(", ") if texts is not None else ():
                with self.subTest(claim=claim, assigned=text):
                    found = claim_value(SEATS, beginning, tuple(entries), claim, assignment(text))
                    self.assertIs(found, expected)

    def test_facts(self):
        self.check(fact("t1 implies t2"), "-t1, t2", "t1 -t2", ", t1, -t2")

    def test_rows_at_version_0(self):
        seats = read_query("seat")
        self.check(("row", 0, seats, (1, "ada")), None, ", t1", None)
        self.check(("no row", 0, seats, (1, "ada")), ", -t2", None, None)
        self.check(("row", 0, seats, (1, "eve")), "t3 t4, t3 -t4", "-t3 t4", ", t3, -t3, t4, -t3 -t4", PENDING)
        self.check(("no row", 0, seats, (1, "eve")), "-t3 t4", "t3 t4, t3 -t4", ", t3, -t3, t4, -t3 -t4", PENDING)

    def test_rows_at_later_versions(self):
        self.check(("row", 1, SEAT_ONE, ("ada",)), "t2, t1 t2", "-t2, t1 -t2", ", t1")
        self.check(("row", 2, SEAT_ONE, ("ada",)), "t1 t2, -t1 t2", "t1 -t2, -t1 -t2", ", t1, t2")
        self.check(("row", 2, SEAT_ONE, ("bob",)), "t1 -t2", "t1 t2, -t1 t2", ", t1, -t2")
        self.check(("no row", 1, SEAT_ONE, ("ada",)), "-t2", "t2", ", t1")
        self.check(("no row", 2, SEAT_ONE, ("cy",)), "t1 t2, -t1 -t2", None, ", t1, t2")

    def test_results_at_version_1(self):
        self.check(("result", 1, DONE), ", t1, -t2", None, None)
        self.check(("result", 1, FAILED), None, ", t1", None)
        self.check(("result", 1, DONE), "-t3 t4, -t3 t4 t1", "t3 t4, t3 -t4", ", t3, -t3 -t4", PENDING, (BOB,))

    def test_results_at_later_versions(self):
        self.check(("result", 2, FAILED), "t2, t1 t2", "-t2, t1 -t2", ", t1, -t1")
        self.check(("result", 2, DONE), "-t2, t1 -t2", "t2", "")

    def test_results_with_answers(self):
        entries = (ADA, execute("return seat | select guest;"))
        result = ("done", ((("guest",), (("ada",),)),))
        self.check(("result", 2, result), "t2", "-t2", "", NEW, entries)


class Checking(unittest.TestCase):
    def check(self, claim, certificate, expected, beginning=NEW, entries=(ADA, BOB)):
        found = check_certificate(SEATS, beginning, tuple(entries), claim, certificate)
        self.assertIs(found, expected, certificate)

    def test_holds(self):
        self.check(fact("true"), HOLDS, True)
        self.check(fact("t1 or not t1"), HOLDS, False)
        self.check(fact("false"), HOLDS, False)
        self.check(("row", 0, SEAT_ONE, ("ada",)), HOLDS, False)
        self.check(("no row", 0, SEAT_ONE, ("ada",)), HOLDS, True)

    def test_excluded(self):
        self.check(fact("false"), ("excluded", 1), False)
        self.check(fact("false"), ("excluded", 1), True, NEW, (learn("false"),))
        self.check(fact("false"), ("excluded", 0), False, PENDING)

    def test_numbers_that_are_not_those_of_entries(self):
        for number in (-1, -2, -100, 3, 4, 1000000):
            self.check(fact("false"), ("excluded", number), False)
            self.check(fact("false"), ("excluded", number), False, NEW, (learn("false"), learn("false")))

    def test_ask(self):
        both = fact("not (t1 and t2)")
        right = ("ask", "t1", ("ask", "t2", ("excluded", 2), HOLDS), HOLDS)
        self.check(both, right, True)
        self.check(both, ("ask", "t2", ("ask", "t1", ("excluded", 2), HOLDS), HOLDS), True)
        self.check(both, ("ask", "t1", ("ask", "t2", ("excluded", 1), HOLDS), HOLDS), False)
        self.check(both, ("ask", "t1", ("ask", "t2", HOLDS, HOLDS), HOLDS), False)
        self.check(both, ("ask", "t1", ("ask", "t2", ("excluded", 2), ("excluded", 2)), HOLDS), False)
        self.check(both, ("ask", "t1", HOLDS, ("ask", "t2", ("excluded", 2), HOLDS)), False)
        self.check(both, ("ask", "t1", ("excluded", 2), HOLDS), False)
        self.check(both, ("ask", "t1", right, right), False)

    def test_names_that_do_not_matter_can_be_asked(self):
        both = fact("not (t1 and t2)")
        right = ("ask", "t1", ("ask", "t2", ("excluded", 2), HOLDS), HOLDS)
        self.check(both, ("ask", "x", right, right), True)

    def test_a_name_that_is_asked_twice(self):
        self.check(fact("true"), ("ask", "t1", ("ask", "t1", HOLDS, HOLDS), HOLDS), False)
        self.check(fact("true"), ("ask", "t1", HOLDS, ("ask", "t1", HOLDS, HOLDS)), False)
        self.check(fact("true"), ("ask", "t1", HOLDS, ("ask", "t2", HOLDS, ("ask", "t1", HOLDS, HOLDS))), False)
        self.check(fact("true"), ("ask", "t1", ("ask", "t2", HOLDS, HOLDS), ("ask", "t2", HOLDS, HOLDS)), True)

    def test_both_branches_count(self):
        self.check(fact("t1"), ("ask", "t1", HOLDS, HOLDS), False)
        self.check(fact("not t1"), ("ask", "t1", HOLDS, HOLDS), False)

    def test_a_row_that_is_there_for_no_outcome(self):
        row = ("row", 2, SEAT_ONE, ("cy",))
        for certificate in (HOLDS, ("excluded", 0), ("excluded", 2)):
            certificate = ("ask", "t1", certificate, certificate)
            certificate = ("ask", "t2", certificate, certificate)
            self.check(row, certificate, False)
        none = ("ask", "t1", ("ask", "t2", HOLDS, HOLDS), ("ask", "t2", HOLDS, HOLDS))
        self.check(("no row", 2, SEAT_ONE, ("cy",)), none, True)

    def test_twelve_questions_on_a_way(self):
        certificate = HOLDS
        for number in range(12):
            certificate = ("ask", f"x{number}", HOLDS, certificate)
        self.check(fact("true"), certificate, True)


class Settling(unittest.TestCase):
    def check(self, claim, expected, beginning=NEW, entries=(ADA, BOB)):
        self.assertEqual(settle(SEATS, beginning, tuple(entries), claim), expected)
        if expected[0] == "certain":
            self.assertIs(check_certificate(SEATS, beginning, tuple(entries), claim, expected[1]), True)

    def test_the_examples(self):
        self.check(fact("not (t1 and t2)"),
                   ("certain", ("ask", "t1", ("ask", "t2", ("excluded", 2), HOLDS), HOLDS)))
        self.check(fact("t1"), ("open", ("t2",)))

    def test_the_examples_from_a_schema_a_beginning_and_entries_alone(self):
        seats = Database(SEATS)
        seats.prepare("t2", ADA[3])
        seats.prepare("t1", BOB[3])
        self.assertEqual((seats.schema, seats.beginning, tuple(seats)), (SEATS, NEW, (ADA, BOB)))
        self.check(fact("not (t1 and t2)"),
                   ("certain", ("ask", "t1", ("ask", "t2", ("excluded", 2), HOLDS), HOLDS)),
                   seats.beginning, tuple(seats))

    def test_claims_that_hold_at_once(self):
        self.check(fact("true"), ("certain", HOLDS))
        self.check(fact("t1 implies true"), ("certain", HOLDS))
        self.check(("no row", 0, SEAT_ONE, ("ada",)), ("certain", HOLDS))
        self.check(("result", 1, DONE), ("certain", HOLDS))

    def test_true_claims_come_before_excluding_numbers(self):
        self.check(fact("true"), ("certain", HOLDS), NEW, (learn("false"),))
        self.check(fact("false"), ("certain", ("excluded", 1)), NEW, (learn("false"),))

    def test_the_least_excluding_number(self):
        entries = (learn("t1 or t2"), learn("t1"), learn("t1 and t2"))
        self.check(fact("t1 and t2"), ("certain", ("ask", "t1", ("ask", "t2", HOLDS, ("excluded", 3)),
                                                   ("excluded", 2))), NEW, entries)
        self.check(fact("t1 or t3"), ("certain", ("ask", "t1", HOLDS, ("excluded", 2))), NEW, entries)
        self.check(fact("false"), ("open", ("t1",)), NEW, (learn("t1"), learn("t1")))

    def test_the_beginning_excludes_first(self):
        entries = (learn("t3 or t4"),)
        self.check(fact("t3 or t4"), ("certain", ("ask", "t3", HOLDS, ("ask", "t4", HOLDS, ("excluded", 0)))),
                   PENDING, entries)

    def test_names_are_asked_in_ascending_order(self):
        entries = (prepare("b", "insert seat (1, 'ada');"), learn("c or not c"))
        self.check(fact("a and not a or b or d"), ("open", ("a", "c")), NEW, entries)
        self.check(fact("not (a10 and b and not a9)"), ("open", ("a10", "b", "c")), NEW, entries)

    def test_open_claims_stop_at_the_first_outcome(self):
        self.check(fact("not t1"), ("open", ("t1",)))
        self.check(fact("t1 and t2"), ("open", ("t1",)))
        self.check(fact("t1 or t2"), ("open", ()))
        self.check(fact("false"), ("open", ("t1",)))

    def test_pending_names(self):
        seats = read_query("seat")
        self.check(("row", 0, seats, (1, "eve")), ("open", ("t4",)), PENDING, ())
        self.check(("no row", 0, seats, (3, "eve")), ("certain", (
            "ask", "t3", ("ask", "t4", HOLDS, HOLDS), ("ask", "t4", HOLDS, ("excluded", 0)))), PENDING, ())
        self.check(("result", 1, DONE), ("open", ("t3", "t4")), PENDING, (
            prepare("t1", "forbid seat | where number = 1;"),))

    def test_names_in_claims_alone(self):
        self.check(fact("x or not x"), ("certain", ("ask", "t1", ("ask", "t2", ("excluded", 2), (
            "ask", "x", HOLDS, HOLDS)), ("ask", "t2", ("ask", "x", HOLDS, HOLDS), ("ask", "x", HOLDS, HOLDS)))))

    def test_results(self):
        self.check(("result", 2, DONE), ("open", ("t2",)))
        self.check(("result", 2, FAILED), ("open", ("t1",)))
        self.check(("result", 2, FAILED), ("certain", ("ask", "t1", ("ask", "t2", HOLDS, ("excluded", 3)), (
            "ask", "t2", HOLDS, ("excluded", 3)))), NEW, (ADA, BOB, learn("t2")))
        self.check(("result", 2, DONE), ("certain", ("ask", "t1", ("ask", "t2", ("excluded", 2), HOLDS), (
            "ask", "t2", ("excluded", 3), HOLDS))), NEW, (ADA, BOB, learn("not t2")))


class Larger(unittest.TestCase):
    """Random entries and claims, against a slow search in the words of the document."""

    def test_random_claims(self):
        rng = random.Random(41)
        counts = {"certain": 0, "open": 0}
        for _ in range(150):
            beginning, entries = self.random_history(rng)
            slow = SlowCertificates(SCHEMA, beginning, entries)
            for _ in range(4):
                claim = self.random_claim(rng, beginning, entries)
                found = settle(SCHEMA, beginning, entries, claim)
                self.assertEqual(found, slow.settle(claim))
                counts[found[0]] += 1
                self.check_outcomes(beginning, entries, claim, found)
                self.check_certificates(rng, slow, claim, found)
                self.check_assignments(rng, slow, claim)
        self.assertGreater(min(counts.values()), 50)

    def check_outcomes(self, beginning, entries, claim, found):
        """Compares with the outcomes that are admitted."""
        names = SlowCertificates(SCHEMA, beginning, entries).names_that_matter(claim)
        admitted = []
        for committed in all_outcomes(names):
            here = tuple([name for name in committed if name in [one for one, _, _ in beginning[0]]])
            if here in beginning[1]:
                tables = beginning[2][beginning[1].index(here)]
                if admits(SCHEMA, tables, entries, committed):
                    admitted.append((committed, self.is_true(tables, entries, claim, committed)))
        self.assertEqual(found[0] == "certain", all(true for _, true in admitted))
        if found[0] == "open":
            self.assertIn((found[1], False), admitted)

    def is_true(self, tables, entries, claim, committed):
        """Whether the claim is true for outcomes, in the words of the document."""
        if claim[0] == "fact":
            return holds(claim[1], committed)
        steps = ((tables, None),) + serial(SCHEMA, tables, entries, committed)
        if claim[0] == "result":
            return steps[claim[1]][1] == claim[2]
        rows = answer_of(claim[2], relations_of(SCHEMA, steps[claim[1]][0]))[1]
        return (claim[3] in rows) == (claim[0] == "row")

    def check_certificates(self, rng, slow, claim, found):
        certificates = [self.random_certificate(rng, slow, 3) for _ in range(5)]
        if found[0] == "certain":
            certificates.append(found[1])
            certificates.extend([self.changed(rng, found[1], slow) for _ in range(5)])
        for certificate in certificates:
            self.assertIs(
                check_certificate(slow.schema, slow.beginning, slow.entries, claim, certificate),
                slow.is_right(claim, certificate))

    def check_assignments(self, rng, slow, claim):
        for _ in range(5):
            names = slow.names_that_matter(claim)
            assigned = tuple([(name, rng.random() < 0.5) for name in names if rng.random() < 0.7])
            self.assertIs(claim_value(slow.schema, slow.beginning, slow.entries, claim, assigned),
                          slow.value(claim, assigned))
            for number in range(len(slow.entries) + 1):
                self.assertIs(excludes(slow.schema, slow.beginning, slow.entries, number, assigned),
                              slow.excludes(number, assigned))

    def random_history(self, rng):
        """A beginning, new or a snapshot, and entries, which a database need not accept."""
        if rng.random() < 0.5:
            return ((), ((),), (empty_tables(SCHEMA),)), random_entries(rng, 5, ("a", "b", "c"))
        earlier = add_what_is_accepted(Database(SCHEMA), random_entries(rng, 6, ("p", "q")))
        return earlier.snapshot(), random_entries(rng, 4, ("a", "b"))

    def random_claim(self, rng, beginning, entries):
        names = sorted({name for name, _, _ in beginning[0]} | {"a", "b"})
        versions = len([entry for entry in entries if entry[0] != "learn"])
        choice = rng.choice(("fact", "row", "no row", "result"))
        if choice == "fact" or choice == "result" and not versions:
            return ("fact", random_fact(rng, names, 2))
        if choice == "result":
            version = rng.randrange(1, versions + 1)
            tables = rng.choice(beginning[2])
            steps = serial(SCHEMA, tables, entries, tuple(rng.sample(names, rng.randrange(len(names) + 1))))
            return ("result", version, rng.choice((("done", ()), steps[version - 1][1], steps[version - 1][1])))
        version = rng.randrange(versions + 1)
        query = rng.choice(QUERIES)
        tables = rng.choice(beginning[2])
        committed = tuple(rng.sample(names, rng.randrange(len(names) + 1)))
        steps = ((tables, None),) + serial(SCHEMA, tables, entries, committed)
        columns, rows = answer_of(query, relations_of(SCHEMA, steps[version][0]))
        row = rng.choice(rows) if rows else (1,) * len(columns)
        return (choice, version, query, row)

    def random_certificate(self, rng, slow, depth):
        choice = rng.randrange(4)
        if depth and choice < 2:
            name = rng.choice(slow.names_that_matter(("fact", ("commits", "a"))))
            parts = [self.random_certificate(rng, slow, depth - 1) for _ in range(2)]
            return ("ask", name, parts[0], parts[1])
        if choice == 2:
            return ("excluded", rng.randrange(-1, len(slow.entries) + 2))
        return HOLDS

    def changed(self, rng, certificate, slow):
        """The certificate with one of its ends changed."""
        if certificate[0] != "ask":
            return rng.choice((HOLDS, ("excluded", rng.randrange(len(slow.entries) + 1)), certificate))
        _, name, if_commits, if_aborts = certificate
        if rng.random() < 0.5:
            return ("ask", name, self.changed(rng, if_commits, slow), if_aborts)
        return ("ask", name, if_commits, self.changed(rng, if_aborts, slow))

    def test_eight_names_that_matter(self):
        names = [f"n{number}" for number in range(8)]
        entries = tuple([prepare(name, f"insert seat ({number}, 'eve');") for number, name in enumerate(names)])
        for claim in (("no row", 8, SEAT_ONE, ("ada",)), fact("n0 or not n7"), ("result", 8, DONE)):
            found = settle(SEATS, NEW, entries, claim)
            self.assertEqual(found[0], "open" if claim[0] == "fact" else "certain")
            if found[0] == "certain":
                self.assertTrue(check_certificate(SEATS, NEW, entries, claim, found[1]))


if __name__ == "__main__":
    unittest.main()

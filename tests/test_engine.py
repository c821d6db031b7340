import unittest

from indoubt.engine import Database
from indoubt.errors import (
    AlreadyDecided, AlreadyPrepared, ColumnsDiffer, Contradiction, IndoubtError, KindsDiffer, NotCertain, RowMismatch,
    TooManyUndecided, UnknownColumn, UnknownOutcome, UnknownTable, UnknownVersion,
)
from indoubt.logs import log_text, snapshot_text
from indoubt.outcomes import learn, nothing_known
from indoubt.reader import read_fact, read_query, read_schema, read_script

SEATS = read_schema("table seat (number integer, guest string) key number limit 9;")
ADA = "insert seat (1, 'ada');"
BOB = "insert seat (1, 'bob');"
CLEO = "insert seat (2, 'cleo');"
EVE = "insert seat (3, 'eve');"
ALWAYS = ((),)
NEVER = ()
DONE = ("done", ())
FAILED = ("failed", ("key", "seat"))
T1 = ((("t1", True),),)
NO_T1 = ((("t1", False),),)
T2 = ((("t2", True),),)
NO_T2 = ((("t2", False),),)


class EngineCase(unittest.TestCase):
    def database(self, *texts):
        """A database with entries from texts such as "execute insert ..", "t1 insert .." and "learn t1"."""
        database = Database(SEATS)
        for text in texts:
            word, _, rest = text.partition(" ")
            if word == "execute":
                database.execute(read_script(rest))
            elif word == "learn":
                database.learn(read_fact(rest))
            else:
                database.prepare(word, read_script(rest))
        return database

    def state(self, database):
        """Everything that can be seen of the database."""
        reports = [database.report(version) for version in range(1, database.version + 1)]
        tables = [
            database.tables_at(version, outcome)
            for version in range(database.version + 1) for outcome in database.known[2]]
        return (log_text(database), snapshot_text(database), database.known, database.pending, len(database),
                tuple(database), reports, tables, database.beginning, database.snapshot())

    def refuse(self, database, error, call, **attributes):
        """The call raises the error with these attributes, and changes nothing."""
        before = self.state(database)
        with self.assertRaises(IndoubtError) as caught:
            call()
        self.assertIs(type(caught.exception), error)
        for name, value in attributes.items():
            self.assertEqual(getattr(caught.exception, name), value)
        self.assertEqual(self.state(database), before)


class Executing(EngineCase):
    def test_scripts_that_succeed(self):
        database = self.database()
        self.assertEqual(database.execute(read_script(ADA)), ALWAYS)
        self.assertEqual(database.version, 1)
        self.assertEqual(database.tables_at(1, ()), {"seat": ((1, "ada"),)})
        self.assertEqual(database.tables_at(0, ()), {"seat": ()})
        self.assertEqual(tuple(database), (("execute", read_script(ADA)),))

    def test_scripts_that_fail_make_a_version_too(self):
        database = self.database("execute " + ADA)
        self.assertEqual(database.execute(read_script(BOB)), NEVER)
        self.assertEqual(database.version, 2)
        self.assertEqual(len(database), 2)
        self.assertEqual(database.tables_at(2, ()), {"seat": ((1, "ada"),)})
        self.assertEqual(database.report(2)["results"], ((FAILED, ALWAYS),))

    def test_what_is_known_does_not_change(self):
        database = self.database("t1 " + ADA)
        known = database.known
        self.assertEqual(database.execute(read_script(BOB)), NO_T1)
        self.assertEqual(database.known, known)
        self.assertEqual(database.tables_at(2, ("t1",)), {"seat": ((1, "ada"),)})
        self.assertEqual(database.tables_at(2, ()), {"seat": ((1, "bob"),)})

    def test_the_checks_of_scripts(self):
        database = self.database("t1 " + ADA)
        for text, error, attributes in (
                ("delete chair where true;", UnknownTable, {"name": "chair"}),
                ("insert seat (1, 2);", RowMismatch, {"name": "seat"}),
                ("insert seat from seat | select number;", ColumnsDiffer, {}),
                ("update seat set guest = 1 where true;", KindsDiffer, {"name": "guest"}),
                ("return seat | where price = 1;", UnknownColumn, {"name": "price"})):
            script = read_script(text)
            self.refuse(database, error, lambda: database.execute(script), **attributes)
            self.refuse(database, error, lambda: database.execute(script, certain=True), **attributes)
            self.refuse(database, error, lambda: database.prepare("t2", script), **attributes)
            self.refuse(database, error, lambda: database.prepare("t1", script), **attributes)
            self.refuse(database, error, lambda: database.preview(script), **attributes)
            self.refuse(database, error, lambda: database.inquire(script), **attributes)

    def test_certain_results(self):
        database = self.database("t1 " + ADA)
        self.assertEqual(database.execute(read_script(CLEO), certain=True), ALWAYS)
        self.assertEqual(database.execute(read_script("require seat | where number = 5;"), certain=True), NEVER)
        self.assertEqual(database.version, 3)

    def test_results_that_are_not_certain(self):
        database = self.database("t1 " + ADA, "t2 " + CLEO, "t3 " + EVE)
        for text, names in (
                (BOB, ("t1",)), ("return seat | where number = 3;", ("t3",)),
                ("return seat | where number != 2;", ("t1", "t3")),
                ("require seat;", ("t1", "t2", "t3")), ("return seat;", ("t1", "t2", "t3"))):
            script = read_script(text)
            self.refuse(database, NotCertain, lambda: database.execute(script, certain=True), names=names)
            self.assertEqual(len(Database(SEATS, beginning=database.snapshot()).preview(script)),
                             len(database.preview(script)))

    def test_names_of_results_that_are_not_certain(self):
        database = self.database("t1 " + ADA, "learn t1 implies a9", "learn a9 implies t1", "learn x or not x")
        self.refuse(database, NotCertain, lambda: database.execute(read_script(BOB), certain=True), names=("a9",))

    def test_without_certain_results_are_not_certain(self):
        database = self.database("t1 " + ADA)
        self.assertEqual(database.execute(read_script(BOB), certain=False), NO_T1)


class Preparing(EngineCase):
    def test_the_example_of_the_document(self):
        database = self.database("t2 " + ADA, "t1 " + BOB)
        self.assertEqual(database.known, ((), ("t1", "t2"), (("t1",), ("t2",), ())))
        self.assertEqual(database.learn(read_fact("t2")), ((("t1", False), ("t2", True)), (2,)))
        self.assertEqual(database.known, ((("t1", False), ("t2", True)), (), ((),)))

    def test_votes(self):
        database = self.database()
        self.assertEqual(database.prepare("t2", read_script(ADA)), ALWAYS)
        self.assertEqual(database.prepare("t1", read_script(BOB)), NO_T2)
        self.assertEqual(database.prepare("t3", read_script("require seat | where guest = 'bob';")), T1)
        self.assertEqual(database.known[2], (("t1", "t3"), ("t1",), ("t2",), ()))

    def test_tables_of_prepared_scripts(self):
        database = self.database("t1 " + ADA)
        self.assertEqual(database.tables_at(1, ("t1",)), {"seat": ((1, "ada"),)})
        self.assertEqual(database.tables_at(1, ()), {"seat": ()})

    def test_a_script_that_always_fails_is_decided(self):
        database = self.database()
        self.assertEqual(database.prepare("t1", read_script("require seat;")), NEVER)
        self.assertEqual(database.known, ((("t1", False),), (), ((),)))
        self.assertEqual(database.version, 1)

    def test_a_failure_that_decides_another_name(self):
        database = self.database("learn one of (t1, t3)")
        self.assertEqual(database.known[1], ("t1", "t3"))
        self.assertEqual(database.prepare("t1", read_script("require seat;")), NEVER)
        self.assertEqual(database.known, ((("t1", False), ("t3", True)), (), ((),)))
        database = self.database("learn t1 or t3", "t3 " + ADA)
        self.assertEqual(database.prepare("t1", read_script("require seat | where number = 2;")), NEVER)
        self.assertEqual(database.known, ((("t1", False), ("t3", True)), (), ((),)))
        self.assertEqual(database.tables_at(2, ()), {"seat": ((1, "ada"),)})

    def test_a_name_that_is_prepared_already(self):
        database = self.database("t1 " + ADA)
        self.refuse(database, AlreadyPrepared, lambda: database.prepare("t1", read_script(CLEO)), name="t1")

    def test_a_prepared_name_that_was_decided(self):
        database = self.database("t1 " + ADA, "learn t1", "t2 require seat | where number = 9;")
        for name in ("t1", "t2"):
            self.refuse(database, AlreadyPrepared, lambda: database.prepare(name, read_script(CLEO)), name=name)

    def test_a_name_that_the_beginning_says_is_prepared(self):
        database = Database(SEATS, beginning=self.database("t1 " + ADA, "learn t2 implies t1").snapshot())
        self.refuse(database, AlreadyPrepared, lambda: database.prepare("t1", read_script(CLEO)), name="t1")
        database.learn(read_fact("not t1"))
        self.refuse(database, AlreadyPrepared, lambda: database.prepare("t1", read_script(CLEO)), name="t1")
        self.refuse(database, AlreadyDecided, lambda: database.prepare("t2", read_script(CLEO)), name="t2")

    def test_a_name_that_is_decided(self):
        database = self.database("learn t1 and not t2")
        for name in ("t1", "t2"):
            self.refuse(database, AlreadyDecided, lambda: database.prepare(name, read_script(CLEO)), name=name)

    def test_a_name_that_only_a_fact_has_named(self):
        database = self.database("learn t1 implies t2")
        self.assertEqual(database.pending, (("t1", 1, False), ("t2", 1, False)))
        self.assertEqual(database.prepare("t2", read_script(ADA), cost=7), ALWAYS)
        self.assertEqual(database.pending, (("t1", 1, False), ("t2", 7, True)))
        self.assertEqual(database.known[2], (("t1", "t2"), ("t2",), ()))
        self.assertEqual(database.tables_at(1, ("t1", "t2")), {"seat": ((1, "ada"),)})
        self.assertEqual(database.tables_at(1, ()), {"seat": ()})

    def test_a_seventh_undecided_name(self):
        database = self.database("t1 " + ADA, "learn one of (t2, t3, t4, t5, t6)")
        self.refuse(database, TooManyUndecided, lambda: database.prepare("t7", read_script(CLEO)), count=7)
        self.refuse(database, TooManyUndecided, lambda: database.prepare("a", read_script("require seat;")), count=7)

    def test_a_name_that_is_undecided_is_not_counted_twice(self):
        database = self.database("t1 " + ADA, "learn one of (t2, t3, t4, t5, t6)")
        self.assertEqual(database.prepare("t6", read_script(CLEO)), ALWAYS)
        self.assertEqual(len(database.known[1]), 6)

    def test_the_order_of_errors(self):
        database = self.database("t1 " + ADA, "learn t1", "learn t2 or t3 or t4 or t5 or t6 or t7")
        wrong = read_script("delete chair where true;")
        right = read_script(CLEO)
        self.refuse(database, UnknownTable, lambda: database.prepare("t1", wrong), name="chair")
        self.refuse(database, AlreadyPrepared, lambda: database.prepare("t1", right), name="t1")
        database.learn(read_fact("not t2"))
        self.refuse(database, UnknownTable, lambda: database.prepare("t2", wrong), name="chair")
        database.prepare("t9", right)
        self.refuse(database, AlreadyDecided, lambda: database.prepare("t2", right), name="t2")
        self.refuse(database, UnknownTable, lambda: database.prepare("t8", wrong), name="chair")
        self.refuse(database, TooManyUndecided, lambda: database.prepare("t8", right), count=7)

    def test_costs(self):
        database = self.database()
        database.prepare("t1", read_script(ADA), cost=1000)
        database.prepare("t2", read_script(CLEO))
        database.prepare("t0", read_script(EVE), cost=2)
        self.assertEqual(database.pending, (("t0", 2, True), ("t1", 1000, True), ("t2", 1, True)))
        self.assertEqual([entry[:3] for entry in database], [
            ("prepare", "t1", 1000), ("prepare", "t2", 1), ("prepare", "t0", 2)])
        database.learn(read_fact("t1"))
        self.assertEqual(database.pending, (("t0", 2, True), ("t2", 1, True)))


class Learning(EngineCase):
    def learn(self, database, text):
        return database.learn(read_fact(text))

    def test_what_is_known_already(self):
        database = self.database("t1 " + ADA)
        self.assertEqual(self.learn(database, "t1 or not t1"), ((), ()))
        self.assertEqual(self.learn(database, "true"), ((), ()))
        self.assertEqual(len(database), 3)
        self.assertEqual(database.version, 1)
        self.learn(database, "t1")
        self.assertEqual(self.learn(database, "t1"), ((), ()))
        self.assertEqual(tuple(database)[1:], (
            ("learn", read_fact("t1 or not t1")), ("learn", ("true",)), ("learn", read_fact("t1")),
            ("learn", read_fact("t1"))))

    def test_contradictions(self):
        database = self.database("t1 " + ADA, "t2 " + BOB, "learn t1")
        for text in ("t2", "not t1", "false", "t3 and not t3", "t1 and t2", "one of (t3, t3)"):
            self.refuse(database, Contradiction, lambda: self.learn(database, text))

    def test_too_many_names(self):
        database = self.database("t1 " + ADA, "t2 " + BOB)
        self.refuse(database, TooManyUndecided, lambda: self.learn(database, "a or b or c or d or e"), count=7)
        self.refuse(database, TooManyUndecided,
                    lambda: self.learn(database, "a and b and c and d and e and f"), count=8)
        self.refuse(database, TooManyUndecided,
                    lambda: self.learn(database, "false and one of (a, b, c, d, e)"), count=7)
        self.learn(database, "a or b or c or d and t1")
        self.assertEqual(len(database.known[1]), 6)

    def test_decided_names(self):
        database = self.database("t3 " + EVE, "t1 " + ADA, "t2 " + CLEO)
        self.assertEqual(self.learn(database, "t2 implies t1"), ((), ()))
        self.assertEqual(self.learn(database, "t2 and not t3")[0], (("t1", True), ("t2", True), ("t3", False)))
        self.assertEqual(database.known, ((("t1", True), ("t2", True), ("t3", False)), (), ((),)))

    def test_names_that_are_decided_at_once(self):
        database = self.database("t1 " + ADA)
        self.assertEqual(self.learn(database, "x and not y"), ((("x", True), ("y", False)), ()))
        self.assertEqual(database.known, ((("x", True), ("y", False)), ("t1",), (("t1",), ())))

    def test_settled_versions(self):
        database = self.database(
            "t1 " + ADA, "execute " + BOB, "t2 " + CLEO, "execute return seat | where number = 1;",
            "execute require seat | where number = 2;")
        self.assertEqual(self.learn(database, "t1 or not t1"), ((), ()))
        self.assertEqual(self.learn(database, "not t2"), ((("t2", False),), (5,)))
        self.assertEqual(self.learn(database, "t1"), ((("t1", True),), (2, 4)))
        self.assertEqual(self.learn(database, "t1"), ((), ()))

    def test_versions_are_settled_before_their_transactions_are_decided(self):
        database = self.database("t1 " + ADA, "t2 " + BOB)
        self.assertEqual(self.learn(database, "t1 or t2")[1], ())
        database = self.database("t1 " + ADA, "t2 " + BOB, "execute require seat;")
        self.assertEqual(self.learn(database, "t1 or t2"), ((), (3,)))

    def test_as_knowledge_learns(self):
        known = nothing_known()
        database = self.database()
        for text in ("a implies b", "b or c", "one of (a, b, c)", "not c"):
            known = learn(known, read_fact(text))
            self.learn(database, text)
            self.assertEqual(database.known, known)


class Querying(EngineCase):
    def test_conditional_answers(self):
        database = self.database("t1 " + ADA, "t2 " + BOB, "execute " + CLEO)
        self.assertEqual(database.query(read_query("seat")), (("number", "guest"), (
            ((1, "ada"), T1), ((1, "bob"), T2), ((2, "cleo"), ALWAYS))))
        self.assertEqual(database.query(read_query("seat | group: n = count")), (("n",), (
            ((1,), ((("t1", False), ("t2", False)),)), ((2,), ((("t1", True),), (("t2", True),))))))
        self.assertEqual(database.query(read_query("seat | where number = 5")), (("number", "guest"), ()))

    def test_versions(self):
        database = self.database("t1 " + ADA, "execute " + CLEO)
        self.assertEqual(database.query(read_query("seat"), version=0), (("number", "guest"), ()))
        self.assertEqual(database.query(read_query("seat"), version=1)[1], (((1, "ada"), T1),))
        self.assertEqual(database.query(read_query("seat"), version=2)[1], (((1, "ada"), T1), ((2, "cleo"), ALWAYS)))
        self.assertEqual(database.query(read_query("seat"), version=None), database.query(read_query("seat")))
        self.assertEqual(database.query(read_query("seat"), version=2), database.query(read_query("seat")))

    def test_unknown_versions(self):
        database = self.database("t1 " + ADA, "learn t2 or t3", "execute " + CLEO)
        for number in (-1, 3, 100, -2):
            self.refuse(database, UnknownVersion, lambda: database.query(read_query("seat"), version=number),
                        number=number)
            self.refuse(database, UnknownTable, lambda: database.query(read_query("chair"), version=number),
                        name="chair")
            self.refuse(database, UnknownVersion, lambda: database.report(number), number=number)
            self.refuse(database, UnknownVersion, lambda: database.tables_at(number, ()), number=number)
            self.refuse(database, UnknownVersion, lambda: database.tables_at(number, ("x",)), number=number)
        self.refuse(database, UnknownVersion, lambda: database.report(0), number=0)

    def test_a_database_without_entries(self):
        database = self.database()
        self.assertEqual(database.query(read_query("seat"), version=0), (("number", "guest"), ()))
        self.refuse(database, UnknownVersion, lambda: database.query(read_query("seat"), version=1), number=1)
        self.refuse(database, UnknownVersion, lambda: database.report(0), number=0)
        self.refuse(database, UnknownVersion, lambda: database.report(1), number=1)

    def test_the_checks_of_queries(self):
        database = self.database("t1 " + ADA)
        self.refuse(database, UnknownColumn, lambda: database.query(read_query("seat | where a = 1")), name="a")
        self.refuse(database, ColumnsDiffer, lambda: database.query(read_query("seat | union (seat | select number)")))

    def test_views(self):
        schema = read_schema(
            "table seat (number integer, guest string) key number limit 9; view low = seat | where number < 2;"
            "view guests = low | select guest;")
        database = Database(schema)
        database.prepare("t1", read_script(ADA + CLEO))
        self.assertEqual(database.query(read_query("guests")), (("guest",), ((("ada",), T1),)))

    def test_tables_for_possible_outcomes(self):
        database = self.database("t1 " + ADA, "t2 " + BOB)
        self.assertEqual(database.tables_at(2, ("t2",)), {"seat": ((1, "bob"),)})
        self.assertEqual(database.tables_at(1, ("t2",)), {"seat": ()})
        self.assertEqual(database.tables_at(0, ("t1",)), {"seat": ()})

    def test_outcomes_that_are_not_possible(self):
        database = self.database("t1 " + ADA, "t2 " + BOB)
        for outcome in (("t1", "t2"), ("t2", "t1"), ("t3",), ("t1", "t1")):
            for version in (0, 1, 2):
                self.refuse(database, UnknownOutcome, lambda: database.tables_at(version, outcome), outcome=outcome)
            self.refuse(database, UnknownVersion, lambda: database.tables_at(3, outcome), number=3)
        database.learn(read_fact("t1"))
        for outcome in (("t1",), ("t2",)):
            self.refuse(database, UnknownOutcome, lambda: database.tables_at(0, outcome), outcome=outcome)
        self.assertEqual(database.tables_at(2, ()), {"seat": ((1, "ada"),)})

    def test_previews(self):
        database = self.database("t1 " + ADA)
        before = self.state(database)
        self.assertEqual(database.preview(read_script(BOB)), ((FAILED, T1), (DONE, NO_T1)))
        self.assertEqual(database.preview(read_script(CLEO)), ((DONE, ALWAYS),))
        answers = tuple([("done", ((("guest",), rows),)) for rows in ((("ada",),), ())])
        self.assertEqual(database.preview(read_script("return seat | select guest;")), (
            (answers[0], T1), (answers[1], NO_T1)))
        self.assertEqual(self.state(database), before)

    def test_the_order_of_results_is_that_of_the_outcomes(self):
        database = self.database("t1 " + ADA, "t2 " + CLEO, "learn not (t1 and t2)")
        results = [result for result, _ in database.preview(read_script("require seat | where number = 2;"))]
        self.assertEqual(results, [("failed", ("statement", 1, "required rows are missing")), DONE])
        results = [result for result, _ in database.preview(read_script("require seat | where number = 1;"))]
        self.assertEqual(results, [DONE, ("failed", ("statement", 1, "required rows are missing"))])

    def test_dicts_that_are_returned_can_be_changed(self):
        database = self.database("t1 " + ADA)
        before = self.state(database)
        database.tables_at(1, ())["seat"] = ()
        database.report(1)["vote"] = ()
        database.snapshot()[2][0].clear()
        self.assertEqual(self.state(database), before)


class Reports(EngineCase):
    def test_the_keys_in_their_order(self):
        database = self.database("execute " + ADA, "t1 " + CLEO)
        self.assertEqual(list(database.report(1).items()), [
            ("version", 1), ("name", None), ("script", read_script(ADA)), ("vote", ALWAYS), ("effect", ALWAYS),
            ("results", ((DONE, ALWAYS),))])
        self.assertEqual(list(database.report(2).items()), [
            ("version", 2), ("name", "t1"), ("script", read_script(CLEO)), ("vote", ALWAYS), ("effect", T1),
            ("results", ((DONE, ALWAYS),))])

    def test_the_vote_is_that_of_before(self):
        database = self.database("t1 " + ADA, "execute " + BOB, "t2 " + ADA)
        self.assertEqual(database.report(2)["vote"], NO_T1)
        self.assertEqual(database.report(3)["vote"], T1)
        self.assertEqual(database.report(2)["results"], ((FAILED, T1), (DONE, NO_T1)))
        database.learn(read_fact("t1 or t5"))
        self.assertEqual(database.report(2)["effect"], NO_T1)
        database.learn(read_fact("not t1"))
        self.assertEqual(database.report(2)["vote"], NO_T1)
        self.assertEqual(database.report(2)["effect"], ALWAYS)
        self.assertEqual(database.report(2)["results"], ((DONE, ALWAYS),))
        self.assertEqual(database.report(1)["effect"], NEVER)

    def test_the_vote_is_determined_before_the_name_is_mentioned(self):
        # Where t1 commits, t2 commits as well; so the vote of t2 could be said with t1, if t1 had been known.
        database = self.database("t2 " + ADA)
        vote = database.prepare("t1", read_script("require seat;"))
        self.assertEqual(vote, T2)
        self.assertEqual(database.report(2)["vote"], T2)
        self.assertEqual(database.report(2)["effect"], T1)
        # Here it is known, and comes first.
        database = self.database("learn t1 implies t2", "t2 " + ADA)
        self.assertEqual(database.prepare("t1", read_script("require seat;")), T2)
        database = self.database("learn (t1 implies t2) and (t2 implies t1)", "t2 " + ADA)
        self.assertEqual(database.prepare("t1", read_script("require seat;")), T1)

    def test_the_effect_of_a_prepared_script(self):
        database = self.database("t1 " + ADA, "t2 " + BOB, "execute delete seat where number = 2;")
        self.assertEqual([database.report(version)["effect"] for version in (1, 2, 3)], [T1, T2, ALWAYS])
        self.assertEqual(database.report(2)["results"], ((FAILED, T1), (DONE, NO_T1)))
        database.learn(read_fact("t2"))
        self.assertEqual([database.report(version)["effect"] for version in (1, 2, 3)], [NEVER, ALWAYS, ALWAYS])
        self.assertEqual(database.report(2)["results"], ((DONE, ALWAYS),))

    def test_the_effect_of_an_executed_script(self):
        database = self.database("t1 " + ADA, "execute " + BOB, "execute require seat | where number = 4;")
        self.assertEqual(database.report(2)["effect"], NO_T1)
        self.assertEqual(database.report(3)["effect"], NEVER)
        self.assertEqual(database.report(3)["vote"], NEVER)

    def test_facts_have_no_reports(self):
        database = self.database("learn t1 or t2", "execute " + ADA)
        self.assertEqual(database.version, 1)
        self.assertEqual(database.report(1)["script"], read_script(ADA))
        self.refuse(database, UnknownVersion, lambda: database.report(2), number=2)


class Snapshots(EngineCase):
    def test_prepared_and_mentioned_names(self):
        database = self.database("execute " + EVE)
        database.prepare("t2", read_script(ADA), cost=5)
        database.learn(read_fact("t2 implies t1"))
        both, seat = {"seat": ((1, "ada"), (3, "eve"))}, {"seat": ((3, "eve"),)}
        self.assertEqual(database.snapshot(), (
            (("t1", 1, False), ("t2", 5, True)), (("t1", "t2"), ("t1",), ()), (both, seat, seat)))

    def test_a_database_that_begins_with_a_snapshot(self):
        database = self.database("t2 " + ADA, "t1 " + BOB, "t3 " + CLEO, "learn t3 and (t5 or t1)")
        later = Database(SEATS, beginning=database.snapshot())
        self.assertEqual((later.version, len(later), tuple(later)), (0, 0, ()))
        self.assertEqual(later.beginning, database.snapshot())
        self.assertEqual(later.snapshot(), database.snapshot())
        self.assertEqual(later.pending, database.pending)
        self.assertEqual(later.known, ((),) + database.known[1:])
        for text in ("seat", "seat | where number = 1", "seat | group: n = count"):
            self.assertEqual(later.query(read_query(text)), database.query(read_query(text)))
        self.assertEqual(later.preview(read_script(BOB)), database.preview(read_script(BOB)))
        self.assertEqual(later.inquire(read_script(BOB)), database.inquire(read_script(BOB)))

    def test_a_name_that_is_used_again_after_a_snapshot(self):
        database = self.database("t1 " + ADA, "learn not t1", "learn t2")
        later = Database(SEATS, beginning=database.snapshot())
        self.assertEqual(later.known, ((), (), ((),)))
        self.assertEqual(later.prepare("t1", read_script(BOB), cost=3), ALWAYS)
        self.assertEqual(later.prepare("t2", read_script(CLEO)), ALWAYS)
        self.assertEqual(later.pending, (("t1", 3, True), ("t2", 1, True)))
        self.assertEqual(later.learn(read_fact("t1 and not t2"))[0], (("t1", True), ("t2", False)))

    def test_a_mentioned_name_that_is_prepared_after_a_snapshot(self):
        database = self.database("t1 " + ADA, "learn t1 or t2")
        later = Database(SEATS, beginning=database.snapshot())
        self.assertEqual(later.prepare("t2", read_script(BOB), cost=9), NO_T1)
        self.assertEqual(later.pending, (("t1", 1, True), ("t2", 9, True)))
        self.assertEqual(later.known[2], (("t1",), ("t2",)))

    def test_costs_are_kept(self):
        database = self.database()
        database.prepare("t1", read_script(ADA), cost=44)
        later = Database(SEATS, beginning=database.snapshot())
        self.assertEqual(later.pending, (("t1", 44, True),))
        self.assertEqual(later.inquire(read_script(BOB))[0], 44)


class Inquiring(EngineCase):
    def test_the_example_of_the_document(self):
        database = self.database()
        for name, text, cost in (("t1", ADA, 5), ("t2", BOB, 2), ("t3", CLEO, 4)):
            database.prepare(name, read_script(text), cost=cost)
        exist = ("failed", ("statement", 1, "forbidden rows exist"))
        before = self.state(database)
        self.assertEqual(database.inquire(read_script("forbid seat | where number = 1;")), (
            7, ("ask", "t1", ("result", 0), ("ask", "t2", ("result", 0), ("result", 1))), (exist, DONE)))
        self.assertEqual(database.inquire(read_script("forbid seat | where number = 2;")), (
            4, ("ask", "t3", ("result", 0), ("result", 1)), (exist, DONE)))
        self.assertEqual(database.inquire(read_script("forbid seat | where number = 3;")), (0, ("result", 0), (DONE,)))
        self.assertEqual(self.state(database), before)

    def test_names_that_only_facts_have_named_cost_one(self):
        database = self.database()
        database.prepare("t1", read_script(ADA), cost=5)
        database.learn(read_fact("(t1 implies t2) and (t2 implies t1)"))
        self.assertEqual(database.inquire(read_script(BOB)), (
            1, ("ask", "t2", ("result", 0), ("result", 1)), (FAILED, DONE)))


class Iterating(EngineCase):
    def test_entries_and_their_number(self):
        database = self.database("execute " + ADA, "learn t1 or t2", "t1 " + CLEO)
        entries = [("execute", read_script(ADA)), ("learn", read_fact("t1 or t2")),
                   ("prepare", "t1", 1, read_script(CLEO))]
        self.assertEqual(list(database), entries)
        self.assertEqual([entry for entry in database], entries)
        self.assertEqual(len(database), 3)
        self.assertEqual(database.version, 2)
        self.assertEqual(list(self.database()), [])
        self.assertEqual(len(self.database()), 0)


if __name__ == "__main__":
    unittest.main()

import random
import unittest

from indoubt.engine import Database
from indoubt.errors import BeginningIncomplete, IndoubtError, InvalidBeginning, InvalidLine
from indoubt.logs import log_text, recover, snapshot_text
from indoubt.reader import read_fact, read_schema, read_script
from random_entries import SCHEMA, add_what_is_accepted, random_entries

SEATS = read_schema("table seat (number integer, guest string) key number limit 50;")
# The two texts of the document.
LOG = """\
schema table seat (number integer, guest string) key number limit 50;
possible
begin
execute insert seat (1, 'eve');
prepare t1 5 insert seat (2, 'ada');
learn t1 implies t2
"""
SNAPSHOT = """\
schema table seat (number integer, guest string) key number limit 50;
undecided t1 5 prepared
undecided t2 1 mentioned
possible t1 t2
possible t2
possible
row seat (1, 'eve') when true
row seat (2, 'ada') when t1
begin
"""
# A log with every kind of line, and with names that consist of the words that are not reserved.
WORDS = """\
schema table row (when integer, begin string) key when limit 3 check when > 0; table possible (learn string) key \
learn limit 2; view undecided = row | where when = 1; deny schema = undecided | where begin = 'x when y';
undecided begin 7 prepared
undecided execute 1 mentioned
undecided when 1000 prepared
possible begin execute when
possible begin execute
possible execute
possible when
row row (1, '') when begin and when
row row (1, ') when t1') when begin and not when
row row (2, 'it''s') when true
row possible (' when ') when not execute
begin
execute insert row (3, 'begin');
prepare prepare 1000 insert possible ('x'); return row | where when = 3;
learn one of (learn, mentioned)
learn execute implies when or begin
prepare mentioned 2 delete row where when = 3; require undecided;
execute return possible; forbid row | where begin = '';
learn not prepare
"""


def state(database):
    """Everything that can be seen of the database."""
    reports = [database.report(version) for version in range(1, database.version + 1)]
    tables = [
        database.tables_at(version, outcome)
        for version in range(database.version + 1) for outcome in database.known[2]]
    return (database.schema, database.beginning, tuple(database), database.known, database.pending, reports, tables)


class LogCase(unittest.TestCase):
    def refuse(self, text, error, number=None):
        with self.assertRaises(IndoubtError) as caught:
            recover(text)
        self.assertIs(type(caught.exception), error, text)
        if number is not None:
            self.assertEqual(caught.exception.number, number)


class Printing(unittest.TestCase):
    def test_the_example_of_the_document(self):
        database = Database(SEATS)
        database.execute(read_script("insert seat (1, 'eve');"))
        database.prepare("t1", read_script("insert seat (2, 'ada');"), cost=5)
        database.learn(read_fact("t1 implies t2"))
        self.assertEqual(log_text(database), LOG)
        self.assertEqual(snapshot_text(database), SNAPSHOT)

    def test_a_new_database(self):
        expected = "schema table seat (number integer, guest string) key number limit 50;\npossible\nbegin\n"
        self.assertEqual(log_text(Database(SEATS)), expected)
        self.assertEqual(snapshot_text(Database(SEATS)), expected)

    def test_a_beginning(self):
        database = Database(SEATS)
        database.prepare("t1", read_script("insert seat (2, 'ada'), (1, 'eve');"), cost=5)
        database.learn(read_fact("t1 implies t2"))
        database.prepare("t3", read_script("insert seat (2, 'bob');"), cost=1000)
        later = Database(SEATS, beginning=database.snapshot())
        expected = (
            "schema table seat (number integer, guest string) key number limit 50;\n"
            "undecided t1 5 prepared\nundecided t2 1 mentioned\nundecided t3 1000 prepared\n"
            "possible t1 t2\npossible t2 t3\npossible t2\npossible t3\npossible\n"
            "row seat (1, 'eve') when t1\nrow seat (2, 'ada') when t1\nrow seat (2, 'bob') when t3\nbegin\n")
        self.assertEqual(snapshot_text(database), expected)
        self.assertEqual(log_text(later), expected)
        later.learn(read_fact("t1"))
        self.assertEqual(log_text(later), expected + "learn t1\n")

    def test_conditions_of_rows(self):
        database = Database(SEATS)
        database.prepare("t1", read_script("insert seat (1, 'a');"))
        database.prepare("t2", read_script("insert seat (1, 'a');"))
        database.prepare("t3", read_script("insert seat (2, 'b''c'); require seat | where number = 1;"))
        lines = snapshot_text(database).split("\n")
        self.assertEqual([line for line in lines if line.startswith("row")], [
            "row seat (1, 'a') when t1 or t2", "row seat (2, 'b''c') when t3"])
        database.execute(read_script("delete seat where number = 1; forbid seat;"))
        database.learn(read_fact("t1 or not t2"))
        lines = snapshot_text(database).split("\n")
        self.assertEqual([line for line in lines if line.startswith("row")], [
            "row seat (1, 'a') when t3", "row seat (2, 'b''c') when t3"])


class Recovering(LogCase):
    def check(self, text):
        database = recover(text)
        self.assertIsInstance(database, Database)
        self.assertEqual(log_text(database), text)
        return database

    def test_the_examples_of_the_document(self):
        database = self.check(LOG)
        self.assertEqual(tuple(database), (
            ("execute", read_script("insert seat (1, 'eve');")),
            ("prepare", "t1", 5, read_script("insert seat (2, 'ada');")), ("learn", read_fact("t1 implies t2"))))
        self.assertEqual(snapshot_text(database), SNAPSHOT)
        self.assertEqual(self.check(SNAPSHOT).beginning, database.snapshot())
        self.assertEqual(len(recover(LOG[:-1])), 2)
        self.refuse(LOG.replace("learn ", "learn  "), InvalidLine, 6)

    def test_names_that_consist_of_words(self):
        database = self.check(WORDS)
        self.assertEqual(database.beginning[0], (
            ("begin", 7, True), ("execute", 1, False), ("when", 1000, True)))
        self.assertEqual(database.beginning[1], (
            ("begin", "execute", "when"), ("begin", "execute"), ("execute",), ("when",)))
        self.assertEqual(database.beginning[2][1], {"row": ((1, ") when t1"), (2, "it's")), "possible": ()})
        self.assertEqual(database.beginning[2][3], {"row": ((2, "it's"),), "possible": ((" when ",),)})
        self.assertEqual([entry[0] for entry in database], [
            "execute", "prepare", "learn", "learn", "prepare", "execute", "learn"])

    def test_a_log_that_is_cut_off_at_every_character(self):
        for text in (LOG, SNAPSHOT, WORDS):
            whole = recover(text)
            first_lines = text[:text.index("\nbegin\n") + 7]
            entries = len(first_lines.split("\n")) - 1
            for end in range(len(text) + 1):
                cut = text[:end]
                if end < len(first_lines):
                    self.refuse(cut, BeginningIncomplete)
                else:
                    complete = cut[:cut.rindex("\n") + 1]
                    database = recover(cut)
                    self.assertEqual(log_text(database), complete)
                    self.assertEqual(database.beginning, whole.beginning)
                    self.assertEqual(tuple(database), tuple(whole)[:len(complete.split("\n")) - 1 - entries])

    def test_what_follows_the_last_line_feed_is_ignored(self):
        for rest in ("nonsense", "begin", "learn  t1", " ", "execute return chair;"):
            self.assertEqual(log_text(recover(LOG + rest)), LOG)

    def test_long_lines(self):
        database = Database(read_schema("table t (a integer, b string) key a limit 60;"))
        rows = ", ".join([f"({number}, '{'x' * 20}')" for number in range(60)])
        database.execute(read_script(f"insert t {rows};"))
        script = tuple([("insert", "t", tuple([(number, "y" * 20) for number in range(start, start + 9)]))
                        for start in range(100000, 100120, 10)])
        database.execute(script)
        text = log_text(database)
        self.assertGreater(max([len(line) for line in text.split("\n")]), 2000)
        self.assertEqual(state(self.check(text)), state(database))
        self.assertEqual(state(self.check(snapshot_text(database)))[1], database.snapshot())

    def test_random_databases(self):
        rng = random.Random(60)
        for _ in range(80):
            database = Database(SCHEMA)
            for entry in random_entries(rng, 7, ("a", "b", "c")):
                add_what_is_accepted(database, (entry,))
                self.assertEqual(state(recover(log_text(database))), state(database))
                self.assertEqual(recover(snapshot_text(database)).beginning, database.snapshot())


class WithoutBeginning(LogCase):
    def test_texts_without_a_line_begin(self):
        for text in ("", "\n", "begin", " begin\n", "begin \n", "Begin\n", "nonsense\n", "schema begin\n",
                     LOG[:LOG.index("begin")], LOG.replace("begin\n", ""), LOG.replace("begin", "beginning")):
            self.refuse(text, BeginningIncomplete)

    def test_a_text_without_a_line_feed(self):
        self.refuse(LOG.replace("\n", " "), BeginningIncomplete)
        self.refuse("begin", BeginningIncomplete)

    def test_other_faults_come_later(self):
        self.refuse("schema nonsense\nundecided\n", BeginningIncomplete)


class WrongBeginnings(LogCase):
    def refuse_change(self, old, new, text=SNAPSHOT):
        """Refuses the text in which something stands in place of something else."""
        self.assertIn(old, text)
        self.refuse(text.replace(old, new, 1), InvalidBeginning)

    def test_nothing_but_begin(self):
        self.refuse("begin\n", InvalidBeginning)
        self.refuse("\nbegin\n", InvalidBeginning)
        self.refuse("begin\nbegin\n", InvalidBeginning)

    def test_faults_in_later_lines_come_later(self):
        self.refuse("begin\nnonsense\n", InvalidBeginning)
        self.refuse_change("possible t1 t2\n", "", SNAPSHOT + "nonsense\n")

    def test_the_schema(self):
        self.refuse_change("schema ", "schema  ")
        self.refuse_change("schema ", "Schema ")
        self.refuse_change("schema ", "")
        self.refuse_change("table seat", "tabel seat")
        self.refuse_change("limit 50", "limit 050")
        self.refuse_change("limit 50", "limit 61")
        self.refuse_change("50;", "50 ;")
        self.refuse_change("50;", "50; ")
        self.refuse_change("50;", "50")
        self.refuse_change("(number", "( number")
        self.refuse_change("key number", "key price")
        self.refuse_change("key number", "key number, number")
        self.refuse_change("guest string", "number string")
        self.refuse_change("50;", "50; view seat = seat;")
        self.refuse_change("50;", "50 check (number > 0);")
        self.refuse_change("50;", "50; deny d = seat | where number = 'x';")

    def test_two_schemas_or_none(self):
        line = SNAPSHOT.split("\n")[0] + "\n"
        self.refuse_change(line, "")
        self.refuse_change(line, line + line)
        self.refuse_change("begin\n", line + "begin\n")

    def test_undecided(self):
        for new in ("undecided t1 5", "undecided t1 5 prepared ", "undecided  t1 5 prepared",
                    "undecided t1 05 prepared", "undecided t1 5 prepared x", "undecided t1 5  prepared",
                    "undecided t1 5 Prepared", "undecided t1 5 mentioned", "undecided t1 five prepared",
                    "undecided t1 -5 prepared", "undecided t1 +5 prepared", "undecided t1 5_0 prepared",
                    "undecided t1 0 prepared",
                    "undecided t1 1001 prepared", "undecided t1 1000000 prepared", "undecided t1  prepared",
                    "undecided t1 " + "9" * 5000 + " prepared", "undecided t1 " + "0" * 5000 + "5 prepared",
                    "undecided T1 5 prepared", "undecided 1 5 prepared", "undecided table 5 prepared",
                    "undecided a_very_long_name1 5 prepared", "undecided t2 5 prepared", "undecided t3 5 prepared",
                    "undecided  5 prepared", "undecided", "undecided ", "", "mentioned t1 5 prepared"):
            self.refuse_change("undecided t1 5 prepared", new)
        self.refuse_change("undecided t1 5 prepared\n", "")
        self.refuse_change("undecided t1 5 prepared\n", "undecided t1 5 prepared\n" * 2)
        self.refuse_change("undecided t2 1 mentioned\n", "undecided t2 1 mentioned\nundecided t3 1 mentioned\n")
        self.refuse_change("undecided t2 1 mentioned", "undecided t2 1 forgotten")

    def test_undecided_words_that_are_no_names(self):
        text = LOG.replace("possible\n", "undecided {0} 1 mentioned\npossible {0}\npossible\n")
        for name in ("t9", "row", "x" * 16):
            recover(text.format(name))
        for name in ("T9", "9", "table", "of", "x" * 17, "t-9", "_t", "'t'", "t9,"):
            self.refuse(text.format(name), InvalidBeginning)

    def test_seven_undecided_names(self):
        names = "abcdefg"
        lines = "".join([f"undecided {name} 1 mentioned\n" for name in names])
        text = LOG.replace("possible\n", f"{lines}possible {' '.join(names)}\npossible\n")
        self.refuse(text, InvalidBeginning)

    def test_possible(self):
        for new in ("possible t1  t2", "possible t1 t2 ", "possible  t1 t2", "possible t2 t1", "possible t1 t1 t2",
                    "possible t1 t2 t3", "possible", "Possible t1 t2", "possible: t1 t2", "t1 t2"):
            self.refuse_change("possible t1 t2", new)
        self.refuse_change("possible\n", "possible \n")
        self.refuse_change("possible t1 t2\n", "")
        self.refuse_change("possible t1 t2\npossible t2\n", "possible t2\npossible t1 t2\n")
        self.refuse_change("possible t2\n", "possible t2\npossible t2\n")
        self.refuse_change("possible\n", "", LOG)
        self.refuse_change("possible\n", "possible\npossible\n", LOG)
        self.refuse_change("possible\n", "possible t1\n", LOG)

    def test_rows(self):
        for new in ("row seat (2, 'ada') when  t1", "row seat (2, 'ada') when t1 ", "row  seat (2, 'ada') when t1",
                    "row seat(2, 'ada') when t1", "row seat (2,'ada') when t1", "row seat (2, 'ada')  when t1",
                    "row seat (02, 'ada') when t1", "row seat (2, 'ada') if t1", "row seat (2, 'ada') t1",
                    "row seat (2, 'ada')", "row seat (2, 'ada') when", "row seat (2, 'ada') when (t1)",
                    "row seat (2, 'ada') when t1 and true", "row seat (2, 'ada') when not not t1",
                    "row seat (2, 'ada') when t1 and t2", "row seat (2, 'ada') when false",
                    "row seat (2, 'ada') when t3", "row seat (2, 'ada') when t1 t2", "row chair (2, 'ada') when t1",
                    "row seat (2, 'ada', 3) when t1", "row seat (2) when t1", "row seat ('ada', 2) when t1",
                    "row seat () when t1", "row (2, 'ada') when t1", "seat (2, 'ada') when t1", "row seat",
                    "row seat (1, 'ada') when t1", "row seat (0, 'ada') when t1", "row seat (1000001, 'ada') when t1",
                    "row seat (-0, 'ada') when t1", "row seat (2, 'ada when t1", "row"):
            self.refuse_change("row seat (2, 'ada') when t1", new)

    def test_rows_that_stand_twice(self):
        line = "row seat (2, 'ada') when t1\n"
        self.refuse_change(line, line + line)
        self.refuse_change(line, "row seat (2, 'ada') when t1\nrow seat (2, 'ada') when not t1\n")

    def test_constraints(self):
        text = SNAPSHOT.replace("limit 50", "limit 50 check number < 2")
        self.refuse(text, InvalidBeginning)
        self.refuse(SNAPSHOT.replace("limit 50", "limit 1"), InvalidBeginning)
        self.refuse(SNAPSHOT.replace("50;", "50; deny d = seat | where guest = 'ada';"), InvalidBeginning)
        self.refuse(SNAPSHOT.replace("50;", "50; table u (a integer) key a limit 1;").replace("begin\n", (
            "row u (1) when t2\nrow u (2) when t1\nbegin\n")), InvalidBeginning)

    def test_lines_in_another_order(self):
        lines = SNAPSHOT.split("\n")[:-1]
        recover("\n".join(lines) + "\n")
        for place in range(len(lines) - 2):
            changed = list(lines)
            changed[place], changed[place + 1] = changed[place + 1], changed[place]
            self.refuse("\n".join(changed) + "\n", InvalidBeginning)

    def test_rows_of_tables_in_another_order(self):
        one, two = "row row (2, 'it''s') when true\n", "row possible (' when ') when not execute\n"
        self.refuse_change(one + two, two + one, WORDS)

    def test_entries_and_empty_lines_before_begin(self):
        for line in ("execute insert seat (1, 'eve');\n", "learn t1\n", "\n", " \n", "when\n",
                     "prepare t1 5 insert seat (2, 'ada');\n"):
            self.refuse_change("begin\n", line + "begin\n", LOG)


class WrongLines(LogCase):
    def refuse_lines(self, *lines, before=LOG):
        """Refuses each of the lines behind others that are right."""
        number = len(before.split("\n"))
        for line in lines:
            self.refuse(f"{before}{line}\n", InvalidLine, number)
            self.refuse(f"{before}{line}\nlearn t1\nnonsense", InvalidLine, number)

    def test_lines_that_are_no_entries(self):
        self.refuse_lines("", " ", "nonsense", "begin", "possible", "execute", "execute ", "learn", "learn ", "prepare",
                          "Learn t1", " learn t1", "schema table t (a integer) key a limit 1;",
                          "undecided t3 1 mentioned",
                          "row seat (9, 'eve') when true", "insert seat (9, 'eve');")

    def test_a_second_line_begin(self):
        self.refuse(LOG.replace("begin\n", "begin\nbegin\n"), InvalidLine, 4)
        self.refuse(LOG + "begin\n", InvalidLine, 7)

    def test_execute(self):
        right = "execute insert seat (9, 'eve');"
        self.assertEqual(len(recover(LOG + right + "\n")), 4)
        self.refuse_lines("execute  insert seat (9, 'eve');", "execute insert seat (9,'eve');", right + " ",
                          "execute insert seat (9, 'eve')", "execute insert seat (09, 'eve');",
                          "execute insert seat (-0, 'eve');", "execute insert seat(9, 'eve');",
                          "execute insert chair (9, 'eve');", "execute insert seat (9);", "execute insert seat (9, 8);",
                          "execute return seat | where price = 1;", "execute return seat | select n = number + guest;",
                          "execute return (seat);", "execute return seat | select number = number;",
                          "execute insert seat (1000001, 'eve');", "execute return seat | where number = #;",
                          "execute t1 5 insert seat (9, 'eve');")

    def test_execute_scripts_that_fail(self):
        text = LOG + "execute insert seat (1, 'bob');\n"
        self.assertEqual(recover(text).report(3)["vote"], ())
        self.assertEqual(log_text(recover(text)), text)

    def test_prepare(self):
        right = "prepare t9 5 insert seat (9, 'eve');"
        self.assertEqual(len(recover(LOG + right + "\n")), 4)
        self.assertEqual(len(recover(LOG + "prepare t2 1000 insert seat (9, 'eve');\n")), 4)
        self.refuse_lines("prepare t9 5  insert seat (9, 'eve');", "prepare t9  5 insert seat (9, 'eve');",
                          "prepare  t9 5 insert seat (9, 'eve');", "prepare t9 05 insert seat (9, 'eve');",
                          "prepare t9 0 insert seat (9, 'eve');", "prepare t9 1001 insert seat (9, 'eve');",
                          "prepare t9 -5 insert seat (9, 'eve');", "prepare t9 +5 insert seat (9, 'eve');",
                          "prepare t9 5_0 insert seat (9, 'eve');", "prepare t9 insert seat (9, 'eve');",
                          "prepare t9 " + "9" * 5000 + " insert seat (9, 'eve');", "prepare 5 insert seat (9, 'eve');",
                          "prepare t9 5", "prepare t9 5 ", "prepare t9", "prepare T9 5 insert seat (9, 'eve');",
                          "prepare table 5 insert seat (9, 'eve');", "prepare t9, 5 insert seat (9, 'eve');",
                          "prepare a_very_long_name1 5 insert seat (9, 'eve');", right + " ",
                          "prepare t9 5 insert chair (9, 'eve');", "prepare t9 5 insert seat (9, 'eve')")

    def test_prepare_names_that_cannot_be_prepared(self):
        self.refuse_lines("prepare t1 5 insert seat (9, 'eve');")
        self.refuse_lines("prepare t3 5 insert seat (9, 'eve');", before=LOG + "learn t3\n")
        self.refuse_lines("prepare t9 5 insert seat (9, 'eve');", before=LOG + "learn one of (t3, t4, t5, t6)\n")
        self.refuse_lines("prepare t1 5 insert seat (9, 'eve');", before=SNAPSHOT)
        self.assertEqual(len(recover(SNAPSHOT + "prepare t2 5 insert seat (9, 'eve');\n")), 1)

    def test_learn(self):
        right = "learn t1 and (t2 or not t3)"
        self.assertEqual(len(recover(LOG + right + "\n")), 4)
        self.refuse_lines("learn  t1", "learn t1 ", "learn (t1)", "learn t1 and", "learn table", "learn T1",
                          "learn not not (t1)", "learn t1 and t2 or (t3 and t4)", "learn t1;", "learn one of ()",
                          "learn one of(t1)", "learn 1", "learn " + "not " * 21 + "t1")

    def test_learn_facts_that_cannot_be_learned(self):
        self.refuse_lines("learn false", "learn t1 and not t2", "learn one of (t1, t1)")
        self.refuse_lines("learn one of (a, b, c, d, e)", "learn a or b or c or d or e or t1")

    def test_the_first_wrong_line_counts(self):
        self.refuse(LOG + "learn t9\nlearn  t8\nnonsense\n", InvalidLine, 8)
        self.refuse(LOG.replace("execute insert", "execute  insert").replace("learn ", "learn  "), InvalidLine, 4)
        self.refuse(SNAPSHOT + "learn t1\nlearn not t2\nlearn  t2\n", InvalidLine, 11)

    def test_entries_in_another_order(self):
        lines = LOG.split("\n")[:-1]
        for entries in ((5, 4, 3), (4, 3, 5), (5, 3, 4)):
            text = "\n".join(lines[:3] + [lines[place] for place in entries]) + "\n"
            self.assertEqual(log_text(recover(text)), text)
        self.refuse(LOG.replace("learn", "learn not t1\nlearn t1\nlearn"), InvalidLine, 7)
        self.refuse("\n".join(lines[:3] + ["learn not t1"] + lines[3:]) + "\n", InvalidLine, 6)


if __name__ == "__main__":
    unittest.main()

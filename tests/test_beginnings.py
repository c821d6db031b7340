import unittest

from indoubt.engine import Database
from indoubt.errors import DuplicateName, IndoubtError, InvalidBeginning, UnknownTable
from indoubt.reader import read_query, read_schema, read_script
from slow_search import all_outcomes

SCHEMA = read_schema("""
table seat (number integer, guest string) key number limit 3 check number > 0;
table pair (x integer, y integer) key x, y limit 2 reference x to seat;
view taken = seat | where guest != '';
deny two = taken | where number = 2;
""")
EMPTY = {"seat": (), "pair": ()}
ONE = {"seat": ((1, "ada"),), "pair": ()}
TWO = {"seat": ((1, "ada"), (3, "bob")), "pair": ((1, 5), (3, 1))}
PENDING = (("t1", 5, True), ("t2", 1, False))
POSSIBLE = (("t1", "t2"), ("t2",), ())
TABLES = (ONE, TWO, EMPTY)


class Valid(unittest.TestCase):
    def accept(self, pending, possible, tables):
        database = Database(SCHEMA, beginning=(pending, possible, tables))
        self.assertEqual(database.beginning, (pending, possible, tables))
        self.assertEqual(database.pending, pending)
        self.assertEqual(database.known, ((), tuple([name for name, _, _ in pending]), possible))
        self.assertEqual((database.version, len(database), tuple(database)), (0, 0, ()))
        for outcome, one in zip(possible, tables):
            self.assertEqual(database.tables_at(0, outcome), one)

    def test_a_new_database(self):
        database = Database(SCHEMA)
        self.assertEqual(database.beginning, ((), ((),), (EMPTY,)))
        self.assertEqual(list(database.beginning[2][0]), ["seat", "pair"])
        self.assertEqual(database.schema, SCHEMA)
        self.assertEqual(database.known, ((), (), ((),)))
        self.assertEqual((database.version, len(database), tuple(database), database.pending), (0, 0, (), ()))
        self.assertEqual(Database(SCHEMA, beginning=None).beginning, database.beginning)

    def test_no_pending_names(self):
        self.accept((), ((),), (TWO,))

    def test_one_to_six_pending_names(self):
        names = ("a", "b1", "b10", "b9", "b_", "c")
        for many in range(1, 7):
            pending = tuple([(name, 1, False) for name in names[:many]])
            possible = tuple(all_outcomes(names[:many]))
            self.accept(pending, possible, (EMPTY,) * len(possible))

    def test_costs(self):
        for cost in (1, 2, 1000):
            self.accept((("t1", cost, True),), (("t1",), ()), (ONE, EMPTY))
        self.accept((("t1", 1, False),), (("t1",), ()), (ONE, EMPTY))

    def test_not_all_outcomes(self):
        self.accept(PENDING, POSSIBLE, TABLES)
        self.accept(PENDING, (("t1", "t2"), ()), (ONE, ONE))
        self.accept(PENDING, (("t1",), ("t2",)), (TWO, EMPTY))

    def test_the_greatest_number_of_rows(self):
        self.accept((), ((),), ({"seat": ((1, ""), (2, ""), (3, "")), "pair": ((1, -1), (1, 0))},))

    def test_the_known_transactions_of_a_beginning(self):
        database = Database(SCHEMA, beginning=(PENDING, POSSIBLE, TABLES))
        answer = database.query(read_query("seat"))
        self.assertEqual(answer, (("number", "guest"), (
            ((1, "ada"), ((("t2", True),),)), ((3, "bob"), ((("t1", False), ("t2", True)),)))))


class Invalid(unittest.TestCase):
    def refuse(self, pending=PENDING, possible=POSSIBLE, tables=TABLES):
        with self.assertRaises(IndoubtError) as caught:
            Database(SCHEMA, beginning=(pending, possible, tables))
        self.assertIs(type(caught.exception), InvalidBeginning)

    def refuse_tables(self, **changed):
        """Refuses the changed tables at each place of the tables of a beginning."""
        for place in range(3):
            tables = list(TABLES)
            tables[place] = {**tables[place], **changed}
            self.refuse(tables=tuple(tables))
        self.refuse((), ((),), ({**ONE, **changed},))

    def test_seven_pending_names(self):
        names = tuple("abcdefg")
        pending = tuple([(name, 1, False) for name in names])
        self.refuse(pending, (names, ()), (EMPTY, EMPTY))
        self.refuse(pending, tuple(all_outcomes(names)), (EMPTY,) * 128)

    def test_pending_names_that_are_not_ascending(self):
        self.refuse((PENDING[1], PENDING[0]))
        self.refuse((("t1", 5, True), ("t1", 5, True)), (("t1",), ()), (ONE, EMPTY))
        self.refuse((("t10", 5, True), ("t1", 5, True)), (("t10",), ("t1",)), (ONE, EMPTY))
        self.refuse((("b", 1, True), ("a_", 1, True)), (("a_", "b"), ()), (ONE, EMPTY))

    def test_costs(self):
        for cost in (0, -1, 1001, 1000000):
            self.refuse((("t1", cost, True), PENDING[1]))
            self.refuse((PENDING[0], ("t2", cost, False)))
        for cost in (2, 1000):
            self.refuse((PENDING[0], ("t2", cost, False)))
            self.refuse((("t1", cost, False), PENDING[1]))

    def test_no_possible_outcome(self):
        self.refuse(possible=(), tables=())
        self.refuse((), (), ())

    def test_outcomes_with_other_names(self):
        self.refuse(possible=(("t1", "t2", "t3"), ("t2",), ()))
        self.refuse((), (("t1",),), (EMPTY,))
        self.refuse((), ((), ("t1",)), (EMPTY, EMPTY))

    def test_outcomes_that_are_not_ascending(self):
        self.refuse(possible=(("t2", "t1"), ("t2",), ()))
        self.refuse(possible=(("t1", "t2"), ("t2", "t2"), ()))
        self.refuse(possible=(("t1", "t1", "t2"), ("t2",), ()))

    def test_outcomes_in_another_order(self):
        for possible in ((("t2",), ("t1", "t2"), ()), (("t1", "t2"), (), ("t2",)), ((), ("t2",), ("t1", "t2"))):
            self.refuse(possible=possible)
        self.refuse(possible=(("t2",), ("t1",)), tables=(EMPTY, EMPTY))
        self.refuse(possible=(("t1",), ("t1", "t2"), ()))

    def test_outcomes_that_stand_twice(self):
        self.refuse(possible=(("t1", "t2"), ("t2",), ("t2",), ()), tables=(ONE, TWO, TWO, EMPTY))
        self.refuse((), ((), ()), (EMPTY, EMPTY))

    def test_names_that_are_decided(self):
        self.refuse(possible=(("t1", "t2"), ("t2",)), tables=(ONE, TWO))
        self.refuse(possible=(("t2",), ()), tables=(TWO, EMPTY))
        self.refuse(possible=((),), tables=(EMPTY,))
        self.refuse(possible=(("t1", "t2"),), tables=(ONE,))

    def test_the_number_of_tables(self):
        self.refuse(tables=TABLES[:2])
        self.refuse(tables=TABLES + (EMPTY,))
        self.refuse(tables=())

    def test_rows_that_are_not_ascending(self):
        self.refuse_tables(seat=((3, "bob"), (1, "ada")))
        self.refuse_tables(pair=((1, 5), (1, 1)), seat=((1, "ada"),))

    def test_rows_that_stand_twice(self):
        self.refuse_tables(seat=((1, "ada"), (1, "ada"), (3, "bob")))

    def test_rows_that_cannot_be_stored(self):
        for row in ((), (1,), (1, "ada", 2), ("ada", 1), (1, 1), ("ada", "ada"), (1000001, "ada"), ("1", "ada")):
            self.refuse_tables(seat=(row,), pair=())
        self.refuse_tables(seat=((1, "ada"), (3,)))
        self.refuse_tables(seat=((3, "bob"), (), (1, 2, 3)))
        self.refuse_tables(pair=((1, -1000001),), seat=((1, "ada"),))

    def test_too_many_rows(self):
        self.refuse_tables(seat=((1, ""), (2, ""), (3, ""), (4, "")))
        self.refuse_tables(seat=((1, ""),), pair=((1, 1), (1, 2), (1, 3)))

    def test_constraints(self):
        self.refuse_tables(seat=((1, "ada"), (1, "bob")), pair=())
        self.refuse_tables(seat=((0, "ada"),), pair=())
        self.refuse_tables(seat=((3, "ada"),), pair=((1, 1),))
        self.refuse_tables(seat=((2, "ada"),), pair=())

    def test_the_errors_of_the_schema_come_first(self):
        twice = (SCHEMA[0] + SCHEMA[0][:1],) + SCHEMA[1:]
        for beginning in (None, ((), (), ()), (PENDING, POSSIBLE, TABLES)):
            with self.assertRaises(DuplicateName) as caught:
                Database(twice, beginning=beginning)
            self.assertEqual(caught.exception.name, "seat")
        unknown = (SCHEMA[0], (("v", ("name", "nothing")),), ())
        with self.assertRaises(UnknownTable) as caught:
            Database(unknown, beginning=((), (), ()))
        self.assertEqual(caught.exception.name, "nothing")


class Copies(unittest.TestCase):
    """Dicts that were passed or returned can be changed, and this changes nothing else."""

    def setUp(self):
        self.tables = (dict(ONE), dict(TWO), dict(EMPTY))
        self.database = Database(SCHEMA, beginning=(PENDING, POSSIBLE, self.tables))

    def check(self):
        self.assertEqual(self.database.beginning, (PENDING, POSSIBLE, TABLES))
        self.assertEqual(self.database.snapshot(), (PENDING, POSSIBLE, TABLES))
        for outcome, expected in zip(POSSIBLE, TABLES):
            self.assertEqual(self.database.tables_at(0, outcome), expected)

    def test_the_tables_that_were_passed(self):
        self.tables[0]["seat"] = ()
        self.tables[1].clear()
        self.check()

    def test_the_tables_that_were_returned(self):
        for changed in (self.database.beginning[2], self.database.snapshot()[2],
                        [self.database.tables_at(0, outcome) for outcome in POSSIBLE]):
            for one in changed:
                one["seat"] = ((9, "eve"),)
                one["new"] = ()
            self.check()

    def test_one_dict_at_several_places(self):
        one = dict(EMPTY)
        database = Database(SCHEMA, beginning=(PENDING, POSSIBLE, (one, one, one)))
        one["seat"] = ((3, "eve"),)
        database.beginning[2][0]["seat"] = ((4, "eve"),)
        self.assertEqual(database.beginning[2], (EMPTY, EMPTY, EMPTY))

    def test_later_entries_do_not_change_the_beginning(self):
        beginning = self.database.beginning
        self.database.execute(read_script("delete seat where number = 1; delete pair where true;"))
        self.database.prepare("t3", read_script("insert seat (1, 'eve');"))
        self.assertEqual(beginning, (PENDING, POSSIBLE, TABLES))
        self.assertEqual(self.database.beginning, beginning)
        self.assertEqual(self.tables, TABLES)


if __name__ == "__main__":
    unittest.main()

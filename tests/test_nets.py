import unittest

from indoubt.engine import Database
from indoubt.errors import (
    AlreadyDecided, AlreadyPrepared, Contradiction, DuplicateColumn, DuplicateName, IndoubtError, RowMismatch,
    TooManyUndecided, UnknownColumn, UnknownTable,
)
from indoubt.logs import log_text
from indoubt.nets import Net
from indoubt.promises import promise
from indoubt.reader import read_fact, read_query, read_schema, read_script

STOCK = read_schema("table item (id integer, pieces integer) key id limit 9 check pieces >= 0;")
MONEY = read_schema("table account (id integer, balance integer) key id limit 9 check balance >= 0;")
NOTES = read_schema("table note (n integer) key n limit 9;")
TAKE = read_script("update item set pieces = pieces - 2 where id = 1;")
PAY = read_script("update account set balance = balance - 40 where id = 7;")
FILL = read_script("insert item (1, 3);")
SAVE = read_script("insert account (7, 100);")
NOTE = read_script("insert note (1);")
BOTH = ((0, TAKE), (1, PAY))
YES = ("true",)


def work_all(net):
    """Lets all houses carry out all their steps."""
    for house in range(len(net)):
        while net.work(house) is not None:
            pass


class NetCase(unittest.TestCase):
    def example(self):
        """The net of the document, whose steps have been given and not carried out."""
        net = Net((STOCK, MONEY))
        net.execute(0, FILL)
        net.execute(1, SAVE)
        net.prepare("t1", BOTH)
        net.prepare("t2", BOTH)
        return net

    def state(self, net):
        """Everything that can be seen of the net."""
        houses = range(len(net))
        return (net.schemas, net.steps, net.letters, net.merged_schema(), log_text(net.merged()),
                [log_text(database) for database in net], [net.waiting(house) for house in houses],
                [net.is_level(house) for house in houses], [net[house].known for house in houses])

    def refuse(self, net, error, call, **attributes):
        before = self.state(net)
        with self.assertRaises(IndoubtError) as caught:
            call()
        self.assertIs(type(caught.exception), error)
        for name, value in attributes.items():
            self.assertEqual(getattr(caught.exception, name), value)
        self.assertEqual(self.state(net), before)


class Schemas(NetCase):
    def refuse_schemas(self, error, name, *texts):
        with self.assertRaises(IndoubtError) as caught:
            Net(tuple([read_schema(text) for text in texts]))
        self.assertIs(type(caught.exception), error)
        self.assertEqual(caught.exception.name, name)

    def test_one_house(self):
        net = Net((STOCK,))
        self.assertEqual((len(net), net.schemas, net.merged_schema()), (1, (STOCK,), STOCK))
        self.assertEqual((net.steps, net.letters, net.waiting(0), net.work(0)), ((), (), (), None))
        self.assertTrue(net.is_level(0))
        self.assertIsInstance(net[0], Database)
        self.assertEqual(log_text(net[0]), log_text(Database(STOCK)))
        self.assertEqual(log_text(net.merged()), log_text(net[0]))

    def test_several_houses(self):
        net = Net((STOCK, MONEY, NOTES))
        self.assertEqual(len(net), 3)
        self.assertEqual([database.schema for database in net], [STOCK, MONEY, NOTES])
        self.assertEqual([net[house].schema for house in range(3)], [STOCK, MONEY, NOTES])
        self.assertEqual(net.schemas, (STOCK, MONEY, NOTES))

    def test_the_merged_schema(self):
        first = read_schema(
            "table b (x integer) key x limit 1; table a (x integer) key x limit 1; view w = b; deny e = a;")
        second = read_schema("table c (x integer) key x limit 1 reference x to c; view v = c; view u = v; deny d = u;")
        tables, views, denials = Net((first, second)).merged_schema()
        self.assertEqual([part[0] for part in tables + views + denials], ["b", "a", "c", "w", "v", "u", "e", "d"])
        self.assertEqual((tables, views, denials), tuple([left + right for left, right in zip(first, second)]))

    def test_the_errors_of_the_schemas(self):
        wrong = "table t (a integer, a integer) key a limit 1;"
        self.refuse_schemas(DuplicateColumn, "a", wrong)
        self.refuse_schemas(DuplicateColumn, "a", "table s (a integer) key a limit 1;", wrong)
        self.refuse_schemas(UnknownColumn, "b", "table t (a integer) key b limit 1;", wrong)
        self.refuse_schemas(DuplicateName, "t", "table t (a integer) key a limit 1; view t = t;")

    def test_the_errors_of_all_schemas_come_before_common_names(self):
        self.refuse_schemas(UnknownColumn, "z", "table t (a integer) key a limit 1;",
                            "table t (a integer) key a limit 1;", "table s (a integer) key z limit 1;")

    def test_names_in_common(self):
        start = "table {} (a integer) key a limit 1; view {} = {}; deny {} = {};"
        for names, other, name in (
                ("tvtdt", "twtet", "t"), ("tvtdt", "svses", "v"), ("tvtdt", "swsds", "d"),
                ("tvtdt", "vwvev", "v"), ("tvtdt", "dwded", "d"), ("tvtdt", "stses", "t"),
                ("tvtdt", "sdses", "d"), ("tvtdt", "swsvs", "v"), ("tvtdt", "swsts", "t"), ("tvtdt", "vtvdv", "v")):
            self.refuse_schemas(DuplicateName, name, start.format(*names), start.format(*other))
        self.assertEqual(len(Net((read_schema(start.format(*"tvtdt")), read_schema(start.format(*"swses"))))), 2)

    def test_the_first_name_in_the_order_of_the_merged_schema(self):
        # The view y of the second schema stands before its denial x in the merged schema, and behind the table z.
        first = "table x (a integer) key a limit 1; table y (a integer) key a limit 1;"
        self.refuse_schemas(DuplicateName, "y", first,
                            "table w (a integer) key a limit 1; view y = w; deny x = w;")
        self.refuse_schemas(DuplicateName, "x", first, "table w (a integer) key a limit 1; view y = w;",
                            "table x (a integer) key a limit 1;")


class Steps(NetCase):
    def test_steps_are_given_and_not_carried_out(self):
        net = Net((STOCK, MONEY))
        self.assertEqual([net.execute(0, FILL), net.execute(1, SAVE), net.prepare("t1", BOTH),
                          net.learn(read_fact("t1 or t2"))], [1, 2, 3, 4])
        self.assertEqual(net.steps, (
            ("execute", 0, FILL), ("execute", 1, SAVE), ("prepare", "t1", BOTH), ("learn", read_fact("t1 or t2"))))
        self.assertEqual([len(database) for database in net], [0, 0])
        self.assertEqual(net.letters, ())
        self.assertEqual(len(net.merged()), 4)

    def test_waiting(self):
        net = Net((STOCK, MONEY, NOTES))
        net.execute(1, SAVE)
        net.prepare("t1", ((0, TAKE), (2, NOTE)))
        net.learn(YES)
        net.prepare("t2", ((1, PAY),))
        self.assertEqual([net.waiting(house) for house in range(3)], [(2, 3), (1, 3, 4), (2, 3)])
        self.assertEqual(net.work(1), 1)
        self.assertEqual(net.waiting(1), (3, 4))
        self.assertEqual([net.work(0), net.work(0), net.work(0)], [2, 3, None])
        self.assertEqual([net.waiting(house) for house in range(3)], [(), (3, 4), (2, 3)])
        net.execute(0, FILL)
        self.assertEqual(net.waiting(0), (5,))

    def test_the_errors_of_execute(self):
        net = self.example()
        self.refuse(net, UnknownTable, lambda: net.execute(0, PAY), name="account")
        self.refuse(net, UnknownTable, lambda: net.execute(1, TAKE), name="item")
        self.refuse(net, RowMismatch, lambda: net.execute(0, read_script("insert item (1);")), name="item")
        self.assertEqual(net.execute(0, read_script("require item | where id = 9;")), 5)

    def test_the_errors_of_prepare(self):
        net = self.example()
        self.refuse(net, UnknownTable, lambda: net.prepare("t3", ((0, PAY), (1, PAY))), name="account")
        self.refuse(net, UnknownTable, lambda: net.prepare("t3", ((0, TAKE), (1, TAKE))), name="item")
        self.refuse(net, UnknownTable, lambda: net.prepare("t1", ((0, PAY), (1, TAKE))), name="account")
        self.refuse(net, AlreadyPrepared, lambda: net.prepare("t1", BOTH), name="t1")
        self.refuse(net, AlreadyPrepared, lambda: net.prepare("t1", ((1, PAY),)), name="t1")
        net.learn(read_fact("not t1 and t5"))
        self.refuse(net, AlreadyPrepared, lambda: net.prepare("t1", BOTH), name="t1")
        self.refuse(net, AlreadyDecided, lambda: net.prepare("t5", BOTH), name="t5")
        self.refuse(net, UnknownTable, lambda: net.prepare("t5", ((1, TAKE),)), name="item")
        net.learn(read_fact("one of (a, b, c)"))
        self.refuse(net, TooManyUndecided, lambda: net.prepare("t4", BOTH), count=7)
        self.refuse(net, UnknownTable, lambda: net.prepare("t4", ((1, TAKE),)), name="item")
        self.refuse(net, AlreadyDecided, lambda: net.prepare("t5", BOTH), name="t5")
        self.assertEqual(net.prepare("c", BOTH), 7)

    def test_names_that_the_merged_database_has_decided(self):
        # No house alone knows that both cannot commit: one of them is decided by both steps together.
        net = Net((STOCK, MONEY))
        net.learn(read_fact("one of (t1, t2)"))
        net.prepare("t1", ((0, TAKE), (1, read_script("require account;"))))
        self.refuse(net, AlreadyDecided, lambda: net.prepare("t2", BOTH), name="t2")
        self.assertEqual(net.merged().known, ((("t1", False), ("t2", True)), (), ((),)))

    def test_the_errors_of_learn(self):
        net = self.example()
        for text in ("false", "t1 and not t1", "t1 and t2", "one of (t3, t3)"):
            self.refuse(net, Contradiction, lambda: net.learn(read_fact(text)))
        self.refuse(net, TooManyUndecided, lambda: net.learn(read_fact("a or b or c or d or e")), count=7)
        self.refuse(net, TooManyUndecided, lambda: net.learn(read_fact("false and (a or b or c or d or e or f)")),
                    count=8)
        self.assertEqual(net.learn(read_fact("a or b or c or d or t1")), 5)

    def test_decided_names_count(self):
        net = Net((STOCK, MONEY))
        net.learn(read_fact("a and b and not c and not d and e"))
        self.refuse(net, TooManyUndecided, lambda: net.learn(read_fact("t1 or t2")), count=7)
        net.prepare("t1", BOTH)
        self.refuse(net, TooManyUndecided, lambda: net.prepare("t2", BOTH), count=7)
        self.refuse(net, TooManyUndecided, lambda: net.learn(read_fact("not a and t2")), count=7)
        self.refuse(net, Contradiction, lambda: net.learn(read_fact("not a and t1")))

    def test_refused_steps_are_not_given(self):
        net = self.example()
        with self.assertRaises(Contradiction):
            net.learn(read_fact("false"))
        self.assertEqual(net.learn(read_fact("t1")), 5)
        self.assertEqual(net.waiting(0), (1, 3, 4, 5))


class Working(NetCase):
    def test_the_example(self):
        net = self.example()
        self.assertEqual([net.work(0), net.work(0), net.work(0), net.work(1), net.work(1), net.work(1), net.work(1)],
                         [1, 3, 4, 2, 3, 4, None])
        first, second = ("commits", "t1"), ("commits", "t2")
        self.assertEqual(net.letters, (
            (3, 0, ("implies", first, YES)), (4, 0, ("implies", second, ("not", first))),
            (3, 1, ("implies", first, YES)), (4, 1, ("implies", second, YES))))
        self.assertEqual([net.deliver(0, 1), net.deliver(1, 1), net.deliver(1, 0), net.is_level(1), net.is_level(0)],
                         [True, True, False, True, False])
        query = read_query("account")
        self.assertEqual(net[1].query(query), net.merged().query(query))
        self.assertEqual(len(net.letters), 4)

    def test_entries_of_houses(self):
        net = self.example()
        net.learn(read_fact("t1 implies t2"))
        work_all(net)
        self.assertEqual(list(net[0]), [
            ("execute", FILL), ("prepare", "t1", 1, TAKE), ("prepare", "t2", 1, TAKE),
            ("learn", read_fact("t1 implies t2"))])
        self.assertEqual(list(net[1]), [
            ("execute", SAVE), ("prepare", "t1", 1, PAY), ("prepare", "t2", 1, PAY),
            ("learn", read_fact("t1 implies t2"))])

    def test_only_branches_send_letters(self):
        net = Net((STOCK, MONEY, NOTES))
        net.execute(0, FILL)
        net.learn(read_fact("t1 or t2"))
        net.prepare("t1", ((0, TAKE), (2, NOTE)))
        work_all(net)
        self.assertEqual([letter[:2] for letter in net.letters], [(3, 0), (3, 2)])

    def test_working_by_turns(self):
        net = self.example()
        self.assertEqual([net.work(house) for house in (1, 0, 1, 0, 0, 1, 0)], [2, 1, 3, 3, 4, 4, None])
        self.assertEqual([letter[:2] for letter in net.letters], [(3, 1), (3, 0), (4, 0), (4, 1)])

    def test_the_vote_in_a_letter(self):
        net = self.example()
        for house in (0, 0, 1, 1):
            net.work(house)
        # House 1 has learned before its last step that t1 aborts; its promise does not say so.
        net.learn(read_fact("not t1"))
        work_all(net)
        vote = net[0].report(3)["vote"]
        self.assertEqual(net.letters[-2], (4, 0, promise("t2", vote)))
        self.assertEqual(net.letters[-2][2], ("implies", ("commits", "t2"), read_fact("not t1")))

    def test_a_house_that_waits_does_not_stop_the_others(self):
        net = self.example()
        while net.work(1) is not None:
            pass
        self.assertEqual(net.waiting(0), (1, 3, 4))
        self.assertEqual(len(net[0]), 0)
        self.assertEqual(len(net[1].query(read_query("account"))[1]), 3)

    def test_the_merged_database_is_a_new_object(self):
        net = self.example()
        first = net.merged()
        first.learn(read_fact("t1"))
        self.assertEqual(len(net.merged()), 4)
        self.assertEqual(net.merged().known[0], ())
        self.assertEqual(net.learn(read_fact("not t1")), 5)
        self.assertEqual(len(first), 5)

    def test_the_merged_database(self):
        net = self.example()
        net.learn(read_fact("t1 implies t2"))
        merged = net.merged()
        self.assertEqual(merged.schema, net.merged_schema())
        self.assertEqual(list(merged), [
            ("execute", FILL), ("execute", SAVE), ("prepare", "t1", 1, TAKE + PAY), ("prepare", "t2", 1, TAKE + PAY),
            ("learn", read_fact("t1 implies t2"))])
        self.assertEqual(merged.known[0], (("t1", False),))


class Letters(NetCase):
    def test_letters_to_their_senders(self):
        net = self.example()
        work_all(net)
        before = self.state(net)
        self.assertEqual([net.deliver(0, 0), net.deliver(1, 0), net.deliver(2, 1), net.deliver(3, 1)], [False] * 4)
        self.assertEqual(self.state(net), before)

    def test_letters_that_are_delivered_too_early(self):
        net = self.example()
        for _ in range(3):
            net.work(0)
        # The letters are from the steps 3 and 4; house 1 has to carry out the steps 2, 3 and 4.
        for expected in ([False, False], [False, False], [True, False], [True, True]):
            before = self.state(net)
            self.assertEqual([net.deliver(0, 1), net.deliver(1, 1)], expected)
            self.assertEqual(self.state(net) == before, expected == [False, False])
            net.work(1)

    def test_a_house_that_the_step_does_not_concern(self):
        net = Net((STOCK, MONEY, NOTES))
        net.prepare("t1", ((0, TAKE), (1, PAY)))
        net.execute(2, NOTE)
        net.prepare("t2", ((0, TAKE),))
        for _ in range(2):
            net.work(0)
        self.assertEqual(net.deliver(0, 2), True)
        self.assertEqual(list(net[2]), [("learn", promise("t1", ((),)))])
        self.assertEqual(net.deliver(1, 2), False)
        self.assertEqual(net.work(2), 2)
        self.assertEqual(net.deliver(1, 2), True)

    def test_letters_that_are_delivered_twice(self):
        net = self.example()
        work_all(net)
        self.assertEqual([net.deliver(1, 1), net.deliver(1, 1), net.deliver(0, 1), net.deliver(1, 1)], [True] * 4)
        self.assertEqual(len(net[1]), 7)
        self.assertEqual([entry for entry in net[1] if entry[0] == "learn"], [
            ("learn", net.letters[place][2]) for place in (1, 1, 0, 1)])
        self.assertTrue(net.is_level(1))

    def test_letters_in_any_order(self):
        known = []
        for order in ((0, 1), (1, 0), (1, 1, 0)):
            net = self.example()
            work_all(net)
            for letter in order:
                self.assertTrue(net.deliver(letter, 1))
            known.append(net[1].known)
        self.assertEqual(known, [((), ("t1", "t2"), (("t1",), ("t2",), ()))] * 3)


class Falling(NetCase):
    def working(self):
        """The example, after both houses have carried out everything, and house 1 has accepted two letters."""
        net = self.example()
        work_all(net)
        net.deliver(0, 1)
        net.deliver(1, 1)
        return net

    def test_a_house_that_keeps_none_of_its_entries(self):
        net = self.working()
        self.assertIsNone(net.fall(1, 0))
        self.assertEqual((len(net[1]), net.waiting(1), net.is_level(1)), (0, (2, 3, 4), False))
        self.assertEqual(len(net[0]), 3)
        self.assertEqual(net.waiting(0), ())
        self.assertEqual(len(net.letters), 4)

    def test_a_house_that_keeps_some_of_its_entries(self):
        for kept, waiting in ((1, (3, 4)), (2, (4,)), (3, ()), (4, ())):
            net = self.working()
            entries = list(net[1])
            net.fall(1, kept)
            self.assertEqual(list(net[1]), entries[:kept])
            self.assertEqual(net.waiting(1), waiting)
            self.assertFalse(net.is_level(1))

    def test_a_house_that_keeps_all_of_its_entries(self):
        net = self.working()
        before = self.state(net)
        database = net[1]
        net.fall(1, 5)
        self.assertEqual(self.state(net), before)
        self.assertTrue(net.is_level(1))
        self.assertIsNot(net[1], database)

    def test_the_database_of_before_stays_as_it_was(self):
        net = self.working()
        database = net[1]
        text = log_text(database)
        net.fall(1, 2)
        self.assertIsNot(net[1], database)
        self.assertEqual(log_text(database), text)
        net.work(1)
        net.deliver(0, 1)
        self.assertEqual(log_text(database), text)
        self.assertIs([one for one in net][1], net[1])

    def test_letters_are_sent_once_more(self):
        net = self.working()
        net.fall(0, 1)
        self.assertEqual(net.waiting(0), (3, 4))
        self.assertEqual([net.work(0), net.work(0), net.work(0)], [3, 4, None])
        self.assertEqual([letter[:2] for letter in net.letters], [(3, 0), (4, 0), (3, 1), (4, 1), (3, 0), (4, 0)])
        self.assertEqual(net.letters[4:], net.letters[:2])

    def test_a_letter_that_says_something_else(self):
        net = Net((STOCK, MONEY))
        net.execute(0, FILL)
        net.prepare("t1", ((0, TAKE), (1, read_script("require account;"))))
        net.prepare("t2", ((0, TAKE),))
        work_all(net)
        letters = ((2, 0, promise("t1", ((),))), (3, 0, promise("t2", ((("t1", False),),))), (2, 1, promise("t1", ())))
        self.assertEqual(net.letters, letters)
        net.fall(0, 2)
        # Now house 0 hears that t1 aborts, before it carries out the step that was lost.
        self.assertEqual([net.deliver(2, 0), net.work(0)], [True, 3])
        self.assertEqual(net.letters, letters + ((3, 0, promise("t2", ((),))),))
        # Either of the two letters makes the other house level.
        self.assertEqual([net.deliver(0, 1), net.is_level(1), net.deliver(3, 1), net.is_level(1)],
                         [True, False, True, True])

    def test_letters_that_were_lost_can_be_delivered_again(self):
        net = self.working()
        net.fall(1, 3)
        self.assertEqual(len(net[1].known[2]), 4)
        self.assertEqual([net.deliver(1, 1), net.is_level(1), net.deliver(0, 1), net.is_level(1)],
                         [True, False, True, True])
        net.fall(1, 1)
        self.assertEqual([net.deliver(1, 1), net.deliver(0, 1), net.work(1), net.deliver(0, 1), net.deliver(1, 1)],
                         [False, False, 3, True, False])

    def test_letters_between_steps(self):
        net = self.example()
        for house in (0, 0, 1, 1):
            net.work(house)
        self.assertTrue(net.deliver(0, 1))
        net.work(1)
        entries = list(net[1])
        self.assertEqual([entry[0] for entry in entries], ["execute", "prepare", "learn", "prepare"])
        for kept, waiting in ((4, ()), (3, (4,)), (2, (4,)), (1, (3, 4)), (0, (2, 3, 4))):
            net.fall(1, kept)
            self.assertEqual(net.waiting(1), waiting)
            self.assertEqual(list(net[1]), entries[:kept])

    def test_steps_can_be_given_after_a_fall(self):
        net = self.working()
        net.fall(0, 0)
        self.assertEqual(net.learn(read_fact("t2")), 5)
        self.assertEqual(net.waiting(0), (1, 3, 4, 5))
        work_all(net)
        self.assertEqual(net[0].known[0], (("t1", False), ("t2", True)))


class Level(NetCase):
    def test_a_house_that_has_something_to_do(self):
        net = Net((STOCK, MONEY))
        net.execute(0, FILL)
        self.assertEqual([net.is_level(0), net.is_level(1)], [False, True])
        net.work(0)
        self.assertEqual([net.is_level(0), net.is_level(1)], [True, True])
        net.learn(read_fact("t1 or t2"))
        self.assertEqual([net.is_level(0), net.is_level(1)], [False, False])

    def test_branches_of_the_house_alone(self):
        net = Net((STOCK, MONEY))
        net.prepare("t1", ((0, TAKE),))
        work_all(net)
        self.assertEqual([net.is_level(0), net.is_level(1)], [True, False])
        net.deliver(0, 1)
        self.assertTrue(net.is_level(1))

    def test_every_other_house_with_a_branch_counts(self):
        net = Net((STOCK, MONEY, NOTES))
        net.prepare("t1", ((0, TAKE), (1, PAY), (2, NOTE)))
        work_all(net)
        # The three letters say the same, so each of them is the fact of them all.
        self.assertEqual(len({letter[2] for letter in net.letters}), 1)
        net.deliver(1, 0)
        self.assertTrue(net.is_level(0))
        net = Net((STOCK, MONEY, NOTES))
        net.execute(0, FILL)
        net.prepare("t1", ((0, TAKE),))
        net.prepare("t2", ((0, TAKE), (1, PAY), (2, NOTE)))
        work_all(net)
        self.assertEqual([letter[:2] for letter in net.letters], [(2, 0), (3, 0), (3, 1), (3, 2)])
        self.assertEqual([net.deliver(0, 1), net.is_level(1), net.deliver(3, 1), net.is_level(1), net.deliver(1, 1),
                          net.is_level(1)], [True, False, True, False, True, True])

    def test_a_fact_that_was_learned_in_another_way(self):
        net = Net((STOCK, MONEY))
        net.prepare("t1", ((0, TAKE),))
        net.learn(promise("t1", ((),)))
        work_all(net)
        self.assertTrue(net.is_level(1))

    def test_a_level_house_knows_what_the_merged_database_knows(self):
        net = self.example()
        work_all(net)
        for letter in (0, 1):
            net.deliver(letter, 1)
        for letter in (2, 3):
            net.deliver(letter, 0)
        self.assertEqual([net.is_level(0), net.is_level(1)], [True, True])
        merged = net.merged()
        for house, text in ((0, "item"), (1, "account")):
            self.assertEqual(net[house].known, merged.known)
            self.assertEqual(net[house].query(read_query(text)), merged.query(read_query(text)))


if __name__ == "__main__":
    unittest.main()

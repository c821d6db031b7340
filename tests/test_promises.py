import unittest

from indoubt.engine import Database
from indoubt.facts import holds
from indoubt.promises import promise
from indoubt.reader import read_fact, read_schema, read_script
from slow_search import all_outcomes


class Promises(unittest.TestCase):
    def check(self, vote, text):
        self.assertEqual(promise("t9", vote), ("implies", ("commits", "t9"), read_fact(text)))

    def test_promises(self):
        self.check(((),), "true")
        self.check((), "false")
        self.check(((("t1", True),),), "t1")
        self.check(((("t1", False),),), "not t1")
        self.check(((("t1", False), ("t2", True)),), "not t1 and t2")
        self.check(((("t1", True),), (("t2", False), ("t9", True))), "t1 or not t2 and t9")

    def test_the_example_of_the_document(self):
        stock = Database(read_schema("table item (id integer, pieces integer) key id limit 9 check pieces >= 0;"))
        money = Database(read_schema("table account (id integer, balance integer) key id limit 9 check balance >= 0;"))
        stock.execute(read_script("insert item (1, 3);"))
        money.execute(read_script("insert account (7, 100);"))
        promises = []
        for name in ("t1", "t2"):
            vote = stock.prepare(name, read_script("update item set pieces = pieces - 2 where id = 1;"))
            promises.append(promise(name, vote))
            money.prepare(name, read_script("update account set balance = balance - 40 where id = 7;"))
        self.assertEqual(promises, [
            ("implies", ("commits", "t1"), ("true",)),
            ("implies", ("commits", "t2"), ("not", ("commits", "t1")))])
        self.assertEqual(len(money.known[2]), 4)
        money.learn(promises[1])
        self.assertEqual(money.known[2], (("t1",), ("t2",), ()))

    def test_others_can_learn_promises_in_any_order(self):
        seats = read_schema("table seat (number integer, guest string) key number limit 9;")
        promises = []
        database = Database(seats)
        for name, text in (("t1", "insert seat (1, 'a');"), ("t2", "insert seat (1, 'b');"),
                           ("t3", "require seat | where guest = 'b';")):
            promises.append(promise(name, database.prepare(name, read_script(text))))
        for order in ((0, 1, 2), (2, 1, 0), (1, 2, 0), (2, 2, 0, 1, 1)):
            other = Database(seats)
            for place in order:
                other.learn(promises[place])
            self.assertEqual(other.known, database.known)
        admitted = [one for one in all_outcomes(("t1", "t2", "t3")) if all(holds(fact, one) for fact in promises)]
        self.assertEqual(tuple(admitted), database.known[2])


if __name__ == "__main__":
    unittest.main()

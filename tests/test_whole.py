"""What is promised of the whole, on random databases and nets, against the words of the document."""

import random
import unittest

from indoubt.certificates import check_certificate, settle
from indoubt.engine import Database
from indoubt.errors import (
    AlreadyDecided, AlreadyPrepared, Contradiction, IndoubtError, NotCertain, TooManyUndecided,
)
from indoubt.facts import holds, names_of
from indoubt.inquiries import follow
from indoubt.logs import log_text
from indoubt.nets import Net
from indoubt.reader import read_query, read_schema, read_script
from indoubt.schemas import empty_tables
from random_entries import QUERIES, SCHEMA, SCRIPTS, add, add_what_is_accepted, random_entries
from random_facts import random_fact
from slow_database import SlowDatabase
from slow_search import all_outcomes

NAMES = ("a", "b", "c", "d")


def random_database(rng, most):
    """A new database, or one that begins with a snapshot, with random entries."""
    database = Database(SCHEMA)
    if rng.random() < 0.4:
        earlier = add_what_is_accepted(Database(SCHEMA), random_entries(rng, 6, ("c", "d", "e")))
        database = Database(SCHEMA, beginning=earlier.snapshot())
    return add_what_is_accepted(database, random_entries(rng, most, NAMES))


class AgainstTheSerialExecution(unittest.TestCase):
    def compare(self, database):
        """Compares everything that the database says with the serial executions for all outcomes."""
        slow = SlowDatabase(database.schema, database.beginning, tuple(database))
        self.assertEqual(database.known, slow.known)
        self.assertEqual(database.pending, slow.pending())
        self.assertEqual(database.version, len(slow.transactions))
        for version in range(database.version + 1):
            tables = tuple([database.tables_at(version, outcome) for outcome in slow.known[2]])
            self.assertEqual(tables, tuple(slow.tables(version)))
            for query in QUERIES:
                self.assertEqual(database.query(query, version=version), slow.answer(query, version))
        self.assertEqual(database.snapshot(), (slow.pending(), slow.known[2], tuple(slow.tables(database.version))))
        for version in range(1, database.version + 1):
            report = database.report(version)
            entry = slow.transactions[version - 1]
            self.assertEqual(report["name"], entry[1] if entry[0] == "prepare" else None)
            self.assertEqual(report["script"], entry[-1])
            self.assertEqual(report["effect"], slow.effect(version))
            self.assertEqual(report["results"], slow.results_of(entry[-1], version - 1))
        return slow

    def test_random_databases(self):
        rng = random.Random(70)
        for _ in range(60):
            self.compare(random_database(rng, 6))

    def test_votes_and_settled_versions(self):
        rng = random.Random(71)
        for _ in range(60):
            database = random_database(rng, 1)
            for entry in random_entries(rng, 6, ("f", "g", "a")):
                before = SlowDatabase(database.schema, database.beginning, tuple(database))
                try:
                    told = add(database, entry)
                except IndoubtError:
                    continue
                after = SlowDatabase(database.schema, database.beginning, tuple(database))
                if entry[0] == "learn":
                    decided = tuple([pair for pair in after.known[0] if pair not in before.known[0]])
                    settled = tuple([version for version in after.settled() if version not in before.settled()])
                    self.assertEqual(told, (decided, settled))
                else:
                    self.assertEqual(told, before.vote(entry[-1]))
                    self.assertEqual(database.report(database.version)["vote"], told)

    def test_previews_and_inquiries(self):
        rng = random.Random(72)
        for _ in range(40):
            database = random_database(rng, 6)
            slow = SlowDatabase(database.schema, database.beginning, tuple(database))
            for script in SCRIPTS:
                self.assertEqual(database.preview(script), slow.results_of(script, database.version))
                cost, strategy, results = database.inquire(script)
                self.assertEqual((cost, strategy, results), slow.inquiry(script))
                for outcome in slow.known[2]:
                    chosen = results[follow(strategy, outcome)]
                    self.assertIn(outcome, self.outcomes_with(database, script, chosen))

    def outcomes_with(self, database, script, result):
        """The possible outcomes for which the script has the result, by asking a database that knows them."""
        found = []
        for outcome in database.known[2]:
            certain = Database(SCHEMA, beginning=((), ((),), (database.tables_at(database.version, outcome),)))
            if certain.preview(script) == ((result, ((),)),):
                found.append(outcome)
        return found

    def test_the_errors_of_entries(self):
        """Which error is raised, and that the database is unchanged then."""
        rng = random.Random(73)
        counts = {}
        for _ in range(80):
            database = random_database(rng, 4)
            for entry in random_entries(rng, 7, NAMES + ("e", "f", "g", "h", "i")):
                slow = SlowDatabase(database.schema, database.beginning, tuple(database))
                expected = self.expected_error(slow, entry)
                before = (log_text(database), database.known, database.pending, database.snapshot())
                if expected is None:
                    add(database, entry)
                    continue
                with self.assertRaises(IndoubtError) as caught:
                    add(database, entry)
                self.assertIs(type(caught.exception), expected)
                self.assertEqual((log_text(database), database.known, database.pending, database.snapshot()), before)
                counts[expected] = counts.get(expected, 0) + 1
        self.assertEqual(set(counts), {AlreadyPrepared, AlreadyDecided, TooManyUndecided, Contradiction})

    def expected_error(self, slow, entry):
        if entry[0] == "execute":
            return None
        if entry[0] == "prepare":
            prepared = [name for name, _, done in slow.beginning[0] if done]
            prepared += [other[1] for other in slow.entries if other[0] == "prepare"]
            if entry[1] in prepared:
                return AlreadyPrepared
            if entry[1] in [name for name, _ in slow.known[0]]:
                return AlreadyDecided
        new = {entry[1]} if entry[0] == "prepare" else set(names_of(entry[1]))
        new -= set(slow.known_names())
        if len(new) + len(slow.known[1]) > 6:
            return TooManyUndecided
        if entry[0] == "learn" and not any(
                holds(entry[1], one + other) for one in slow.admitted for other in all_outcomes(sorted(new))):
            return Contradiction
        return None

    def test_only_certain_results(self):
        rng = random.Random(74)
        counts = {True: 0, False: 0}
        for _ in range(100):
            database = random_database(rng, 5)
            for script in rng.sample(SCRIPTS, 4):
                results = database.preview(script)
                before = log_text(database)
                counts[len(results) == 1] += 1
                if len(results) == 1:
                    vote = ((),) if results[0][0][0] == "done" else ()
                    self.assertEqual(database.execute(script, certain=True), vote)
                    continue
                with self.assertRaises(NotCertain) as caught:
                    database.execute(script, certain=True)
                names = {name for _, condition in results for case in condition for name, _ in case}
                self.assertEqual(caught.exception.names, tuple(sorted(names)))
                self.assertTrue(names)
                self.assertEqual(log_text(database), before)
        self.assertGreater(min(counts.values()), 20)


class AsTimeGoesOn(unittest.TestCase):
    def test_later_entries_do_not_change_earlier_versions(self):
        rng = random.Random(75)
        for _ in range(50):
            database = random_database(rng, 4)
            version = database.version
            seen = {
                outcome: [database.tables_at(number, outcome) for number in range(version + 1)]
                for outcome in database.known[2]}
            decided, undecided, _ = database.known
            add_what_is_accepted(database, random_entries(rng, 5, ("f", "g", "a", "b")))
            committed = [name for name, commits in database.known[0] if commits]
            for outcome in database.known[2]:
                earlier = tuple([name for name in undecided if name in list(outcome) + committed])
                found = [database.tables_at(number, outcome) for number in range(version + 1)]
                self.assertEqual(found, seen[earlier])
            self.assertLessEqual(set(decided), set(database.known[0]))

    def test_what_is_certain_stays_certain(self):
        rng = random.Random(76)
        for _ in range(50):
            database = random_database(rng, 5)
            versions = range(database.version + 1)
            certain = [
                (number, query, row) for number in versions for query in QUERIES
                for row, condition in database.query(query, version=number)[1] if condition == ((),)]
            results = [
                (number, database.report(number)["results"]) for number in versions[1:]
                if len(database.report(number)["results"]) == 1]
            add_what_is_accepted(database, random_entries(rng, 5, ("f", "g", "a", "b")))
            for number, query, row in certain:
                self.assertIn((row, ((),)), database.query(query, version=number)[1])
            for number, found in results:
                self.assertEqual(database.report(number)["results"], found)

    def test_facts_can_be_learned_at_any_time(self):
        """A fact that was learned earlier leads to the same tables, results and knowledge."""
        rng = random.Random(77)
        compared = 0
        for _ in range(60):
            scripts = [entry for entry in random_entries(rng, 5, ("a", "b", "c")) if entry[0] != "learn"]
            facts = [("learn", random_fact(rng, ("a", "b", "c"), 2)) for _ in range(2)]
            databases = []
            for place in (0, len(scripts) // 2, len(scripts)):
                database = Database(SCHEMA)
                try:
                    for entry in scripts[:place] + facts + scripts[place:]:
                        add(database, entry)
                except IndoubtError:
                    continue
                databases.append(database)
            for database in databases[1:]:
                compared += 1
                self.assertEqual(database.known, databases[0].known)
                for outcome in database.known[2]:
                    for number in range(database.version + 1):
                        self.assertEqual(database.tables_at(number, outcome), databases[0].tables_at(number, outcome))
                for number in range(1, database.version + 1):
                    self.assertEqual(database.report(number)["results"], databases[0].report(number)["results"])
        self.assertGreater(compared, 20)

    def test_whatever_is_possible_can_come_true(self):
        rng = random.Random(78)
        for _ in range(40):
            database = random_database(rng, 5)
            for outcome in database.known[2]:
                later = add_what_is_accepted(Database(SCHEMA, beginning=database.beginning), tuple(database))
                self.assertEqual(log_text(later), log_text(database))
                tables = [later.tables_at(number, outcome) for number in range(later.version + 1)]
                order = rng.sample(database.known[1], len(database.known[1]))
                for name in order:
                    fact = ("commits", name) if name in outcome else ("not", ("commits", name))
                    later.learn(fact)
                expected = sorted(database.known[0] + tuple([(name, name in outcome) for name in order]))
                self.assertEqual(later.known, (tuple(expected), (), ((),)))
                self.assertEqual([later.tables_at(number, ()) for number in range(later.version + 1)], tables)

    def test_what_is_certain_can_be_certified(self):
        rng = random.Random(79)
        for _ in range(25):
            database = random_database(rng, 4)
            history = (database.schema, database.beginning, tuple(database))
            decided, undecided, _ = database.known
            claims = [(("fact", ("commits", name)), commits) for name, commits in decided]
            claims += [(("fact", ("not", ("commits", name))), not commits) for name, commits in decided]
            claims += [(("fact", ("commits", name)), False) for name in undecided]
            for version in range(database.version + 1):
                for row, condition in database.query(QUERIES[0], version=version)[1]:
                    claims.append((("row", version, QUERIES[0], row), condition == ((),)))
                    claims.append((("no row", version, QUERIES[0], row), False))
                claims.append((("no row", version, QUERIES[0], (9, 9)), True))
            for version in range(1, database.version + 1):
                results = database.report(version)["results"]
                claims += [(("result", version, result), len(results) == 1) for result, _ in results]
            for claim, certain in claims:
                word, found = settle(*history, claim)
                self.assertEqual(word, "certain" if certain else "open")
                if certain:
                    self.assertIs(check_certificate(*history, claim, found), True)
                else:
                    outcome = tuple([name for name in undecided if name in found])
                    self.assertIn(outcome, database.known[2])


STOCK = read_schema("""
table item (id integer, pieces integer) key id limit 4 check pieces >= 0;
table hold (n integer, id integer) key n limit 2 reference id to item;
view held = item | matching hold;
""")
MONEY = read_schema("table account (owner integer, balance integer) key owner limit 3 check balance >= 0;")
NOTES = read_schema("table note (n integer, word string) key n limit 2; deny wrong = note | where word = 'no';")
HOUSE_SCRIPTS = (
    ("insert item (1, 3), (2, 2);", "update item set pieces = pieces - 2 where id = 1;", "insert hold (1, 1);",
     "insert hold (2, 2); update item set pieces = pieces - 1 where id = 2;", "require item; delete hold where n = 1;",
     "delete item where pieces = 1;", "forbid held;"),
    ("insert account (7, 100);", "update account set balance = balance - 40 where owner = 7;", "require account;",
     "update account set balance = balance - 70 where true; return account;", "insert account (8, 1);"),
    ("insert note (1, 'yes');", "insert note (2, 'no');", "require note; insert note (3, 'a');",
     "delete note where n = 1;", "update note set word = 'b' where n < 3;"),
)
HOUSE_SCHEMAS = (STOCK, MONEY, NOTES)
HOUSE_QUERIES = tuple([tuple([read_query(text) for text in texts]) for texts in (
    ("item", "held", "item | group: total = sum pieces", "hold | join item"), ("account", "account | group: n = count"),
    ("note | select word",))])


class Nets(unittest.TestCase):
    def random_net(self, rng, turns):
        net = Net(HOUSE_SCHEMAS[:rng.randrange(1, 4)])
        names = ["t1", "t2", "t3"]
        for _ in range(turns):
            self.turn(rng, net, names)
        return net

    def turn(self, rng, net, names):
        """Gives a step, lets a house work, delivers a letter, or lets a house fall."""
        house = rng.randrange(len(net))
        choice = rng.randrange(12)
        if choice < 4:
            self.give(rng, net, house, names)
        elif choice < 8:
            self.assertIn(net.work(house), net.waiting(house) + (None,) + tuple(range(1, len(net.steps) + 1)))
        elif choice < 11 and net.letters:
            self.deliver(net, rng.randrange(len(net.letters)), house)
        elif choice == 11:
            kept = rng.randrange(len(net[house]) + 1)
            entries = list(net[house])
            net.fall(house, kept)
            self.assertEqual(list(net[house]), entries[:kept])

    def give(self, rng, net, house, names):
        """Gives a step; a refused one leaves the net as it was."""
        before = (net.steps, net.letters, [log_text(one) for one in net], log_text(net.merged()))
        try:
            if rng.random() < 0.4:
                net.execute(house, read_script(rng.choice(HOUSE_SCRIPTS[house])))
            elif rng.random() < 0.7:
                houses = sorted(rng.sample(range(len(net)), rng.randrange(1, len(net) + 1)))
                branches = tuple([(one, read_script(rng.choice(HOUSE_SCRIPTS[one]))) for one in houses])
                net.prepare(rng.choice(names), branches)
            else:
                net.learn(random_fact(rng, names, 2))
        except IndoubtError:
            self.assertEqual((net.steps, net.letters, [log_text(one) for one in net], log_text(net.merged())), before)

    def deliver(self, net, letter, house):
        number, sender, fact = net.letters[letter]
        accepts = sender != house and all(step > number for step in net.waiting(house))
        before = list(net[house])
        self.assertIs(net.deliver(letter, house), accepts)
        self.assertEqual(list(net[house]), before + ([("learn", fact)] if accepts else []))

    def test_houses_never_refuse_and_never_say_what_is_wrong(self):
        """The knowledge of every house includes all outcomes that the merged database thinks possible."""
        rng = random.Random(80)
        for _ in range(120):
            net = self.random_net(rng, 30)
            merged = net.merged()
            decided, undecided, possible = merged.known
            committed = tuple([name for name, commits in decided if commits])
            for database in net:
                here = database.known
                for outcome in possible:
                    said = tuple([name for name in here[1] if name in outcome + committed])
                    self.assertIn(said, here[2])
                self.assertLessEqual({pair for pair in here[0]}, set(decided))

    def test_level_houses(self):
        rng = random.Random(81)
        level = 0
        for _ in range(120):
            net = self.random_net(rng, 25)
            merged = net.merged()
            for house in range(len(net)):
                if rng.random() < 0.7:
                    while net.work(house) is not None:
                        pass
            for house in range(len(net)):
                for letter in range(len(net.letters)):
                    if rng.random() < 0.9:
                        net.deliver(letter, house)
            for house in range(len(net)):
                self.assertIs(net.is_level(house), self.slow_is_level(net, house))
                if net.is_level(house):
                    level += 1
                    self.compare(net, house, merged)
        self.assertGreater(level, 50)

    def slow_is_level(self, net, house):
        entries = list(net[house])
        for number, step in enumerate(net.steps, start=1):
            if number in net.waiting(house):
                return False
            if step[0] == "prepare":
                for other, _ in step[2]:
                    facts = [fact for one, sender, fact in net.letters if (one, sender) == (number, other)]
                    if other != house and not any(("learn", fact) in entries for fact in facts):
                        return False
        return True

    def compare(self, net, house, merged):
        """A level house knows what the merged database knows, and answers with the same rows and conditions."""
        self.assertEqual(net[house].known, merged.known)
        for query in HOUSE_QUERIES[house]:
            self.assertEqual(net[house].query(query), merged.query(query))
        for text in HOUSE_SCRIPTS[house]:
            self.assertEqual(net[house].preview(read_script(text)), merged.preview(read_script(text)))

    def test_merged_databases(self):
        rng = random.Random(82)
        for _ in range(60):
            net = self.random_net(rng, 25)
            merged = net.merged()
            slow = SlowDatabase(net.merged_schema(), ((), ((),), (empty_tables(net.merged_schema()),)), tuple(merged))
            self.assertEqual(merged.known, slow.known)
            self.assertEqual(len(merged), len(net.steps))


if __name__ == "__main__":
    unittest.main()

import itertools
import random
import unittest

from indoubt.certificates import truth
from indoubt.errors import Contradiction
from indoubt.facts import holds, names_of
from indoubt.lifted import at_least, lifted_answer, relation_for, tables_for
from indoubt.outcomes import keep, learn, mention, nothing_known
from indoubt.queries import names_in
from indoubt.reader import read_fact, read_query
from indoubt.shapes import shape_of
from lifted_cases import LiftedCase, pairs_of
from random_facts import random_fact
from slow_search import all_outcomes

ACCOUNT = (("id", "owner"), pairs_of(
    ((1, "ada"), "a"), ((2, "ada"), "b and not a"), ((3, "bob"), "true"), ((4, "cy"), "false")))
TRANSFER = (("number", "id"), pairs_of(
    ((1, 1), "c"), ((2, 1), "not c"), ((3, 2), "a or b"), ((4, 7), "one of (a, b)")))
OTHER = (("number", "id"), pairs_of(((1, 1), "b"), ((2, 2), "c"), ((3, 2), "true"), ((4, 7), "not a and not b")))
WORD = (("word",), pairs_of((("x",), "a implies c"), (("y",), "b")))
EMPTY = (("number", "id"), ())
RELATIONS = {"account": ACCOUNT, "transfer": TRANSFER, "other": OTHER, "word": WORD, "empty": EMPTY}


class Relations(unittest.TestCase):
    def test_a_lifted_relation_becomes_a_relation(self):
        self.assertEqual(relation_for(ACCOUNT, ()), (("id", "owner"), ((3, "bob"),)))
        self.assertEqual(relation_for(ACCOUNT, ("a",)), (("id", "owner"), ((1, "ada"), (3, "bob"))))
        self.assertEqual(relation_for(ACCOUNT, ("b",)), (("id", "owner"), ((2, "ada"), (3, "bob"))))
        self.assertEqual(relation_for(ACCOUNT, ("b", "a")), (("id", "owner"), ((1, "ada"), (3, "bob"))))

    def test_names_that_no_fact_has(self):
        self.assertEqual(relation_for(WORD, ("z", "b")), (("word",), (("x",), ("y",))))

    def test_no_rows(self):
        self.assertEqual(relation_for(EMPTY, ("a",)), (("number", "id"), ()))
        self.assertEqual(relation_for((("n",), pairs_of(((1,), "false"))), ()), (("n",), ()))

    def test_lifted_tables_become_tables(self):
        tables = {"transfer": TRANSFER[1], "empty": (), "account": ACCOUNT[1]}
        for committed in ((), ("a",), ("c", "b")):
            found = tables_for(tables, committed)
            self.assertEqual(list(found), ["transfer", "empty", "account"])
            self.assertEqual(found["transfer"], relation_for(TRANSFER, committed)[1])
            self.assertEqual(found["account"], relation_for(ACCOUNT, committed)[1])
            self.assertEqual(found["empty"], ())

    def test_the_tables_are_a_new_dict(self):
        tables = {"empty": ()}
        found = tables_for(tables, ())
        found["empty"] = ((1, 1),)
        self.assertEqual(tables, {"empty": ()})


class AtLeast(unittest.TestCase):
    def check(self, *facts):
        facts = tuple([read_fact(fact) if isinstance(fact, str) else fact for fact in facts])
        names = sorted({name for fact in facts for name in names_of(fact)})
        for number in range(len(facts) + 2):
            fact = at_least(number, facts)
            self.assertLessEqual(set(names_of(fact)), set(names))
            for committed in all_outcomes(names):
                expected = sum([holds(part, committed) for part in facts]) >= number
                self.assertIs(holds(fact, committed), expected, (number, facts, committed))

    def test_no_facts(self):
        self.check()

    def test_names(self):
        for many in range(1, 9):
            self.check(*"abcdefgh"[:many])

    def test_the_same_fact_at_several_places(self):
        self.check("a", "a")
        self.check("a", "b", "a", "b", "a", "c")
        self.check(*["a and b"] * 8)
        self.check("a", "a", "b", "b", "c", "c", "d", "d")

    def test_facts_that_contradict_each_other(self):
        self.check("a", "not a")
        self.check("a", "not a", "b", "not b", "c")
        self.check("a and b", "not a", "a and not b", "not b", "b")
        self.check("not (a or b)", "a or b", "not not a")

    def test_constants(self):
        self.check("true")
        self.check("false", "true", "true")
        self.check("a", "true", "b", "false", "c", "true", "d", "false")
        self.check("a and true", "b or false", "false and c", "true or d", "not true", "not false", "a implies true")

    def test_parts_in_common(self):
        self.check("a and x", "a and y", "b and x", "b and y")
        self.check("a and b and c", "a and b", "a", "b and c", "c", "a and c", "not a and b")
        self.check("a and x", "a and y", "b and x", "b and y", "c and x", "c and y", "d", "not x")

    def test_facts_within_facts(self):
        self.check("(a or b) and c", "(a or b) and d", "a or b", "one of (a, b, c)", "a implies b implies c")
        self.check(("and", (("and", (("commits", "a"), ("commits", "b"))), ("commits", "a"))), "b", "a")

    def test_random_facts(self):
        rng = random.Random(10)
        for _ in range(150):
            self.check(*[random_fact(rng, "abcde", 2) for _ in range(rng.randrange(1, 9))])

    def test_many_names(self):
        """Eight facts of four names each, which are too many outcomes to go through."""
        rng = random.Random(11)
        facts = tuple([read_fact(f"a{n} and b{n} or c{n} and not d{n}") for n in range(8)])
        names = [f"{letter}{n}" for letter in "abcd" for n in range(8)]
        for number in range(10):
            fact = at_least(number, facts)
            for _ in range(50):
                committed = tuple([name for name in names if rng.random() < 0.6])
                self.assertIs(holds(fact, committed), sum([holds(part, committed) for part in facts]) >= number)

    def test_what_is_returned_can_be_passed_on(self):
        facts = tuple([("commits", name) for name in "abcde"])
        fact = at_least(3, facts)
        self.assertEqual(sorted(names_of(fact)), list("abcde"))
        known = learn(nothing_known(), fact)
        everything = mention(nothing_known(), tuple("abcde"))
        self.assertEqual(known, keep(everything, tuple([one for one in everything[2] if len(one) >= 3])))
        for committed in all_outcomes("abcde"):
            assigned = tuple([(name, name in committed) for name in "abcde"])
            self.assertIs(truth(fact, assigned), len(committed) >= 3)
        with self.assertRaises(Contradiction):
            learn(nothing_known(), at_least(6, facts))
        self.assertEqual(learn(nothing_known(), at_least(5, facts))[0], tuple([(name, True) for name in "abcde"]))


class Answers(LiftedCase):
    def facts_of(self, query):
        return dict(self.check_answer(RELATIONS, query)[1])

    def test_names(self):
        self.assertEqual(lifted_answer(("name", "transfer"), RELATIONS), TRANSFER)
        self.assertEqual(self.check_answer(RELATIONS, "empty"), EMPTY)

    def test_where(self):
        lifted = self.check_answer(RELATIONS, "transfer | where number > 1 and id < 7")
        self.assertEqual(lifted, (("number", "id"), TRANSFER[1][1:3]))
        self.check_answer(RELATIONS, "account | where false")
        self.check_answer(RELATIONS, "account | where owner = 'ada' or id = 4")
        self.check_answer(RELATIONS, "empty | where true")

    def test_select(self):
        lifted = self.check_answer(RELATIONS, "account | select name = owner, k = 1")
        self.assertEqual(lifted[0], ("name", "k"))
        self.assertEqual([row for row, _ in lifted[1]][:2], [("ada", 1), ("bob", 1)])
        self.check_answer(RELATIONS, "transfer | select id, double = id + id - 1")
        self.check_answer(RELATIONS, "empty | select id")

    def test_rows_that_give_the_same_row(self):
        facts = self.facts_of("account | select owner")
        self.assertTrue(holds(facts[("ada",)], ("a",)))
        self.assertTrue(holds(facts[("ada",)], ("b",)))
        self.assertFalse(holds(facts[("ada",)], ()))
        self.check_answer(RELATIONS, "transfer | select k = 1")
        self.check_answer(RELATIONS, "transfer | select minus_id = 0 - id")

    def test_joins_with_some_names_in_common(self):
        lifted = self.check_answer(RELATIONS, "transfer | join account")
        self.assertEqual(lifted[0], ("number", "id", "owner"))
        facts = dict(lifted[1])
        self.assertTrue(holds(facts[(1, 1, "ada")], ("a", "c")))
        self.assertFalse(holds(facts[(1, 1, "ada")], ("c",)))
        self.check_answer(RELATIONS, "account | join transfer")

    def test_joins_with_no_names_in_common(self):
        self.check_answer(RELATIONS, "account | join word")
        self.check_answer(RELATIONS, "word | join (transfer | select n = number)")

    def test_joins_with_all_names_in_common(self):
        self.check_answer(RELATIONS, "transfer | join other")
        self.check_answer(RELATIONS, "transfer | join transfer")
        self.check_answer(RELATIONS, "transfer | join (other | select id, number)")

    def test_union_and_minus(self):
        for word in ("union", "minus"):
            self.check_answer(RELATIONS, f"transfer | {word} other")
            self.check_answer(RELATIONS, f"other | {word} transfer")
            self.check_answer(RELATIONS, f"transfer | {word} transfer")
            self.check_answer(RELATIONS, f"transfer | {word} (other | where number = 3)")
        facts = self.facts_of("transfer | minus other")
        self.assertFalse(holds(facts[(1, 1)], ("b", "c")))
        self.assertTrue(holds(facts[(1, 1)], ("c",)))

    def test_matching_and_without(self):
        for word in ("matching", "without"):
            self.check_answer(RELATIONS, f"account | {word} transfer")
            self.check_answer(RELATIONS, f"transfer | {word} account")
            self.check_answer(RELATIONS, f"transfer | {word} other")
            self.check_answer(RELATIONS, f"account | {word} word")
            self.check_answer(RELATIONS, f"word | {word} (account | where id = 2)")
            self.check_answer(RELATIONS, f"account | {word} account")

    def test_relations_without_rows(self):
        for word in ("join", "union", "minus", "matching", "without"):
            self.check_answer(RELATIONS, f"transfer | {word} empty")
            self.check_answer(RELATIONS, f"empty | {word} transfer")
            self.check_answer(RELATIONS, f"empty | {word} empty")
        self.check_answer(RELATIONS, "account | without (word | where false)")
        self.check_answer(RELATIONS, "account | matching (word | where false)")

    def test_rows_that_are_never_or_always_there(self):
        constant = {
            "q": (("n",), pairs_of(((1,), "true"), ((2,), "false"), ((3,), "a or not a"), ((4,), "a and not a"))),
            "r": (("n",), pairs_of(((1,), "false"), ((2,), "true"), ((3,), "false"), ((4,), "true"))),
        }
        for text in ("q", "q | where n > 1", "q | select m = n - n", "q | join r", "q | union r", "q | minus r",
                     "r | minus q", "q | matching r", "q | without r", "q | matching (r | select k = n)",
                     "q | without (r | select k = n)"):
            self.check_answer(constant, text)

    def test_queries_of_several_stages(self):
        for text in (
                "transfer | join account | where owner = 'ada' | select number",
                "transfer | union other | minus (transfer | join other) | select id",
                "account | without (transfer | minus other) | select owner",
                "account | select owner | join (word | where word = 'y') | select owner",
                "transfer | matching (account | without word) | union other",
                "transfer | join (other | select id, m = number) | join account | select m, owner",
                "account | without (account | without (account | where id < 3))",
                "transfer | union other | union (transfer | where false) | select n = 1 | select m = n + n"):
            self.check_answer(RELATIONS, text)

    def test_three_operands_with_many_rows(self):
        rows = tuple([((n,), ("commits", name)) for n, name in enumerate("abcd")])
        relations = {"q": (("x",), rows), "r": (("y",), rows), "s": (("z",), rows), "t": (("w",), rows)}
        lifted = self.check_answer(relations, "q | join r | join s | join t")
        self.assertEqual(len(lifted[1]), 256)
        self.check_answer(relations, "q | join r | join (s | join t) | select n = x + y + z + w")
        self.check_answer(relations, "q | join r | without (s | join t | where z = w and w > 2)")

    def test_too_many_names_for_all_outcomes(self):
        rng = random.Random(12)
        relations = {}
        for letter in "qrst":
            rows = [((n,), read_fact(f"{letter}{n} and {letter}a or not {letter}b")) for n in range(4)]
            relations[letter] = (("x",), tuple(rows))
        query = read_query("q | minus r | union (s | without t) | select y = x - 2")
        lifted = lifted_answer(query, relations)
        names = self.names_in_facts([pairs for _, pairs in relations.values()])
        self.assertEqual(len(names), 24)
        for _ in range(100):
            committed = tuple([name for name in names if rng.random() < 0.5])
            rows = {name: {row[0] for row in relation_for(relations[name], committed)[1]} for name in "qrst"}
            left = (rows["q"] - rows["r"]) | (rows["s"] - rows["t"])
            self.assertEqual(relation_for(lifted, committed), (("y",), tuple(sorted([(x - 2,) for x in left]))))

    def test_random_queries(self):
        rng = random.Random(13)
        shapes = {name: self.shape_of_relation(relation) for name, relation in RELATIONS.items()}
        for _ in range(400):
            query = self.random_query(rng, shapes, 3)
            relations = {name: self.with_random_facts(rng, RELATIONS[name]) for name in names_in(query)}
            self.check_answer(relations, query)

    def shape_of_relation(self, relation):
        names, pairs = relation
        row = pairs[0][0] if pairs else (1,) * len(names)
        kinds = [("string",) if isinstance(value, str) else ("integer", 9) for value in row]
        return (tuple(zip(names, kinds)), 4)

    def with_random_facts(self, rng, relation):
        names, pairs = relation
        return (names, tuple([(row, random_fact(rng, "abc", 2)) for row, _ in pairs]))

    def random_query(self, rng, shapes, operands):
        query = ("name", rng.choice(list(shapes)))
        for word in rng.choices(("where", "select", "join", "union", "minus", "matching", "without"), k=3):
            columns = [name for name, _ in shape_of(query, shapes)[0]]
            if word == "where":
                numbers = [name for name, kind in shape_of(query, shapes)[0] if kind != ("string",)]
                if numbers:
                    place = (("+", ("column", rng.choice(numbers))),)
                    query = (word, query, ("compare", "<", place, (("+", ("integer", rng.randrange(5))),)))
            elif word == "select":
                chosen = rng.sample(columns, rng.randrange(1, len(columns) + 1))
                query = (word, query, tuple([(name, (("+", ("column", name)),)) for name in chosen]))
            elif operands:
                operands -= 1
                query = self.with_operand(rng, shapes, word, query)
        return query

    def with_operand(self, rng, shapes, word, query):
        names = list(shapes)
        if word in ("union", "minus"):
            columns = [(name, kind[0]) for name, kind in shape_of(query, shapes)[0]]
            names = [name for name in names if [(one, kind[0]) for one, kind in shapes[name][0]] == columns]
        operand = ("name", rng.choice(names)) if names else query
        return (word, query, operand)


class Larger(LiftedCase):
    def test_every_row_of_the_table_with_every_pair_of_relations(self):
        for left, right in itertools.product(("account", "transfer", "other", "word"), repeat=2):
            for word in ("join", "matching", "without"):
                self.check_answer(RELATIONS, (word, ("name", left), ("name", right)))


if __name__ == "__main__":
    unittest.main()

import random
import unittest

from building import is_number, named
from indoubt.costs import node_count, potential, rows_made, rows_read
from indoubt.plans import apply_step, check_plan, plan_for
from indoubt.printer import show_query
from indoubt.queries import answer_of
from indoubt.reader import read_query, read_schema
from indoubt.schemas import check_schema, empty_tables, relations_of, shapes_of
from indoubt.shapes import shape_of
from random_queries import SCHEMA as RANDOM_SCHEMA
from random_queries import SHAPES as RANDOM_SHAPES
from random_queries import random_query, random_tables

RULES = (
    "drop-true", "split-and", "into-union", "into-minus", "into-matching", "into-without", "into-join-left",
    "into-join-right", "into-select", "into-group", "same-union", "same-join", "same-matching", "reference-matching",
    "reference-join",
)
SCHEMA = read_schema("""
table account (id integer, owner string) key id limit 9;
table transfer (number integer, id integer, amount integer) key number limit 9
    check amount > 0 reference number to account reference id to account;
table pair (x integer, y integer) key x, y limit 9;
table link (n integer, x integer, y integer) key n limit 9 reference x, y to pair;
table turned (n integer, x integer, y integer) key n limit 9 reference y, x to pair;
table owned (n integer, id integer, owner string) key n limit 9 reference id to account;
table paid (n integer, payer integer, id integer) key n limit 9 reference payer to account;
table free (id integer, amount integer) key id limit 9;
table whole (a integer, b integer) key b, a limit 9 reference b, a to whole;
table half (a integer, b integer) key a limit 9 reference a to half;
view recent = transfer | where number > 5;
view sums = transfer | group by id: amount = sum amount;
view large = transfer | select id, amount = amount + 900000;
""")


def positions_of(query, position=()):
    """All positions in the query, in the order in which the planner goes through them."""
    yield position
    if query[0] == "name":
        return
    yield from positions_of(query[1], position + (0,))
    if query[0] in ("join", "union", "minus", "matching", "without"):
        yield from positions_of(query[2], position + (1,))


def slow_plan(schema, query):
    """The plan, found by trying all steps in the order of the document."""
    steps = []
    while True:
        tried = [(rule, position) for position in positions_of(query) for rule in RULES]
        step = next((step for step in tried if apply_step(schema, query, step) is not None), None)
        if step is None:
            return query, tuple(steps)
        query = apply_step(schema, query, step)
        steps.append(step)


class RuleCase(unittest.TestCase):
    def check(self, rule, before, after):
        """The rule makes `after` of `before`, alone and inside other queries."""
        query, made = read_query(before), read_query(after)
        with self.subTest(rule=rule, query=before):
            self.assertEqual(apply_step(SCHEMA, query, (rule, ())), made)
            for outside, position in ((self.below, (0,)), (self.operand, (1,)), (self.far_inside, (0, 1, 0))):
                self.assertEqual(apply_step(SCHEMA, outside(query), (rule, position)), outside(made))
                self.assertIsNone(apply_step(SCHEMA, outside(query), (rule, position + (2,))))

    def below(self, query):
        return ("where", query, ("false",))

    def operand(self, query):
        return ("join", named("pair"), query)

    def far_inside(self, query):
        return ("without", ("matching", named("pair"), ("where", query, ("false",))), named("account"))

    def check_not(self, rule, *texts):
        for text in texts:
            with self.subTest(rule=rule, query=text):
                self.assertIsNone(apply_step(SCHEMA, read_query(text), (rule, ())))


class Rules(RuleCase):
    def test_the_schema(self):
        check_schema(SCHEMA)

    def test_drop_true(self):
        self.check("drop-true", "account | where true", "account")
        self.check("drop-true", "account | union account | where true", "account | union account")
        self.check_not("drop-true", "account", "account | where false", "account | where true and true",
                       "account | where not false", "account | where true | select id")

    def test_split_and(self):
        self.check("split-and", "pair | where x = 1 and y = 2", "pair | where x = 1 | where y = 2")
        self.check("split-and", "pair | where x = 1 and (y = 2 and x = 3) and true",
                   "pair | where x = 1 | where y = 2 and x = 3 | where true")
        self.check("split-and", "pair | where y = 0 | where x = 1 and y = 2",
                   "pair | where y = 0 | where x = 1 | where y = 2")
        self.check_not("split-and", "pair", "pair | where x = 1", "pair | where x = 1 or y = 2",
                       "pair | where not (x = 1 and y = 2)", "pair | where x = 1 and y = 2 | where true")

    def test_into_union(self):
        self.check("into-union", "pair | union (link | select x, y) | where x = 1",
                   "pair | where x = 1 | union (link | select x, y | where x = 1)")
        self.check("into-union", "pair | union pair | where true", "pair | where true | union (pair | where true)")
        self.check_not("into-union", "pair | union pair", "pair | minus pair | where x = 1",
                       "pair | where x = 1 | union pair", "pair | union pair | where x = 1 | where y = 1")

    def test_into_the_left_side(self):
        for word in ("minus", "matching", "without"):
            self.check("into-" + word, f"pair | {word} (pair | where y = 2) | where x = 1 or true",
                       f"pair | where x = 1 or true | {word} (pair | where y = 2)")
            for other in ("minus", "matching", "without", "union", "join"):
                if other != word:
                    self.check_not("into-" + word, f"pair | {other} pair | where x = 1")
            self.check_not("into-" + word, f"pair | {word} pair", f"pair | where x = 1 | {word} pair",
                           "pair | where x = 1", f"pair | {word} pair | select x | where x = 1")

    def test_into_join_left(self):
        self.check("into-join-left", "transfer | join account | where amount > 10",
                   "transfer | where amount > 10 | join account")
        self.check("into-join-left", "transfer | join account | where id = 1", "transfer | where id = 1 | join account")
        self.check("into-join-left", "transfer | join account | where false", "transfer | where false | join account")
        self.check("into-join-left", "transfer | join account | where amount - id > 1 and number = 2",
                   "transfer | where amount - id > 1 and number = 2 | join account")
        self.check_not("into-join-left", "transfer | join account | where owner = 'ada'", "transfer | join account",
                       "transfer | join account | where amount = 1 or owner = 'ada'",
                       "transfer | where amount > 10 | join account", "transfer | matching account | where amount > 10")

    def test_into_join_right(self):
        self.check("into-join-right", "transfer | join account | where owner = 'ada'",
                   "transfer | join (account | where owner = 'ada')")
        self.check("into-join-right", "transfer | join account | where id = 1",
                   "transfer | join (account | where id = 1)")
        self.check("into-join-right", "transfer | join account | where true",
                   "transfer | join (account | where true)")
        self.check_not("into-join-right", "transfer | join account | where amount = 1", "transfer | join account",
                       "transfer | join account | where amount = 1 or owner = 'ada'",
                       "transfer | minus transfer | where amount > 10")

    def test_bounds_that_one_side_of_a_join_goes_beyond(self):
        schema = read_schema("""
            table single (id integer, amount integer) key id limit 1;
            table many (id integer, amount integer) key id limit 50; table times (x integer) key x limit 20;""")
        left = "single"
        # The sum of the sums has the bound 1000000000000, and the amount of the left side the bound 1000000.
        right = "many | join times | group by id, x: s = sum amount | group by id: amount = sum s"
        for formula in ("amount + 1 > 0", "id = 1 and amount - id < 5", "amount + amount = id or true"):
            query = read_query(f"{left} | join ({right}) | where {formula}")
            shape_of(query, shapes_of(schema))
            self.assertEqual(
                apply_step(schema, query, ("into-join-left", ())),
                read_query(f"{left} | where {formula} | join ({right})"))
            self.assertIsNone(apply_step(schema, query, ("into-join-right", ())))
        query = read_query(f"{left} | join ({right}) | where amount > 0 and id = 1")
        self.assertEqual(
            apply_step(schema, query, ("into-join-right", ())),
            read_query(f"{left} | join ({right} | where amount > 0 and id = 1)"))

    def test_into_select(self):
        self.check("into-select", "pair | select a = x, b = y | where a = 1 or b > a + 1",
                   "pair | where x = 1 or y > x + 1 | select a = x, b = y")
        self.check("into-select", "pair | select x = y, y = x | where not x - y = 1",
                   "pair | where not y - x = 1 | select x = y, y = x")
        self.check("into-select", "pair | select a = x, b = y + 1 | where a = 1 implies a = a - 1",
                   "pair | where x = 1 implies x = x - 1 | select a = x, b = y + 1")
        self.check("into-select", "account | select w = owner, v = owner | where w = v and (w < 'x' or true)",
                   "account | where owner = owner and (owner < 'x' or true) | select w = owner, v = owner")
        self.check_not("into-select", "pair | select a = x, b = y + 1 | where b = 1",
                       "pair | select a = 1 | where a = 1",
                       "pair | select a = x, b = 1 | where a = 1 and b = 1", "pair | select a = 'x' | where a = 'x'",
                       "pair | select a = -5 | where a < 1", "pair | select a = x", "pair | where x = 1 | select x")

    def test_into_select_without_columns(self):
        self.check("into-select", "pair | select a = 1 | where 1 < 2", "pair | where 1 < 2 | select a = 1")
        self.check("into-select", "pair | select a = 'x' | where false", "pair | where false | select a = 'x'")

    def test_into_group(self):
        self.check("into-group", "transfer | group by id, number: n = count | where id = 1 or number = 2",
                   "transfer | where id = 1 or number = 2 | group by id, number: n = count")
        self.check_not("into-group", "transfer | group by id: n = count | where n = 1",
                       "transfer | group by id: n = count | where id = 1 and n = 1",
                       "transfer | group by id: n = count",
                       "transfer | group: id = count | where id = 1",
                       "transfer | group by id: s = sum id | where s = 1")

    def test_into_group_without_columns(self):
        self.check("into-group", "pair | group by x: n = count | where 1 > 2",
                   "pair | where 1 > 2 | group by x: n = count")
        self.check("into-group", "pair | group: n = count | where false", "pair | where false | group: n = count")
        self.check("into-group", "pair | group: n = count | where 'a' = 'a'",
                   "pair | where 'a' = 'a' | group: n = count")

    def test_two_queries_that_are_the_same(self):
        for word in ("union", "join", "matching"):
            rule = "same-" + word
            self.check(rule, f"pair | {word} pair", "pair")
            self.check(rule, f"pair | where x = 1 | {word} (pair | where x = 1)", "pair | where x = 1")
            self.check_not(rule, f"pair | where x = 1 | {word} pair", f"pair | {word} (pair | where true)",
                           f"pair | {word} pair | where true", f"pair | where x = 1 | {word} (pair | where 1 = x)")
            for other in ("union", "join", "matching", "minus", "without"):
                if other != word:
                    self.check_not(rule, f"pair | {other} pair")

    def test_reference_matching(self):
        self.check("reference-matching", "transfer | matching account", "transfer")
        self.check("reference-matching", "link | matching pair", "link")
        self.check("reference-matching", "whole | where a = 1 | matching whole", "whole | where a = 1")
        self.check_not(
            "reference-matching", "account | matching transfer", "turned | matching pair", "owned | matching account",
            "paid | matching account", "free | matching account", "half | where a = 1 | matching half",
            "transfer | matching (account | where true)", "transfer | without account", "transfer | join account",
            "recent | matching account", "transfer | matching recent", "transfer | matching account | where true",
            "transfer | select id | matching account", "link | matching account", "transfer")

    def test_restricted_tables(self):
        for stages in ("where amount = 1", "minus transfer", "matching free", "without free", "minus recent",
                       "where id = 1 | minus (transfer | where true) | matching pair | without account"):
            self.check("reference-matching", f"transfer | {stages} | matching account", f"transfer | {stages}")
            self.check("reference-join", f"transfer | {stages} | join account | select id, amount",
                       f"transfer | {stages} | select id, amount")
        for stages in ("select number, id, amount", "join free", "union transfer", "union (transfer | where true)",
                       "group by id: n = count"):
            self.check_not("reference-matching", f"transfer | {stages} | matching account")
            self.check_not("reference-join", f"transfer | {stages} | join account | select id")

    def test_reference_join(self):
        self.check("reference-join", "transfer | join account | select number, amount",
                   "transfer | select number, amount")
        self.check("reference-join", "transfer | join account | select owner = id + 1, k = 5",
                   "transfer | select owner = id + 1, k = 5")
        self.check("reference-join", "link | join pair | select x, y", "link | select x, y")
        self.check("reference-join", "whole | where a = 1 | join whole | select b", "whole | where a = 1 | select b")
        self.check_not(
            "reference-join", "transfer | join account | select owner", "transfer | join account",
            "transfer | join account | select id, k = owner", "account | join transfer | select id",
            "turned | join pair | select x", "owned | join account | select n", "paid | join account | select n",
            "transfer | join (account | where true) | select id", "transfer | matching account | select id",
            "transfer | join account | group by id: n = count", "recent | join account | select id",
            "transfer | join recent | select id", "transfer | join account | where true | select id",
            "half | where a = 1 | join half | select a", "transfer | join account | select id | select id")


class Positions(unittest.TestCase):
    QUERY = read_query("pair | where true | union (pair | where true | where true)")

    def test_positions(self):
        for position, text in (
                ((0,), "pair | union (pair | where true | where true)"),
                ((1,), "pair | where true | union (pair | where true)"),
                ((1, 0), "pair | where true | union (pair | where true)")):
            self.assertEqual(apply_step(SCHEMA, self.QUERY, ("drop-true", position)), read_query(text))

    def test_positions_where_the_rule_does_not_fit(self):
        for position in ((), (0, 0), (1, 0, 0)):
            for rule in RULES:
                self.assertIsNone(apply_step(SCHEMA, self.QUERY, (rule, position)))

    def test_positions_that_denote_nothing(self):
        for position in ((2,), (0, 1), (0, 2), (1, 1), (0, 0, 0), (0, 0, 1), (1, 0, 0, 0), (1, 0, 1), (3, 0), (1000,)):
            for rule in RULES:
                self.assertIsNone(apply_step(SCHEMA, self.QUERY, (rule, position)))
        for position in ((0,), (1,), (2,), (0, 0), (1, 1, 1), (0,) * 100):
            for rule in RULES:
                self.assertIsNone(apply_step(SCHEMA, named("pair"), (rule, position)))

    def test_stages_without_an_operand_have_no_position_1(self):
        for stage in ("where true", "select x", "group by x: n = count"):
            query = read_query(f"pair | where true | {stage}")
            self.assertIsNone(apply_step(SCHEMA, query, ("drop-true", (1,))))
            self.assertIsNotNone(apply_step(SCHEMA, query, ("drop-true", (0,))))

    def test_words_that_are_no_rules(self):
        query = read_query("pair | where true")
        for rule in ("", "drop", "drop-tru", "drop-true ", "Drop-true", "where", "same-minus", "into-", "name"):
            self.assertIsNone(apply_step(SCHEMA, query, (rule, ())))


class Planning(unittest.TestCase):
    def check(self, before, after, steps):
        with self.subTest(query=before):
            query = read_query(before)
            plan = plan_for(SCHEMA, query)
            self.assertEqual((show_query(plan[0]), plan[1]), (after, steps))
            self.assertEqual(plan[0], read_query(after))
            self.assertIs(check_plan(SCHEMA, query, plan), True)

    def test_the_examples(self):
        self.check("(transfer | join account) | where amount > 10 and owner = 'ada' | select number, amount",
                   "transfer | where amount > 10 | join (account | where owner = 'ada') | select number, amount",
                   (("split-and", (0,)), ("into-join-left", (0, 0)), ("into-join-right", (0,))))
        self.check("transfer | where amount > 10 | join account | select number, amount",
                   "transfer | where amount > 10 | select number, amount", (("reference-join", ()),))

    def test_the_example_of_the_interface(self):
        schema = read_schema(
            "table account (id integer, owner string) key id limit 9; table transfer (number integer, id integer,"
            " amount integer) key number limit 9 reference id to account;")
        text = "transfer | join account | where amount > 10 and owner = 'ada' | select number, amount"
        rewritten, steps = plan_for(schema, read_query(text))
        self.assertEqual((show_query(rewritten), steps), (
            "transfer | where amount > 10 | join (account | where owner = 'ada') | select number, amount",
            (('split-and', (0,)), ('into-join-left', (0, 0)), ('into-join-right', (0,)))))

    def test_nothing_to_do(self):
        for text in ("pair", "pair | where x = 1", "pair | join (link | where n = 1) | select x, y, n"):
            self.check(text, text, ())

    def test_the_first_of_two_rules_that_fit_is_taken(self):
        self.check("transfer | join account | where id = 1", "transfer | where id = 1 | join account",
                   (("into-join-left", ()),))
        self.check("pair | join pair | where x = 1", "pair | where x = 1 | join pair", (("into-join-left", ()),))
        self.check("whole | matching whole", "whole", (("same-matching", ()),))
        self.check("pair | union pair | where true", "pair", (("drop-true", ()), ("same-union", ())))
        self.check("pair | select a = 1 | where true", "pair | select a = 1", (("drop-true", ()),))

    def test_the_first_position_is_taken(self):
        self.check("pair | where true | union (pair | where true | where true)", "pair",
                   (("drop-true", (0,)), ("drop-true", (1,)), ("drop-true", (1,)), ("same-union", ())))
        self.check("pair | where true | union pair | where true", "pair",
                   (("drop-true", ()), ("drop-true", (0,)), ("same-union", ())))
        self.check("pair | join (link | where true) | where true | select x | where true",
                   "pair | join link | select x", (("drop-true", ()), ("drop-true", (0,)), ("drop-true", (0, 1))))

    def test_a_step_can_make_an_earlier_position_fit(self):
        self.check("pair | union (pair | where true) | select x", "pair | select x",
                   (("drop-true", (0, 1)), ("same-union", (0,))))
        self.check("pair | union (pair | where x = 1) | where y = 2 | where true | where x = 3",
                   "pair | where y = 2 | where x = 3 | union (pair | where x = 1 | where y = 2 | where x = 3)",
                   (("drop-true", (0,)), ("into-union", (0,)), ("into-union", ())))

    def test_as_slow_planning_says(self):
        rng = random.Random(1)
        used = {}
        for _ in range(300):
            query = random_query(rng, rng.randrange(8))
            plan = plan_for(RANDOM_SCHEMA, query)
            with self.subTest(query=show_query(query)):
                self.assertEqual(plan, slow_plan(RANDOM_SCHEMA, query))
                self.assertIs(check_plan(RANDOM_SCHEMA, query, plan), True)
                self.assertEqual(plan_for(RANDOM_SCHEMA, plan[0]), (plan[0], ()))
            used.update(dict(plan[1]))
        self.assertEqual(sorted(used), sorted(RULES))

    def test_large_queries(self):
        equal = tuple([is_number("x", number) for number in range(40)])
        unions = named("pair")
        for _ in range(11):
            unions = ("union", unions, ("where", named("pair"), ("or", equal[:2])))
        rewritten, steps = plan_for(SCHEMA, ("where", unions, ("and", equal[:18])))
        self.assertEqual(len(steps), 1 + 11 * 18)
        self.assertEqual(rewritten[:1] + rewritten[1][:1] + rewritten[2][:1], ("union", "union", "where"))
        self.assertIs(check_plan(SCHEMA, ("where", unions, ("and", equal[:18])), (rewritten, steps)), True)
        self.assertEqual(plan_for(SCHEMA, rewritten), (rewritten, ()))
        self.assertEqual(node_count(rewritten), 23)
        self.assertLess(potential(rewritten), potential(("where", unions, ("and", equal[:18]))))
        self.assertEqual(read_query(show_query(rewritten)), rewritten)
        relations = relations_of(SCHEMA, dict(empty_tables(SCHEMA), pair=((0, 1), (1, 1))))
        self.assertEqual((rows_made(rewritten, relations), rows_read(rewritten, relations)), (0, 0))
        shape_of(rewritten, shapes_of(SCHEMA))


class RightPlans(unittest.TestCase):
    QUERY = read_query("transfer | join account | where amount > 10 and owner = 'ada' | select number, amount")

    def check(self, plan, expected):
        self.assertIs(check_plan(SCHEMA, self.QUERY, plan), expected)

    def test_the_plan_of_the_planner(self):
        self.check(plan_for(SCHEMA, self.QUERY), True)

    def test_a_plan_without_steps(self):
        self.check((self.QUERY, ()), True)
        self.check((self.QUERY[1], ()), False)
        self.check((plan_for(SCHEMA, self.QUERY)[0], ()), False)

    def test_a_step_too_few(self):
        rewritten, steps = plan_for(SCHEMA, self.QUERY)
        for number in range(len(steps)):
            self.check((rewritten, steps[:number] + steps[number + 1:]), False)

    def test_a_doubled_step(self):
        rewritten, steps = plan_for(SCHEMA, self.QUERY)
        for number in range(len(steps)):
            self.check((rewritten, steps[:number] + steps[number:number + 1] + steps[number:]), False)

    def test_exchanged_steps(self):
        rewritten, steps = plan_for(SCHEMA, self.QUERY)
        self.check((rewritten, (steps[1], steps[0], steps[2])), False)
        self.check((rewritten, (steps[0], steps[2], steps[1])), False)
        self.check((rewritten, steps[::-1]), False)

    def test_another_rewritten_query(self):
        rewritten, steps = plan_for(SCHEMA, self.QUERY)
        for other in (self.QUERY, rewritten[1], ("where", rewritten, ("true",)), named("pair")):
            self.check((other, steps), False)

    def test_a_plan_that_the_planner_would_not_make(self):
        query = read_query("transfer | join account | where id = 1")
        made = read_query("transfer | join (account | where id = 1)")
        self.assertIs(check_plan(SCHEMA, query, (made, (("into-join-right", ()),))), True)
        self.assertIs(check_plan(SCHEMA, query, (made, (("into-join-left", ()),))), False)

    def test_steps_that_cannot_be_applied(self):
        for step in (("split-and", ()), ("no rule", (0,)), ("split-and", (0, 0)), ("split-and", (7,))):
            self.check((self.QUERY, (step,)), False)
            self.check((self.QUERY, (step, ("split-and", (0,)))), False)


class WhatHoldsOfPlans(unittest.TestCase):
    """Random queries: what each step keeps, and what it makes smaller."""

    def test_each_step(self):
        rng = random.Random(2)
        for _ in range(250):
            query = random_query(rng, rng.randrange(8))
            good = relations_of(RANDOM_SCHEMA, random_tables(rng, True))
            any_tables = relations_of(RANDOM_SCHEMA, random_tables(rng, False))
            for step in plan_for(RANDOM_SCHEMA, query)[1]:
                changed = apply_step(RANDOM_SCHEMA, query, step)
                with self.subTest(query=show_query(query), step=step):
                    self.check_shapes(query, changed)
                    self.check_costs(query, changed, good)
                    self.assertEqual(answer_of(changed, good), answer_of(query, good))
                    if not step[0].startswith("reference"):
                        self.assertEqual(answer_of(changed, any_tables), answer_of(query, any_tables))
                query = changed

    def test_any_steps(self):
        rng = random.Random(3)
        for _ in range(100):
            query = random_query(rng, rng.randrange(8))
            good = relations_of(RANDOM_SCHEMA, random_tables(rng, True))
            answer = answer_of(query, good)
            steps = []
            start = query
            while True:
                tried = [(rule, position) for position in positions_of(query) for rule in RULES]
                possible = [step for step in tried if apply_step(RANDOM_SCHEMA, query, step) is not None]
                if not possible:
                    break
                steps.append(rng.choice(possible))
                changed = apply_step(RANDOM_SCHEMA, query, steps[-1])
                self.check_shapes(query, changed)
                self.check_costs(query, changed, good)
                query = changed
                self.assertEqual(answer_of(query, good), answer)
            self.assertIs(check_plan(RANDOM_SCHEMA, start, (query, tuple(steps))), True)

    def check_shapes(self, query, changed):
        columns, most = shape_of(query, RANDOM_SHAPES)
        new_columns, new_most = shape_of(changed, RANDOM_SHAPES)
        self.assertLessEqual(new_most, most)
        self.assertEqual([(name, kind[0]) for name, kind in new_columns], [(name, kind[0]) for name, kind in columns])
        for (_, kind), (_, new_kind) in zip(columns, new_columns):
            self.assertLessEqual(new_kind[1:], kind[1:])

    def check_costs(self, query, changed, relations):
        self.assertLess(potential(changed), potential(query))
        self.assertLessEqual(node_count(changed), node_count(query))
        self.assertLessEqual(rows_made(changed, relations), rows_made(query, relations))
        self.assertLessEqual(rows_read(changed, relations), rows_read(query, relations))

    def test_steps_on_references_need_the_constraints(self):
        query = read_query("transfer | matching account")
        tables = {table[0]: () for table in SCHEMA[0]}
        tables["transfer"] = ((1, 2, 3),)
        relations = relations_of(SCHEMA, tables)
        changed = apply_step(SCHEMA, query, ("reference-matching", ()))
        self.assertNotEqual(answer_of(changed, relations), answer_of(query, relations))


if __name__ == "__main__":
    unittest.main()

import copy
import unittest

from indoubt import conditions, costs, facts, outcomes, plans, printer, reader, tokens
from indoubt.errors import Contradiction, TextError, TooManyUndecided
from indoubt.schemas import relations_of

SCHEMA_TEXT = "table t (a integer, b integer) key a limit 9 reference a to t; view v = t | where a = 1; deny d = v;"
SCHEMA = reader.read_schema(SCHEMA_TEXT)
QUERY = reader.read_query("t | union (t | where true) | where a = 1 and b = 2 | select a")
RELATIONS = relations_of(SCHEMA, {"t": ((1, 2), (3, 4))})
FACT = reader.read_fact("a implies not one of (b, c)")
KNOWN = outcomes.learn(outcomes.nothing_known(), FACT)
PLAN = plans.plan_for(SCHEMA, QUERY)
CONDITION = conditions.condition_of(KNOWN[1], KNOWN[2], KNOWN[2][:2])
CALLS = (
    (plans.apply_step, (SCHEMA, QUERY, ("split-and", (0,)))), (plans.apply_step, (SCHEMA, QUERY, ("no", (1, 2)))),
    (plans.plan_for, (SCHEMA, QUERY)), (plans.check_plan, (SCHEMA, QUERY, PLAN)),
    (plans.check_plan, (SCHEMA, QUERY, (QUERY, PLAN[1]))),
    (costs.formula_size, (QUERY[1][2],)), (costs.node_count, (QUERY,)), (costs.potential, (QUERY,)),
    (costs.rows_made, (QUERY, RELATIONS)), (costs.rows_read, (QUERY, RELATIONS)),
    (facts.names_of, (FACT,)), (facts.holds, (FACT, ("a", "b"))),
    (outcomes.mention, (KNOWN, ("a", "x", "x"))), (outcomes.mention, (KNOWN, tuple("defgh"))),
    (outcomes.keep, (KNOWN, KNOWN[2][:2])), (outcomes.keep, (KNOWN, ())),
    (outcomes.learn, (KNOWN, ("commits", "a"))), (outcomes.learn, (KNOWN, ("false",))),
    (conditions.condition_of, (KNOWN[1], KNOWN[2], KNOWN[2][1:3])), (conditions.holds_in, (CONDITION, ("a",))),
    (conditions.fact_of, (CONDITION,)),
    (tokens.tokens_of, ("a = 1",)), (tokens.tokens_of, ("a = #",)), (tokens.is_name, ("abc",)),
    (reader.read_schema, (SCHEMA_TEXT,)), (reader.read_query, ("t | where",)), (reader.read_script, ("return t;",)),
    (reader.read_fact, ("a and b",)), (printer.show_schema, (SCHEMA,)), (printer.show_query, (QUERY,)),
    (printer.show_script, ((("return", QUERY),),)), (printer.show_fact, (FACT,)),
)


class Arguments(unittest.TestCase):
    def result(self, function, arguments):
        try:
            return function(*arguments)
        except (Contradiction, TextError, TooManyUndecided) as error:
            return type(error), vars(error)

    def test_no_call_changes_its_arguments(self):
        for function, arguments in CALLS:
            with self.subTest(function=function.__name__, arguments=arguments):
                before = copy.deepcopy(arguments)
                first = self.result(function, arguments)
                self.assertEqual(arguments, before)
                self.assertEqual(repr(arguments), repr(before))
                self.assertEqual(self.result(function, arguments), first)


if __name__ == "__main__":
    unittest.main()

import copy
import unittest

from building import execute, learn, prepare
from indoubt import (
    certificates, conditions, costs, facts, history, inquiries, lifted, logs, outcomes, plans, printer, promises,
    reader, tokens,
)
from indoubt.engine import Database
from indoubt.errors import IndoubtError
from indoubt.nets import Net
from indoubt.schemas import relations_of

SCHEMA_TEXT = "table t (a integer, b integer) key a limit 9 reference a to t; view v = t | where a = 1; deny d = v;"
SCHEMA = reader.read_schema(SCHEMA_TEXT)
QUERY = reader.read_query("t | union (t | where true) | where a = 1 and b = 2 | select a")
RELATIONS = relations_of(SCHEMA, {"t": ((1, 2), (3, 4))})
FACT = reader.read_fact("a implies not one of (b, c)")
KNOWN = outcomes.learn(outcomes.nothing_known(), FACT)
PLAN = plans.plan_for(SCHEMA, QUERY)
CONDITION = conditions.condition_of(KNOWN[1], KNOWN[2], KNOWN[2][:2])
TABLES = {"t": ((1, 1), (3, 1))}
LIFTED = {"t": (((1, 1), ("commits", "a")), ((3, 1), FACT))}
LIFTED_RELATIONS = {name: (("a", "b"), LIFTED["t"]) for name in ("t", "v")}
SCRIPT = reader.read_script("insert t (2, 1); update t set b = 3 where a = 3; return v;")
WRONG = reader.read_script("insert t ('x', 1);")
ENTRIES = (execute("insert t (1, 1);"), prepare("a", "delete t where true;"), learn("a or b"), ("execute", SCRIPT))
BEGINNING = ((("c", 5, True),), (("c",), ()), ({"t": ()}, {"t": ((3, 3),)}))
ROW = ("row", 2, ("name", "t"), (3, 3))
STRATEGY = ("ask", "a", ("result", 1), ("ask", "b", ("result", 0), ("result", 1)))
BOTH = ((0, SCRIPT), (1, reader.read_script("insert u (1);")))
OTHER_SCHEMA = reader.read_schema("table u (x integer) key x limit 2;")
CALLS = (
    (plans.apply_step, (SCHEMA, QUERY, ("split-and", (0,)))), (plans.apply_step, (SCHEMA, QUERY, ("no", (1, 2)))),
    (plans.plan_for, (SCHEMA, QUERY)), (plans.check_plan, (SCHEMA, QUERY, PLAN)),
    (plans.check_plan, (SCHEMA, QUERY, (QUERY, PLAN[1]))),
    (costs.formula_size, (QUERY[1][2],)), (costs.node_count, (QUERY,)), (costs.potential, (QUERY,)),
    (costs.rows_made, (QUERY, RELATIONS)), (costs.rows_read, (QUERY, RELATIONS)),
    (facts.names_of, (FACT,)), (facts.holds, (FACT, ("a", "b"))),
    (outcomes.mention, (KNOWN, ("a", "x", "x"))), (outcomes.mention, (KNOWN, tuple("defgh"))),
    (outcomes.keep, (KNOWN, KNOWN[2][:2])), (outcomes.keep, (KNOWN, ())),
    (outcomes.learn, (KNOWN, ("commits", "a"))), (outcomes.learn, (KNOWN, ("false",))),
    (conditions.condition_of, (KNOWN[1], KNOWN[2], KNOWN[2][1:3])), (conditions.holds_in, (CONDITION, ("a",))),
    (conditions.fact_of, (CONDITION,)),
    (lifted.relation_for, (LIFTED_RELATIONS["t"], ("a",))), (lifted.tables_for, (LIFTED, ("a",))),
    (lifted.at_least, (2, (FACT, ("commits", "a"), ("true",)))),
    (lifted.lifted_answer, (reader.read_query("t | union v | minus t"), LIFTED_RELATIONS)),
    (lifted.lifted_run, (SCHEMA, LIFTED, SCRIPT)),
    (lifted.lifted_run, (SCHEMA, LIFTED, reader.read_script("require v; delete t where true; require t;"))),
    (history.serial, (SCHEMA, TABLES, ENTRIES, ("a",))), (history.serial, (SCHEMA, TABLES, ENTRIES, ())),
    (history.admits, (SCHEMA, TABLES, ENTRIES, ("a",))),
    (certificates.truth, (FACT, (("a", True),))), (certificates.excludes, (SCHEMA, BEGINNING, ENTRIES, 2, ())),
    (certificates.excludes, (SCHEMA, BEGINNING, ENTRIES, 2, (("a", True), ("c", True)))),
    (certificates.claim_value, (SCHEMA, BEGINNING, ENTRIES, ROW, (("a", True), ("c", False)))),
    (certificates.check_certificate, (SCHEMA, BEGINNING, ENTRIES, ROW, ("ask", "a", ("holds",), ("excluded", 3)))),
    (certificates.settle, (SCHEMA, BEGINNING, ENTRIES, ROW)),
    (certificates.settle, (SCHEMA, BEGINNING, ENTRIES, ("fact", ("true",)))),
    (inquiries.cheapest, (("a", "b"), (("a",), ("b",), ()), (0, 2, 0), {"a": 1, "b": 5})),
    (inquiries.strategy_cost, (STRATEGY, {"a": 1, "b": 5, "c": 6})), (inquiries.follow, (STRATEGY, ("b",))),
    (promises.promise, ("a", CONDITION)), (logs.recover, ("begin",)), (logs.recover, ("begin\n",)),
    (tokens.tokens_of, ("a = 1",)), (tokens.tokens_of, ("a = #",)), (tokens.is_name, ("abc",)),
    (reader.read_schema, (SCHEMA_TEXT,)), (reader.read_query, ("t | where",)), (reader.read_script, ("return t;",)),
    (reader.read_fact, ("a and b",)), (printer.show_schema, (SCHEMA,)), (printer.show_query, (QUERY,)),
    (printer.show_script, ((("return", QUERY),),)), (printer.show_fact, (FACT,)),
)
# The calls of methods, on objects that are made anew for each of them.
METHOD_CALLS = (
    ("execute", (SCRIPT,)), ("execute", (WRONG,)), ("prepare", ("a", SCRIPT)), ("prepare", ("c", SCRIPT)),
    ("learn", (FACT,)), ("learn", (("false",),)), ("query", (QUERY,)), ("preview", (SCRIPT,)), ("inquire", (SCRIPT,)),
    ("report", (1,)), ("report", (2,)), ("tables_at", (1, ("c",))), ("tables_at", (1, ("a",))), ("snapshot", ()),
)
NET_CALLS = (
    ("execute", (0, SCRIPT)), ("execute", (1, SCRIPT)), ("prepare", ("a", BOTH)), ("prepare", ("t1", BOTH)),
    ("learn", (FACT,)), ("learn", (("false",),)), ("work", (0,)), ("deliver", (0, 1)), ("fall", (0, 0)),
    ("waiting", (1,)), ("is_level", (0,)), ("merged", ()), ("merged_schema", ()),
)


class Arguments(unittest.TestCase):
    def result(self, function, arguments):
        try:
            return function(*arguments)
        except IndoubtError as error:
            return type(error), vars(error)

    def call(self, function, arguments):
        """Calls the function, and makes sure that the arguments are unchanged, also if an error is raised."""
        before = copy.deepcopy(arguments)
        found = self.result(function, arguments)
        self.assertEqual(arguments, before)
        # Dicts are equal in any order; their names must keep their order, too.
        self.assertEqual(repr(arguments), repr(before))
        return found

    def test_no_call_changes_its_arguments(self):
        for function, arguments in CALLS:
            with self.subTest(function=function.__name__, arguments=arguments):
                first = self.call(function, arguments)
                self.assertEqual(self.result(function, arguments), first)

    def test_no_method_of_a_database_changes_its_arguments(self):
        for name, arguments in METHOD_CALLS:
            with self.subTest(method=name, arguments=arguments):
                beginning = copy.deepcopy(BEGINNING)
                database = Database(SCHEMA, beginning=beginning)
                database.execute(SCRIPT)
                self.call(getattr(database, name), arguments)
                self.assertEqual(beginning, BEGINNING)

    def test_no_method_of_a_net_changes_its_arguments(self):
        for name, arguments in NET_CALLS:
            with self.subTest(method=name, arguments=arguments):
                schemas = (SCHEMA, OTHER_SCHEMA)
                net = Net(schemas)
                net.prepare("t1", BOTH)
                net.work(0)
                net.work(1)
                self.call(getattr(net, name), arguments)
                self.assertEqual(schemas, (SCHEMA, OTHER_SCHEMA))

    def test_logs_do_not_change_databases(self):
        database = Database(SCHEMA, beginning=BEGINNING)
        database.prepare("a", SCRIPT)
        before = (tuple(database), database.known, database.snapshot(), database.beginning)
        for function in (logs.log_text, logs.snapshot_text):
            self.assertEqual(function(database), function(database))
        self.assertEqual((tuple(database), database.known, database.snapshot(), database.beginning), before)


if __name__ == "__main__":
    unittest.main()

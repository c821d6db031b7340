import importlib
import inspect
import unittest

# The arguments of each function of the interface, by the module under which the interface lists it.
INTERFACE = {
    "values": {"compare_values": "left right", "sorted_rows": "rows", "is_storable": "value word"},
    "formulas": {
        "kind_of": "expression columns", "check_formula": "formula columns", "evaluate": "expression names row",
        "satisfies": "formula names row", "columns_in": "formula",
    },
    "shapes": {"shape_of": "query shapes"},
    "queries": {"answer_of": "query relations", "names_in": "query", "agree": "left_names left right_names right"},
    "schemas": {
        "check_schema": "schema", "shapes_of": "schema", "relations_of": "schema tables",
        "can_store": "schema name row", "empty_tables": "schema",
    },
    "constraints": {"first_violation": "schema tables"},
    "scripts": {
        "check_script": "schema script", "run": "schema tables script", "tables_written": "script",
        "tables_read": "schema script", "conflicts": "schema first second",
    },
    "plans": {"apply_step": "schema query step", "plan_for": "schema query", "check_plan": "schema query plan"},
    "costs": {
        "formula_size": "formula", "node_count": "query", "potential": "query", "rows_made": "query relations",
        "rows_read": "query relations",
    },
    "facts": {"names_of": "fact", "holds": "fact committed"},
    "outcomes": {"nothing_known": "", "mention": "known names", "keep": "known outcomes", "learn": "known fact"},
    "conditions": {
        "condition_of": "undecided possible chosen", "holds_in": "condition outcome", "fact_of": "condition",
    },
    "tokens": {"tokens_of": "text", "is_name": "text"},
    "reader": {"read_schema": "text", "read_query": "text", "read_script": "text", "read_fact": "text"},
    "printer": {"show_schema": "schema", "show_query": "query", "show_script": "script", "show_fact": "fact"},
}


class Interface(unittest.TestCase):
    def test_functions_and_their_arguments(self):
        for file, functions in INTERFACE.items():
            module = importlib.import_module("indoubt." + file)
            for name, arguments in functions.items():
                with self.subTest(module=file, function=name):
                    function = getattr(module, name)
                    self.assertEqual(function.__module__, "indoubt." + file)
                    self.assertEqual(list(inspect.signature(function).parameters), arguments.split())


if __name__ == "__main__":
    unittest.main()

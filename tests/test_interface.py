import importlib
import inspect
import unittest

# The arguments of each function of the interface, by the module under which the interface lists it.
INTERFACE = {
    "values": {"compare_values": "left right", "sorted_rows": "rows", "is_storable": "value word"},
    "formulas": {
        "kind_of": "expression columns", "check_formula": "formula columns", "evaluate": "expression names row",
        "satisfies": "formula names row", "columns_in": "formula",
    },
    "shapes": {"shape_of": "query shapes"},
    "queries": {"answer_of": "query relations", "names_in": "query", "agree": "left_names left right_names right"},
    "schemas": {
        "check_schema": "schema", "shapes_of": "schema", "relations_of": "schema tables",
        "can_store": "schema name row", "empty_tables": "schema",
    },
    "constraints": {"first_violation": "schema tables"},
    "scripts": {
        "check_script": "schema script", "run": "schema tables script", "tables_written": "script",
        "tables_read": "schema script", "conflicts": "schema first second",
    },
    "plans": {"apply_step": "schema query step", "plan_for": "schema query", "check_plan": "schema query plan"},
    "costs": {
        "formula_size": "formula", "node_count": "query", "potential": "query", "rows_made": "query relations",
        "rows_read": "query relations",
    },
    "facts": {"names_of": "fact", "holds": "fact committed"},
    "outcomes": {"nothing_known": "", "mention": "known names", "keep": "known outcomes", "learn": "known fact"},
    "conditions": {
        "condition_of": "undecided possible chosen", "holds_in": "condition outcome", "fact_of": "condition",
    },
    "lifted": {
        "relation_for": "lifted committed", "tables_for": "tables committed", "at_least": "number facts",
        "lifted_answer": "query relations", "lifted_run": "schema tables script",
    },
    "history": {"serial": "schema tables entries committed", "admits": "schema tables entries committed"},
    "certificates": {
        "truth": "fact assigned", "excludes": "schema beginning entries number assigned",
        "claim_value": "schema beginning entries claim assigned",
        "check_certificate": "schema beginning entries claim certificate", "settle": "schema beginning entries claim",
    },
    "inquiries": {
        "cheapest": "undecided possible results costs", "strategy_cost": "strategy costs",
        "follow": "strategy outcome",
    },
    "tokens": {"tokens_of": "text", "is_name": "text"},
    "reader": {"read_schema": "text", "read_query": "text", "read_script": "text", "read_fact": "text"},
    "printer": {"show_schema": "schema", "show_query": "query", "show_script": "script", "show_fact": "fact"},
    "logs": {"log_text": "database", "snapshot_text": "database", "recover": "text"},
    "promises": {"promise": "name vote"},
}
# The methods of each class of the interface with their arguments, where those behind a star are passed by keyword,
# and its properties.
CLASSES = {
    ("engine", "Database"): (
        {
            "__init__": "schema * beginning=None", "execute": "script * certain=False",
            "prepare": "name script * cost=1", "learn": "fact", "query": "query * version=None", "preview": "script",
            "report": "version", "tables_at": "version outcome", "inquire": "script", "snapshot": "", "__iter__": "",
            "__len__": "",
        },
        ("schema", "beginning", "version", "known", "pending"),
    ),
    ("nets", "Net"): (
        {
            "__init__": "schemas", "execute": "house script", "prepare": "name branches", "learn": "fact",
            "waiting": "house", "work": "house", "deliver": "letter house", "fall": "house kept", "__len__": "",
            "is_level": "house", "merged_schema": "", "merged": "", "__iter__": "",
        },
        ("schemas", "steps", "letters"),
    ),
}


def written(function):
    """The arguments of a method, without its object, as they are written above."""
    words = []
    for parameter in list(inspect.signature(function).parameters.values())[1:]:
        if parameter.kind == parameter.KEYWORD_ONLY and "*" not in words:
            words.append("*")
        default = "" if parameter.default is parameter.empty else f"={parameter.default}"
        words.append(parameter.name + default)
    return " ".join(words)


class Interface(unittest.TestCase):
    def test_functions_and_their_arguments(self):
        for file, functions in INTERFACE.items():
            module = importlib.import_module("indoubt." + file)
            for name, arguments in functions.items():
                with self.subTest(module=file, function=name):
                    function = getattr(module, name)
                    self.assertEqual(function.__module__, "indoubt." + file)
                    self.assertEqual(list(inspect.signature(function).parameters), arguments.split())

    def test_classes_and_their_methods(self):
        for (file, name), (methods, properties) in CLASSES.items():
            module = importlib.import_module("indoubt." + file)
            own = getattr(module, name)
            self.assertEqual(own.__module__, "indoubt." + file)
            for method, arguments in methods.items():
                with self.subTest(module=file, method=method):
                    # It must be defined in the class itself, not only in a base class.
                    self.assertEqual(written(vars(own)[method]), arguments)
            for attribute in properties:
                self.assertIsInstance(vars(own)[attribute], property)
        self.assertIn("__getitem__", vars(importlib.import_module("indoubt.nets").Net))


if __name__ == "__main__":
    unittest.main()

"""What the tests of lifted relations share: facts by their texts, and a comparison for all outcomes."""

import unittest

from indoubt.facts import holds, names_of
from indoubt.lifted import lifted_answer, lifted_run, relation_for, tables_for
from indoubt.queries import answer_of
from indoubt.reader import read_fact, read_query, read_schema, read_script
from indoubt.schemas import check_schema
from indoubt.scripts import check_script, run
from slow_search import all_outcomes


def pairs_of(*rows):
    """The pairs of rows and facts, which are given by their texts."""
    return tuple([(row, read_fact(text)) for row, text in rows])


class LiftedCase(unittest.TestCase):
    def names_in_facts(self, relations):
        """The names in the facts of some tuples of pairs."""
        return sorted({name for pairs in relations for _, fact in pairs for name in names_of(fact)})

    def check_pairs(self, pairs, names):
        """What holds of all tuples of pairs that are made of facts about the names."""
        self.assertIs(type(pairs), tuple)
        for pair in pairs:
            self.assertEqual((type(pair), len(pair)), (tuple, 2))
        rows = [row for row, _ in pairs]
        self.assertEqual(rows, sorted(set(rows)))
        for _, fact in pairs:
            self.assertLessEqual(set(names_of(fact)), set(names))

    def check_answer(self, relations, query):
        """Compares the lifted answer with the answer for all outcomes, and returns it."""
        if isinstance(query, str):
            query = read_query(query)
        names = self.names_in_facts([pairs for _, pairs in relations.values()])
        lifted = lifted_answer(query, relations)
        self.check_pairs(lifted[1], names)
        for committed in all_outcomes(names):
            becoming = {name: relation_for(relation, committed) for name, relation in relations.items()}
            self.assertEqual(relation_for(lifted, committed), answer_of(query, becoming), (query, committed))
        return lifted

    def check_run(self, schema, tables, script):
        """Compares the lifted run with the run for all outcomes.

        Returns the lifted tables, the success, and the set of the results of the run.
        """
        if isinstance(schema, str):
            schema = read_schema(schema)
            check_schema(schema)
        if isinstance(script, str):
            script = read_script(script)
            check_script(schema, script)
        names = self.names_in_facts(tables.values())
        after, success = lifted_run(schema, tables, script)
        self.assertEqual(list(after), [table[0] for table in schema[0]])
        self.assertLessEqual(set(names_of(success)), set(names))
        results = set()
        for committed in all_outcomes(names):
            expected, result = run(schema, tables_for(tables, committed), script)
            self.assertEqual(holds(success, committed), result[0] == "done", (script, committed, result))
            self.assertEqual(tables_for(after, committed), expected, (script, committed, result))
            results.add(result)
        for pairs in after.values():
            self.check_pairs(pairs, names)
        return after, success, results

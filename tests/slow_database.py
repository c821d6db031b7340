"""Databases in the words of the document, by going through all outcomes of all names."""

from indoubt.facts import holds, names_of
from indoubt.history import serial
from indoubt.queries import answer_of
from indoubt.schemas import relations_of
from slow_inquiries import slow_cheapest, slow_cost
from slow_search import SlowSearch, all_outcomes


class SlowDatabase:
    def __init__(self, schema, beginning, entries):
        self.schema = schema
        self.beginning = beginning
        self.entries = tuple(entries)
        self.transactions = [entry for entry in self.entries if entry[0] != "learn"]
        self.admitted = [one for one in all_outcomes(self.known_names()) if self.is_admitted(one)]
        self.known = self.knowledge()
        self.search = SlowSearch(self.known[1], self.known[2])
        # For each possible outcome: the serial executions of all admitted outcomes that agree with it.
        self.steps = [
            [self.serial(one) for one in self.admitted if self.limited(one) == outcome] for outcome in self.known[2]]

    def known_names(self):
        names = {name for name, _, _ in self.beginning[0]}
        for entry in self.entries:
            if entry[0] == "learn":
                names.update(names_of(entry[1]))
            elif entry[0] == "prepare":
                names.add(entry[1])
        return sorted(names)

    def start(self, committed):
        """The tables of the possible outcome of the beginning, or None if it is not possible."""
        pending, possible, tables = self.beginning
        outcome = tuple([name for name, _, _ in pending if name in committed])
        return tables[possible.index(outcome)] if outcome in possible else None

    def serial(self, committed):
        tables = self.start(committed)
        return ((tables, None),) + serial(self.schema, tables, self.entries, committed)

    def is_admitted(self, committed):
        if self.start(committed) is None:
            return False
        if not all(holds(entry[1], committed) for entry in self.entries if entry[0] == "learn"):
            return False
        for entry, (_, result) in zip(self.transactions, self.serial(committed)[1:]):
            if entry[0] == "prepare" and entry[1] in committed and result[0] == "failed":
                return False
        return True

    def knowledge(self):
        decided = []
        undecided = []
        for name in self.known_names():
            values = {name in one for one in self.admitted}
            if len(values) == 1:
                decided.append((name, values.pop()))
            else:
                undecided.append(name)
        said = {tuple([name for name in undecided if name in one]) for one in self.admitted}
        return (tuple(decided), tuple(undecided), tuple([one for one in all_outcomes(undecided) if one in said]))

    def limited(self, committed):
        return tuple([name for name in self.known[1] if name in committed])

    def condition(self, chosen):
        return self.search.condition(chosen)

    def tables(self, version):
        """The tables at the version for each possible outcome; they are the same for all that agree with it."""
        found = []
        for steps in self.steps:
            assert all(one[version] == steps[0][version] for one in steps)
            found.append(steps[0][version][0])
        return found

    def results_of(self, script, version):
        """The conditional results of a script at a version."""
        by_result = {}
        for outcome, tables in zip(self.known[2], self.tables(version)):
            result = serial(self.schema, tables, (("execute", script),), ())[0][1]
            by_result.setdefault(result, []).append(outcome)
        return tuple([(result, self.condition(chosen)) for result, chosen in by_result.items()])

    def answer(self, query, version):
        by_row = {}
        for outcome, tables in zip(self.known[2], self.tables(version)):
            names, rows = answer_of(query, relations_of(self.schema, tables))
            for row in rows:
                by_row.setdefault(row, []).append(outcome)
        return (names, tuple([(row, self.condition(by_row[row])) for row in sorted(by_row)]))

    def successes(self, version):
        """The possible outcomes for which the result at the version is a success."""
        return [outcome for outcome, steps in zip(self.known[2], self.steps) if steps[0][version][1][0] == "done"]

    def settled(self):
        return [
            version for version in range(1, len(self.transactions) + 1)
            if len({steps[0][version][1] for steps in self.steps}) == 1]

    def vote(self, script):
        """The vote on a script that is added next."""
        results = self.results_of(script, len(self.transactions))
        chosen = []
        for outcome, tables in zip(self.known[2], self.tables(len(self.transactions))):
            if serial(self.schema, tables, (("execute", script),), ())[0][1][0] == "done":
                chosen.append(outcome)
        assert results
        return self.condition(chosen)

    def effect(self, version):
        entry = self.transactions[version - 1]
        chosen = []
        for outcome in self.successes(version):
            decided = [name for name, commits in self.known[0] if commits]
            if entry[0] == "execute" or entry[1] in list(outcome) + decided:
                chosen.append(outcome)
        return self.condition(chosen)

    def pending(self):
        found = []
        for name in self.known[1]:
            cost, prepared = 1, False
            for other, beginning_cost, beginning_prepared in self.beginning[0]:
                if other == name:
                    cost, prepared = beginning_cost, beginning_prepared
            for entry in self.entries:
                if entry[0] == "prepare" and entry[1] == name:
                    cost, prepared = entry[2], True
            found.append((name, cost, prepared))
        return tuple(found)

    def inquiry(self, script):
        results = [result for result, _ in self.results_of(script, len(self.transactions))]
        numbers = []
        for tables in self.tables(len(self.transactions)):
            numbers.append(results.index(serial(self.schema, tables, (("execute", script),), ())[0][1]))
        costs = {name: cost for name, cost, _ in self.pending()}
        strategy = slow_cheapest(self.known[1], list(self.known[2]), numbers, costs)
        return (slow_cost(strategy, costs), strategy, tuple(results))

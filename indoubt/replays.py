"""Replays: the serial executions of the same entries for several outcomes."""

from indoubt.history import transactions_in
from indoubt.scripts import run


class Replay:
    """Executes entries from a beginning, each script at most once on the same tables.

    The methods are passed a dict with the outcomes of some names, where True stands for those that commit.
    """

    def __init__(self, declared, start, entries):
        self.declared = declared
        self.start = start
        self.transactions = transactions_in(entries)
        self.runs = {}

    def fits(self, outcomes):
        """Tell whether some possible outcome of the beginning fits the outcomes."""
        return len(self._fitting_places(outcomes)) > 0

    def determines(self, outcomes, number):
        """Tell whether the outcomes determine the version with this number."""
        needed = [name for name, _, _ in self.start[0]]
        needed.extend([name for name, _ in self.transactions[:number] if name is not None])
        return all(name in outcomes for name in needed) and self.fits(outcomes)

    def tables_after(self, outcomes, number):
        """Return the tables at a version that the outcomes determine."""
        place = self._fitting_places(outcomes)[0]
        tables = self.start[2][place]
        # Who has committed so far tells on which tables the next script is executed.
        committed = ()
        for index in range(number):
            name = self.transactions[index][0]
            if name is None or outcomes[name]:
                tables = self._run((place, index, committed), tables)[0]
            if name is not None and outcomes[name]:
                committed = committed + (name,)
        return tables

    def result_at(self, outcomes, number):
        """Return the result at a version; the outcomes determine the version before."""
        place = self._fitting_places(outcomes)[0]
        earlier = [name for name, _ in self.transactions[:number - 1] if name is not None]
        committed = tuple([name for name in earlier if outcomes[name]])
        return self._run((place, number - 1, committed), self.tables_after(outcomes, number - 1))[1]

    def _run(self, key, tables):
        if key not in self.runs:
            self.runs[key] = run(self.declared, tables, self.transactions[key[1]][1])
        return self.runs[key]

    def _fitting_places(self, outcomes):
        """Return the list of the places of the possible outcomes of the beginning that fit."""
        pending, possible, _ = self.start
        given = [name for name, _, _ in pending if name in outcomes]
        places = []
        for place, outcome in enumerate(possible):
            if all((name in outcome) == outcomes[name] for name in given):
                places.append(place)
        return places

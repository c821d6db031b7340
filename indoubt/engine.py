"""Databases that keep working while the outcomes of transactions are unknown."""

from indoubt.beginnings import USUAL_COST, copied_beginning, is_valid_beginning, new_beginning
from indoubt.conditional import condition_at, conditional_results, conditional_rows
from indoubt.errors import AlreadyDecided, AlreadyPrepared, InvalidBeginning, NotCertain
from indoubt.errors import UnknownOutcome, UnknownVersion
from indoubt.facts import names_of
from indoubt.inquiries import cheapest
from indoubt.outcomes import committed_names, keep, limited, mention, outcomes_with
from indoubt.schemas import answer_on, check_schema, shapes_of
from indoubt.scripts import check_script, run
from indoubt.shapes import shape_of


class Database:
    """A database: its beginning, its entries, and what has come of them for each possible outcome."""

    def __init__(self, schema, *, beginning=None):
        check_schema(schema)
        if beginning is None:
            beginning = new_beginning(schema)
        if not is_valid_beginning(schema, beginning):
            raise InvalidBeginning("the beginning is not valid")
        pending, possible, tables = copied_beginning(beginning)
        self._schema = schema
        self._beginning = (pending, possible, tables)
        self._entries = []
        # For each version: the name of the transaction, or None, the script, and the vote.
        self._transactions = []
        self._costs = {name: cost for name, cost, _ in pending}
        self._prepared = {name: True for name, _, prepared in pending if prepared}
        self._known = ((), tuple([name for name, _, _ in pending]), possible)
        # For each possible outcome, in order: the tables at each version and the result there, from version 0 on.
        self._branches = [((one, None),) for one in tables]

    def __iter__(self):
        return iter(self._entries)

    def __len__(self):
        return len(self._entries)

    @property
    def schema(self):
        """The schema."""
        return self._schema

    @property
    def beginning(self):
        """The beginning."""
        return copied_beginning(self._beginning)

    @property
    def version(self):
        """The present version."""
        return len(self._transactions)

    @property
    def known(self):
        """The knowledge about outcomes."""
        return self._known

    @property
    def pending(self):
        """The names of the undecided transactions, with their costs and whether a branch was prepared."""
        return tuple([(name, self._costs.get(name, USUAL_COST), name in self._prepared) for name in self._known[1]])

    def execute(self, script, *, certain=False):
        """Execute the script and return the vote."""
        check_script(self._schema, script)
        runs = self._runs(script)
        if certain:
            self._need_certain([result for _, result in runs])
        vote = self._vote(runs)
        self._branches = [branch + (step,) for branch, step in zip(self._branches, runs)]
        self._transactions.append((None, script, vote))
        self._entries.append(("execute", script))
        return vote

    def prepare(self, name, script, *, cost=1):
        """Prepare the script as the branch of a transaction and return the vote."""
        check_script(self._schema, script)
        if name in self._prepared:
            raise AlreadyPrepared(name)
        if name in dict(self._known[0]):
            raise AlreadyDecided(name)
        mentioned = mention(self._known, (name,))
        runs = self._runs(script)
        vote = self._vote(runs)
        self._keep_prepared(name, mentioned, runs)
        self._costs[name] = cost
        self._prepared[name] = True
        self._transactions.append((name, script, vote))
        self._entries.append(("prepare", name, cost, script))
        return vote

    def learn(self, fact):
        """Learn the fact and return what was decided and which versions were settled by it."""
        mentioned = mention(self._known, names_of(fact))
        outcomes = outcomes_with(mentioned, fact)
        known = keep(mentioned, outcomes)
        earlier = self._known[0]
        settled = self._settled_versions()
        branch_of = dict(zip(self._known[2], self._branches))
        self._branches = [branch_of[limited(outcome, self._known[1])] for outcome in outcomes]
        self._known = known
        self._entries.append(("learn", fact))
        newly_decided = tuple([pair for pair in known[0] if pair not in earlier])
        return (newly_decided, tuple([number for number in self._settled_versions() if number not in settled]))

    def query(self, query, *, version=None):
        """Return the conditional answer of the query at a version, or at the present one."""
        shape_of(query, shapes_of(self._schema))
        number = self.version if version is None else version
        self._need_version(number, 0)
        answers = [answer_on(self._schema, branch[number][0], query) for branch in self._branches]
        return (answers[0][0], conditional_rows(self._known, [rows for _, rows in answers]))

    def preview(self, script):
        """Return the conditional results of the script at the present version, without executing it."""
        check_script(self._schema, script)
        return conditional_results(self._known, [result for _, result in self._runs(script)])

    def report(self, version):
        """Return the report on the transaction that made the version."""
        self._need_version(version, 1)
        name, script, vote = self._transactions[version - 1]
        return {
            "version": version,
            "name": name,
            "script": script,
            "vote": vote,
            "effect": self._effect(version, name),
            "results": conditional_results(self._known, self._results_at(version)),
        }

    def tables_at(self, version, outcome):
        """Return the tables at a version for a possible outcome."""
        self._need_version(version, 0)
        if outcome not in self._known[2]:
            raise UnknownOutcome(outcome)
        return dict(self._branches[self._known[2].index(outcome)][version][0])

    def inquire(self, script):
        """Return the inquiry for the script, without executing it."""
        check_script(self._schema, script)
        found = [result for _, result in self._runs(script)]
        results = list({result: True for result in found})
        numbers = tuple([results.index(result) for result in found])
        costs = {name: number for name, number, _ in self.pending}
        cost, strategy = cheapest(self._known[1], self._known[2], numbers, costs)
        return (cost, strategy, tuple(results))

    def snapshot(self):
        """Return the beginning that describes the present state."""
        return (self.pending, self._known[2], tuple([dict(branch[-1][0]) for branch in self._branches]))

    def _runs(self, script):
        """Return the list of the tables after the script and of its result, for each possible outcome."""
        return [run(self._schema, branch[-1][0], script) for branch in self._branches]

    def _vote(self, runs):
        places = [place for place, (_, result) in enumerate(runs) if result[0] == "done"]
        return condition_at(self._known, places)

    def _need_certain(self, results):
        """Make sure that the results are the same for all possible outcomes."""
        conditional = conditional_results(self._known, results)
        if len(conditional) > 1:
            cases = [case for _, condition in conditional for case in condition]
            raise NotCertain(tuple(sorted({name for case in cases for name, _ in case})))

    def _keep_prepared(self, name, mentioned, runs):
        """Keep the outcomes where the transaction aborts or its script, of which these are the runs, succeeds."""
        place_of = {outcome: place for place, outcome in enumerate(self._known[2])}
        outcomes = []
        branches = []
        for outcome in mentioned[2]:
            place = place_of[limited(outcome, self._known[1])]
            branch = self._branches[place]
            after, result = runs[place]
            if name not in outcome:
                after = branch[-1][0]
            if name not in outcome or result[0] == "done":
                outcomes.append(outcome)
                branches.append(branch + ((after, result),))
        self._known = keep(mentioned, tuple(outcomes))
        self._branches = branches

    def _need_version(self, number, first):
        if not first <= number <= self.version:
            raise UnknownVersion(number)

    def _results_at(self, version):
        """Return the list of the results at the version for each possible outcome."""
        return [branch[version][1] for branch in self._branches]

    def _settled_versions(self):
        numbers = range(1, self.version + 1)
        return [number for number in numbers if len(set(self._results_at(number))) == 1]

    def _effect(self, version, name):
        """Return the condition under which the script of the version succeeds and takes effect."""
        committed = committed_names(self._known)
        places = []
        for place, (outcome, result) in enumerate(zip(self._known[2], self._results_at(version))):
            if result[0] == "done" and (name is None or name in outcome + committed):
                places.append(place)
        return condition_at(self._known, places)


def add_entry(database, entry):
    """Add an entry to the database; return the vote, or for a fact what was decided and settled by it."""
    if entry[0] == "execute":
        return database.execute(entry[1])
    if entry[0] == "learn":
        return database.learn(entry[1])
    _, name, cost, script = entry
    return database.prepare(name, script, cost=cost)

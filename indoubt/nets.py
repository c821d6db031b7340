"""Nets of houses, each of which is a participant with a database of its own."""

from indoubt.engine import Database, add_entry
from indoubt.errors import TooManyUndecided
from indoubt.facts import names_of
from indoubt.outcomes import MOST_UNDECIDED
from indoubt.promises import promise
from indoubt.schemas import check_schema
from indoubt.scripts import check_script

# Stands in place of the number of a step for an entry by which a house has learned a letter.
FROM_LETTER = 0


class Net:
    """Houses with their databases, the steps that were given to them, and the letters that they have sent."""

    def __init__(self, schemas):
        for schema in schemas:
            check_schema(schema)
        self._schemas = schemas
        self._merged_schema = _merged(schemas)
        # A name that two of the schemas declare is all that can be wrong with them together.
        check_schema(self._merged_schema)
        self._databases = [Database(schema) for schema in schemas]
        # For each house: the number of the step that each entry of its database comes from.
        self._origins = [[] for _ in schemas]
        self._steps = []
        self._letters = []
        self._merged_database = Database(self._merged_schema)

    def __iter__(self):
        return iter(self._databases)

    def __len__(self):
        return len(self._databases)

    def __getitem__(self, at):
        return self._databases[at]

    @property
    def schemas(self):
        """The schemas of the houses."""
        return self._schemas

    @property
    def steps(self):
        """The steps that were given."""
        return tuple(self._steps)

    @property
    def letters(self):
        """The letters, in the order in which they were sent."""
        return tuple(self._letters)

    def execute(self, house, script):
        """Give the step that the house executes the script, and return its number."""
        check_script(self._schemas[house], script)
        return self._give(("execute", house, script))

    def prepare(self, name, branches):
        """Give the step with the branches of a transaction, and return its number."""
        for house, script in branches:
            check_script(self._schemas[house], script)
        # A name that is prepared or decided does not make the names more; the merged database refuses it.
        self._need_few_names((name,))
        return self._give(("prepare", name, branches))

    def learn(self, fact):
        """Give the step that every house learns the fact, and return its number."""
        self._need_few_names(names_of(fact))
        return self._give(("learn", fact))

    def waiting(self, house):
        """Return the numbers of the steps that the house has to carry out."""
        last = max(self._origins[house], default=0)
        later = list(enumerate(self._steps, start=1))[last:]
        return tuple([number for number, step in later if _concerns(step, house)])

    def work(self, house):
        """Let the house carry out its next step; return the number of the step, or None if there is none."""
        waiting = self.waiting(house)
        if not waiting:
            return None
        number = waiting[0]
        step = self._steps[number - 1]
        told = add_entry(self._databases[house], _entry_of(step, house))
        self._origins[house].append(number)
        if step[0] == "prepare":
            self._letters.append((number, house, promise(step[1], told)))
        return number

    def deliver(self, letter, house):
        """Deliver the letter with this index to the house; tell whether it accepts the letter."""
        number, sender, fact = self._letters[letter]
        if sender == house or any(step <= number for step in self.waiting(house)):
            return False
        self._databases[house].learn(fact)
        self._origins[house].append(FROM_LETTER)
        return True

    def fall(self, house, kept):
        """Let the house fall, so that only its first entries are kept."""
        # The database of before is left as it is, because callers may hold it.
        database = Database(self._schemas[house])
        for entry in list(self._databases[house])[:kept]:
            add_entry(database, entry)
        self._databases[house] = database
        self._origins[house] = self._origins[house][:kept]

    def is_level(self, house):
        """Tell whether the house has carried out its steps and has learned what the other houses promise."""
        if self.waiting(house):
            return False
        entries = list(self._databases[house])
        learned = [(number, sender) for number, sender, fact in self._letters if ("learn", fact) in entries]
        for number, step in enumerate(self._steps, start=1):
            if step[0] == "prepare":
                others = [other for other, _ in step[2] if other != house]
                if not all((number, other) in learned for other in others):
                    return False
        return True

    def merged_schema(self):
        """Return the merged schema."""
        return self._merged_schema

    def merged(self):
        """Return the merged database, a new object."""
        database = Database(self._merged_schema)
        for step in self._steps:
            add_entry(database, _merged_entry(step))
        return database

    def _give(self, step):
        """Add the step, unless the merged database refuses it, and return its number."""
        add_entry(self._merged_database, _merged_entry(step))
        self._steps.append(step)
        return len(self._steps)

    def _need_few_names(self, names):
        """Make sure that a step with these names does not make them too many."""
        together = list(names)
        for step in self._steps:
            if step[0] == "prepare":
                together.append(step[1])
            elif step[0] == "learn":
                together.extend(names_of(step[1]))
        count = len(set(together))
        if count > MOST_UNDECIDED:
            raise TooManyUndecided(count)


def _merged(schemas):
    """Return the merged schema: all tables, then all views, then all denials, in the order of the houses."""
    tables = []
    views = []
    denials = []
    for schema in schemas:
        tables.extend(schema[0])
        views.extend(schema[1])
        denials.extend(schema[2])
    return (tuple(tables), tuple(views), tuple(denials))


def _concerns(step, house):
    """Tell whether the house has to do something for the step."""
    if step[0] == "execute":
        return step[1] == house
    return step[0] == "learn" or house in dict(step[2])


def _entry_of(step, house):
    """Return the entry that the house makes when it carries out the step."""
    if step[0] == "execute":
        return ("execute", step[2])
    if step[0] == "learn":
        return step
    return ("prepare", step[1], 1, dict(step[2])[house])


def _merged_entry(step):
    """Return the entry that the merged database makes for the step."""
    if step[0] == "execute":
        return ("execute", step[2])
    if step[0] == "learn":
        return step
    statements = []
    for _, script in step[2]:
        statements.extend(script)
    return ("prepare", step[1], 1, tuple(statements))

"""Serial executions, and the outcomes that entries admit."""

from indoubt.facts import holds
from indoubt.scripts import run


def serial(schema, tables, entries, committed):
    """Return the tables and the result at each version from 1 on if exactly these transactions commit."""
    present = tables
    made = []
    for name, script in transactions_in(entries):
        after, result = run(schema, present, script)
        if name is not None and name not in committed:
            after = dict(present)
        made.append((after, result))
        present = after
    return tuple(made)


def admits(schema, tables, entries, committed):
    """Tell whether the facts are true and the prepared scripts succeed if exactly these transactions commit."""
    facts = [entry[1] for entry in entries if entry[0] == "learn"]
    if not all(holds(fact, committed) for fact in facts):
        return False
    steps = serial(schema, tables, entries, committed)
    for (name, _), (_, result) in zip(transactions_in(entries), steps):
        if name in committed and result[0] == "failed":
            return False
    return True


def transactions_in(entries):
    """Return the list of the names, None for an executed one, and the scripts of the transactions of the log."""
    found = []
    for entry in entries:
        if entry[0] == "execute":
            found.append((None, entry[1]))
        elif entry[0] == "prepare":
            found.append((entry[1], entry[3]))
    return found

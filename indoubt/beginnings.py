"""Beginnings of databases, and when they are valid."""

from indoubt.constraints import first_violation
from indoubt.outcomes import MOST_UNDECIDED, limited
from indoubt.schemas import can_store, empty_tables
from indoubt.values import sorted_rows

LARGEST_COST = 1000
# The cost of asking for a transaction of which no branch was prepared.
USUAL_COST = 1


def new_beginning(schema):
    """Return the beginning of a new database."""
    return ((), ((),), (empty_tables(schema),))


def copied_beginning(beginning):
    """Return the beginning with dicts of its own."""
    pending, possible, tables = beginning
    return (pending, possible, tuple([dict(one) for one in tables]))


def is_valid_beginning(schema, beginning):
    """Tell whether the beginning is valid for the checked schema."""
    pending, possible, tables = beginning
    names = [name for name, _, _ in pending]
    if not _are_pending(names, pending) or not _are_outcomes(names, possible):
        return False
    return len(tables) == len(possible) and all(_are_tables(schema, one) for one in tables)


def is_cost(number):
    """Tell whether asking for an outcome can have this cost."""
    return 1 <= number <= LARGEST_COST


def _are_pending(names, pending):
    if len(names) > MOST_UNDECIDED or names != sorted(set(names)):
        return False
    return all(is_cost(cost) and (prepared or cost == USUAL_COST) for _, cost, prepared in pending)


def _are_outcomes(names, possible):
    """Tell whether the outcomes can be the possible outcomes of the undecided names."""
    if not possible or any(outcome != limited(tuple(names), outcome) for outcome in possible):
        return False
    # An outcome in which a name commits comes before one in which it aborts.
    places = [[name not in outcome for name in names] for outcome in possible]
    if any(place >= following for place, following in zip(places, places[1:])):
        return False
    return all(len({name in outcome for outcome in possible}) == 2 for name in names)


def _are_tables(schema, tables):
    for table in schema[0]:
        rows = tables[table[0]]
        # Rows of different lengths have no order, so whether they can be stored is looked at first.
        if not all(can_store(schema, table[0], row) for row in rows):
            return False
        if sorted_rows(rows) != rows or len(rows) > table[3]:
            return False
    return first_violation(schema, tables) is None

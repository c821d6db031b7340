"""The constraints of a schema, and the first one that does not hold."""

from indoubt.formulas import satisfies
from indoubt.queries import picked, places_of
from indoubt.schemas import answer_on, column_names, find_table


def first_violation(schema, tables):
    """Return the reason of the first constraint that does not hold, or None if all hold."""
    for table in schema[0]:
        reason = _table_violation(schema, tables, table)
        if reason is not None:
            return reason
    for name, query in schema[2]:
        if answer_on(schema, tables, query)[1]:
            return ("denied", name)
    return None


def _table_violation(schema, tables, table):
    """Return the reason of the first constraint of the table that does not hold, or None."""
    name = table[0]
    key = table[2]
    checks, references = table[4:]
    names = column_names(table)
    rows = tables[name]
    if not _has_key(names, rows, key):
        return ("key", name)
    for number, check in enumerate(checks, start=1):
        if not all(satisfies(check, names, row) for row in rows):
            return ("check", name, number)
    for number, (columns, target) in enumerate(references, start=1):
        if not _refers(names, rows, columns, find_table(schema, target), tables[target]):
            return ("reference", name, number)
    return None


def _has_key(names, rows, key):
    places = places_of(key, names)
    return len({picked(row, places) for row in rows}) == len(rows)


def _refers(names, rows, columns, target, target_rows):
    """Tell whether the values of the columns in each row are those of the key in some row of the target."""
    key_places = places_of(target[2], column_names(target))
    present = {picked(row, key_places): True for row in target_rows}
    places = places_of(columns, names)
    return all(picked(row, places) in present for row in rows)

"""Scripts: their checks, what they do to tables, and what they write and read."""

from indoubt.constraints import first_violation
from indoubt.errors import ColumnsDiffer, DuplicateColumn, KindsDiffer, RowMismatch, UnknownColumn, UnknownTable
from indoubt.formulas import are_alike, check_formula, evaluate, kind_of, satisfies
from indoubt.schemas import answer_on, can_store, column_kinds, column_names, find_table, names_needed, shapes_of
from indoubt.shapes import are_same_columns, shape_of
from indoubt.values import sorted_rows

OUT_OF_RANGE = "value out of range"
TOO_MANY_ROWS = "too many rows"
ROWS_MISSING = "required rows are missing"
ROWS_EXIST = "forbidden rows exist"


def check_script(schema, script):
    """Raise the first error of the checks of the script, if there is one."""
    shapes = shapes_of(schema)
    for statement in script:
        if statement[0] in _CHANGES:
            _check_change(schema, shapes, statement)
        else:
            shape_of(statement[1], shapes)


def run(schema, tables, script):
    """Return the tables after the script, in a new dict, and the result of the script."""
    changed = dict(tables)
    answers = []
    for number, statement in enumerate(script, start=1):
        words = _execute(schema, changed, statement, answers)
        if words is not None:
            return (dict(tables), ("failed", ("statement", number, words)))
    reason = first_violation(schema, changed)
    if reason is not None:
        return (dict(tables), ("failed", reason))
    return (changed, ("done", tuple(answers)))


def tables_written(script):
    """Return the ascending tuple of the names of the tables that the script writes."""
    return tuple(sorted({statement[1] for statement in script if statement[0] in _CHANGES}))


def tables_read(schema, script):
    """Return the ascending tuple of the names of the tables that the checked script reads."""
    names = list(tables_written(script))
    for statement in script:
        if statement[0] == "insert from":
            names.extend(names_needed(schema, statement[2]))
        elif statement[0] not in _CHANGES:
            names.extend(names_needed(schema, statement[1]))
    return tuple(sorted({name for name in names if find_table(schema, name) is not None}))


def conflicts(schema, first, second):
    """Return the ascending tuple of the names of the tables at which the two checked scripts conflict."""
    read_by_first = tables_read(schema, first)
    read_by_second = tables_read(schema, second)
    names = [name for name in tables_written(first) if name in read_by_second]
    names.extend([name for name in tables_written(second) if name in read_by_first])
    return tuple(sorted(set(names)))


def _check_change(schema, shapes, statement):
    """Raise the first error of the checks of a statement that changes a table."""
    word = statement[0]
    name = statement[1]
    table = find_table(schema, name)
    if table is None:
        raise UnknownTable(name)
    columns = column_kinds(table)
    if word == "insert":
        _check_rows(schema, name, statement[2])
    elif word == "insert from":
        if not are_same_columns(shape_of(statement[2], shapes)[0], columns):
            raise ColumnsDiffer(f"the query has not the columns of {name}")
    elif word == "update":
        _check_assignments(statement[2], columns)
        check_formula(statement[3], columns)
    else:
        check_formula(statement[2], columns)


def _check_rows(schema, name, rows):
    for row in rows:
        if not can_store(schema, name, row):
            raise RowMismatch(name)


def _check_assignments(assignments, columns):
    kinds = dict(columns)
    assigned = []
    for name, expression in assignments:
        if name not in kinds:
            raise UnknownColumn(name)
        if name in assigned:
            raise DuplicateColumn(name)
        if not are_alike(kinds[name], kind_of(expression, columns)):
            raise KindsDiffer(name)
        assigned.append(name)


def _execute(schema, tables, statement, answers):
    """Execute the statement on the tables and the list of answers; return None, or the words why it fails."""
    word = statement[0]
    if word in _CHANGES:
        change = _CHANGES[word]
        rows, words = change(schema, tables, statement)
        tables[statement[1]] = rows
        return words
    answer = answer_on(schema, tables, statement[1])
    if word == "require" and not answer[1]:
        return ROWS_MISSING
    if word == "forbid" and answer[1]:
        return ROWS_EXIST
    if word == "return":
        answers.append(answer)
    return None


# The four functions below return the rows of the table after the statement, and None or the words why it fails.


def _insert(schema, tables, statement):
    return _with_rows(schema, tables, statement[1], statement[2])


def _insert_from(schema, tables, statement):
    _, name, query = statement
    rows = answer_on(schema, tables, query)[1]
    if not _can_store_all(schema, name, rows):
        return (tables[name], OUT_OF_RANGE)
    return _with_rows(schema, tables, name, rows)


def _update(schema, tables, statement):
    _, name, assignments, formula = statement
    names = column_names(find_table(schema, name))
    kept = []
    changed = []
    for row in tables[name]:
        if satisfies(formula, names, row):
            changed.append(assigned_row(assignments, names, row))
        else:
            kept.append(row)
    if not _can_store_all(schema, name, changed):
        return (tables[name], OUT_OF_RANGE)
    return (sorted_rows(kept + changed), None)


def _delete(schema, tables, statement):
    _, name, formula = statement
    names = column_names(find_table(schema, name))
    return (tuple([row for row in tables[name] if not satisfies(formula, names, row)]), None)


def _with_rows(schema, tables, name, rows):
    """Return the rows of the table with further rows that can be stored, and None or the words of the failure."""
    together = sorted_rows(tables[name] + rows)
    if len(together) > find_table(schema, name)[3]:
        return (tables[name], TOO_MANY_ROWS)
    return (together, None)


def assigned_row(assignments, names, row):
    """Return the row with the values of the expressions, which are all evaluated for the old row."""
    values = list(row)
    for name, expression in assignments:
        values[names.index(name)] = evaluate(expression, names, row)
    return tuple(values)


def _can_store_all(schema, name, rows):
    return all(can_store(schema, name, row) for row in rows)


_CHANGES = {"insert": _insert, "insert from": _insert_from, "update": _update, "delete": _delete}

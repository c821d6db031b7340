"""Schemas: their checks, and the shapes and relations of their tables and views."""

from indoubt.errors import DuplicateColumn, DuplicateName, KeyMismatch, UnknownColumn, UnknownTable
from indoubt.formulas import STRING, are_alike, check_formula
from indoubt.queries import answer_of, names_in
from indoubt.shapes import shape_of
from indoubt.values import LARGEST_STORED, is_storable


def check_schema(schema):
    """Raise the first error of the checks of the schema, if there is one."""
    tables, views, denials = schema
    declared = {}
    for table in tables:
        _declare(declared, table[0])
        _check_table(table)
    for table in tables:
        for columns, target in table[5]:
            _check_reference(table, columns, find_table(schema, target), target)
    shapes = _table_shapes(schema)
    for name, query in views:
        _declare(declared, name)
        shapes[name] = shape_of(query, shapes)
    for name, query in denials:
        _declare(declared, name)
        shape_of(query, shapes)


def shapes_of(schema):
    """Return the shapes of the tables and views, by their names."""
    shapes = _table_shapes(schema)
    for name, query in schema[1]:
        shapes[name] = shape_of(query, shapes)
    return shapes


def relations_of(schema, tables):
    """Return the relations of the tables and views, by their names."""
    return _relations(schema, tables, [name for name, _ in schema[1]])


def answer_on(schema, tables, query):
    """Return the answer of the query on the relations of the tables and views."""
    # Views on which the query does not depend are not evaluated, which changes nothing but the time.
    return answer_of(query, _relations(schema, tables, names_needed(schema, query)))


def names_needed(schema, query):
    """Return the names of the tables and views on which the query depends, directly or through views."""
    needed = {name: True for name in names_in(query)}
    # A view depends on earlier views only, so the last one is looked at first.
    for view, part in reversed(list(schema[1])):
        if view in needed:
            for name in names_in(part):
                needed[name] = True
    return tuple(needed)


def can_store(schema, name, row):
    """Tell whether the row can be stored in the table with this name."""
    columns = find_table(schema, name)[1]
    if len(row) != len(columns):
        return False
    return all(is_storable(value, word) for value, (_, word) in zip(row, columns))


def empty_tables(schema):
    """Return the tables without rows, by their names."""
    return {table[0]: () for table in schema[0]}


def find_table(schema, name):
    """Return the table of the schema with this name, or None if there is none."""
    for table in schema[0]:
        if table[0] == name:
            return table
    return None


def column_names(table):
    """Return the names of the columns of a table of a schema."""
    return tuple([name for name, _ in table[1]])


def column_kinds(table):
    """Return the columns of a table of a schema with their kinds."""
    return tuple([(name, _kind_of_word(word)) for name, word in table[1]])


def _kind_of_word(word):
    if word == "string":
        return STRING
    return ("integer", LARGEST_STORED)


def _table_shapes(schema):
    return {table[0]: (column_kinds(table), table[3]) for table in schema[0]}


def _relations(schema, tables, wanted):
    """Return the relations of the tables and of the wanted views, which include all that they depend on."""
    relations = {table[0]: (column_names(table), tables[table[0]]) for table in schema[0]}
    for name, query in schema[1]:
        if name in wanted:
            relations[name] = answer_of(query, relations)
    return relations


def _declare(declared, name):
    if name in declared:
        raise DuplicateName(name)
    declared[name] = True


def _check_table(table):
    names = column_names(table)
    for place, name in enumerate(names):
        if name in names[:place]:
            raise DuplicateColumn(name)
    _check_columns(table[2], names)
    for check in table[4]:
        check_formula(check, column_kinds(table))


def _check_columns(chosen, names):
    """Check that the chosen columns are among the names, and different."""
    for place, name in enumerate(chosen):
        if name not in names:
            raise UnknownColumn(name)
        if name in chosen[:place]:
            raise DuplicateColumn(name)


def _check_reference(table, columns, target, target_name):
    if target is None:
        raise UnknownTable(target_name)
    _check_columns(columns, column_names(table))
    kinds = dict(column_kinds(table))
    target_kinds = dict(column_kinds(target))
    key = target[2]
    if len(columns) != len(key):
        raise KeyMismatch(target_name)
    for column, key_column in zip(columns, key):
        if not are_alike(kinds[column], target_kinds[key_column]):
            raise KeyMismatch(target_name)

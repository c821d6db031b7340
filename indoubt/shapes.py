"""The shapes of queries, and the checks of queries."""

from indoubt.errors import ColumnsDiffer, DuplicateColumn, KindsDiffer, StringArithmetic
from indoubt.errors import TooManyRows, UnknownColumn, UnknownTable, ValueTooLarge
from indoubt.formulas import LARGEST_BOUND, STRING, are_alike, check_formula, kind_of

MOST_ROWS = 3000


def shape_of(query, shapes):
    """Return the shape of the query for the shapes of relations; raise the first error of its checks."""
    word = query[0]
    if word == "name":
        return _name_shape(query[1], shapes)
    before = shape_of(query[1], shapes)
    if word in _WITH_OPERAND:
        operand = shape_of(query[2], shapes)
        stage = _WITH_OPERAND[word]
        return stage(before, operand)
    stage = _WITHOUT_OPERAND[word]
    return stage(before, query)


def are_same_columns(left, right):
    """Tell whether two tuples of columns have the same names and like kinds, in the same order."""
    if len(left) != len(right):
        return False
    for (left_name, left_kind), (right_name, right_kind) in zip(left, right):
        if left_name != right_name or not are_alike(left_kind, right_kind):
            return False
    return True


def _name_shape(name, shapes):
    if name not in shapes:
        raise UnknownTable(name)
    return shapes[name]


def _where_shape(before, query):
    check_formula(query[2], before[0])
    return before


def _select_shape(before, query):
    columns, most = before
    found = {}
    for name, expression in query[2]:
        _add_column(found, name, kind_of(expression, columns))
    return _sized(list(found.items()), most)


def _group_shape(before, query):
    columns, most = before
    kinds = dict(columns)
    found = {}
    for name in query[2]:
        if name not in kinds:
            raise UnknownColumn(name)
        _add_column(found, name, kinds[name])
    for name, word, column in query[3]:
        _add_column(found, name, _aggregate_kind(word, column, kinds, most))
    return _sized(list(found.items()), most)


def _aggregate_kind(word, column, kinds, most):
    if word == "count":
        return ("integer", most)
    if column not in kinds:
        raise UnknownColumn(column)
    kind = kinds[column]
    if word != "sum":
        return kind
    if kind == STRING:
        raise StringArithmetic("strings are summed up")
    return ("integer", kind[1] * most)


def _join_shape(before, operand):
    _check_common(before, operand)
    columns, most = before
    kinds = dict(columns)
    further = [column for column in operand[0] if column[0] not in kinds]
    return _sized(list(columns) + further, most * operand[1])


def _union_shape(before, operand):
    _check_same(before, operand)
    columns = []
    for (name, kind), (_, other) in zip(before[0], operand[0]):
        columns.append((name, _wider(kind, other)))
    return _sized(columns, before[1] + operand[1])


def _minus_shape(before, operand):
    _check_same(before, operand)
    return before


def _matching_shape(before, operand):
    _check_common(before, operand)
    return before


def _wider(kind, other):
    """Return the kind that includes the values of two kinds that are alike."""
    if kind == STRING:
        return kind
    return ("integer", max(kind[1], other[1]))


def _add_column(found, name, kind):
    if name in found:
        raise DuplicateColumn(name)
    found[name] = kind


def _check_common(before, operand):
    kinds = dict(before[0])
    for name, kind in operand[0]:
        if name in kinds and not are_alike(kinds[name], kind):
            raise KindsDiffer(name)


def _check_same(before, operand):
    if not are_same_columns(before[0], operand[0]):
        raise ColumnsDiffer("the columns of two queries differ")


def _sized(columns, most):
    """Return the shape with these columns and rows, unless it is too large."""
    if most > MOST_ROWS:
        raise TooManyRows(f"the query could have {most} rows")
    for name, kind in columns:
        if kind != STRING and kind[1] > LARGEST_BOUND:
            raise ValueTooLarge(f"a value of {name} could be too large")
    return (tuple(columns), most)


_WITHOUT_OPERAND = {"where": _where_shape, "select": _select_shape, "group": _group_shape}
_WITH_OPERAND = {
    "join": _join_shape,
    "union": _union_shape,
    "minus": _minus_shape,
    "matching": _matching_shape,
    "without": _matching_shape,
}

"""The rules that rewrite queries."""

from indoubt.errors import IndoubtError
from indoubt.formulas import check_formula, columns_in, columns_of, with_columns
from indoubt.schemas import column_names, find_table
from indoubt.shapes import shape_of


def rewritten_by(rule, schema, shapes, query):
    """Return the query that the rule makes of the query, or None if it does not rewrite it or is no rule."""
    if rule not in _RULES:
        return None
    rewrite = _RULES[rule]
    return rewrite(schema, shapes, query)


def first_rule(schema, shapes, query):
    """Return the first rule that rewrites the query, or None if no rule does."""
    for rule in _RULES:
        if rewritten_by(rule, schema, shapes, query) is not None:
            return rule
    return None


# Each of the functions below is a rule: it returns the rewritten query, or None if the form of the query is another
# one or the condition of the rule is not met. All of them take the same arguments, so that they fit into one table.


def _drop_true(schema, shapes, query):
    if query[0] == "where" and query[2] == ("true",):
        return query[1]
    return None


def _split_and(schema, shapes, query):
    if query[0] != "where" or query[2][0] != "and":
        return None
    made = query[1]
    for part in query[2][1]:
        made = ("where", made, part)
    return made


def _into_union(schema, shapes, query):
    if not _is_where_over("union", query):
        return None
    _, (_, left, right), formula = query
    return ("union", ("where", left, formula), ("where", right, formula))


def _into_minus(schema, shapes, query):
    if not _is_where_over("minus", query):
        return None
    return _moved_left(query)


def _into_matching(schema, shapes, query):
    if not _is_where_over("matching", query):
        return None
    return _moved_left(query)


def _into_without(schema, shapes, query):
    if not _is_where_over("without", query):
        return None
    return _moved_left(query)


def _into_join_left(schema, shapes, query):
    if not _is_where_over("join", query) or not _fits_columns(query[2], query[1][1], shapes):
        return None
    return _moved_left(query)


def _into_join_right(schema, shapes, query):
    if not _is_where_over("join", query) or not _fits_columns(query[2], query[1][2], shapes):
        return None
    _, (_, left, right), formula = query
    return ("join", left, ("where", right, formula))


def _into_select(schema, shapes, query):
    if not _is_where_over("select", query):
        return None
    _, (_, before, items), formula = query
    copied = _copied_columns(items)
    if not _are_among(columns_in(formula), copied):
        return None
    return ("select", ("where", before, with_columns(formula, copied)), items)


def _into_group(schema, shapes, query):
    if not _is_where_over("group", query):
        return None
    _, (_, before, keys, aggregates), formula = query
    if not _are_among(columns_in(formula), keys):
        return None
    return ("group", ("where", before, formula), keys, aggregates)


def _same_union(schema, shapes, query):
    return _first_of_same("union", query)


def _same_join(schema, shapes, query):
    return _first_of_same("join", query)


def _same_matching(schema, shapes, query):
    return _first_of_same("matching", query)


def _reference_matching(schema, shapes, query):
    if query[0] != "matching" or _referring_table(schema, query) is None:
        return None
    return query[1]


def _reference_join(schema, shapes, query):
    if query[0] != "select" or query[1][0] != "join":
        return None
    _, join, items = query
    table = _referring_table(schema, join)
    if table is None:
        return None
    names = column_names(table)
    if not all(_are_among(columns_of(expression), names) for _, expression in items):
        return None
    return ("select", join[1], items)


def _is_where_over(word, query):
    """Tell whether the last stage of the query is a where, and the stage before it has the word."""
    return query[0] == "where" and query[1][0] == word


def _moved_left(query):
    """Return the query with its last stage, a where, moved into the query before the stage before it."""
    _, (word, left, right), formula = query
    return (word, ("where", left, formula), right)


def _fits_columns(formula, query, shapes):
    """Tell whether the formula passes its checks for the columns of the query."""
    columns = shape_of(query, shapes)[0]
    try:
        check_formula(formula, columns)
    except IndoubtError:
        return False
    return True


def _copied_columns(items):
    """Return a dict from the names of the items that only copy a column to the names of these columns."""
    copied = {}
    for name, expression in items:
        if len(expression) == 1 and expression[0][1][0] == "column":
            copied[name] = expression[0][1][1]
    return copied


def _are_among(wanted, names):
    return all(name in names for name in wanted)


def _first_of_same(word, query):
    """Return the query before the last stage if this has the word and an operand that is the same query."""
    if query[0] == word and query[1] == query[2]:
        return query[1]
    return None


def _referring_table(schema, query):
    """Return the table that the query before the last stage restricts if it refers to the operand by name, or None."""
    if query[2][0] != "name":
        return None
    table = find_table(schema, _restricted_name(query[1]))
    target = find_table(schema, query[2][1])
    if table is None or target is None or not _refers_by_name(table, target):
        return None
    return table


def _restricted_name(query):
    """Return the name of the table or view that the query restricts, or None if there is none."""
    while query[0] in ("where", "minus", "matching", "without"):
        query = query[1]
    if query[0] == "name":
        return query[1]
    return None


def _refers_by_name(table, target):
    """Tell whether the table has a reference to the target with the columns of its key and shares only these."""
    key = target[2]
    if (key, target[0]) not in table[5]:
        return False
    names = column_names(table)
    return all(name in key or name not in names for name in column_names(target))


# The rules are in the order in which the planner tries them.
_RULES = {
    "drop-true": _drop_true,
    "split-and": _split_and,
    "into-union": _into_union,
    "into-minus": _into_minus,
    "into-matching": _into_matching,
    "into-without": _into_without,
    "into-join-left": _into_join_left,
    "into-join-right": _into_join_right,
    "into-select": _into_select,
    "into-group": _into_group,
    "same-union": _same_union,
    "same-join": _same_join,
    "same-matching": _same_matching,
    "reference-matching": _reference_matching,
    "reference-join": _reference_join,
}

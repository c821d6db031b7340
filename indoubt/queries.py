"""The answers of queries on relations."""

from indoubt.formulas import evaluate, satisfies
from indoubt.values import sorted_rows


def answer_of(query, relations):
    """Return the answer of the checked query on the relations."""
    if query[0] == "name":
        return relations[query[1]]
    return stage_answer(query, [answer_of(part, relations) for part in parts_of(query)])


def stage_answer(query, answers):
    """Return the answer of a query that is no name, given the answers of the queries directly in it."""
    word = query[0]
    if word in _WITH_OPERAND:
        stage = _WITH_OPERAND[word]
        return stage(answers[0], answers[1])
    stage = _WITHOUT_OPERAND[word]
    return stage(answers[0], query)


def parts_of(query):
    """Return the queries directly in the query: the one before its last stage, and the operand of this stage."""
    if query[0] == "name":
        return ()
    if query[0] in _WITH_OPERAND:
        return query[1:]
    return query[1:2]


def names_in(query):
    """Return the names of relations in the query, each once, in the order in which they occur first."""
    if query[0] == "name":
        return (query[1],)
    found = {}
    for part in parts_of(query):
        for name in names_in(part):
            found[name] = True
    return tuple(found)


def agree(left_names, left, right_names, right):
    """Tell whether two rows have the same values in all columns that both of them have."""
    common = _common(left_names, right_names)
    return picked(left, places_of(common, left_names)) == picked(right, places_of(common, right_names))


def places_of(wanted, names):
    """Return the list of the places at which the wanted names stand among the names."""
    return [names.index(name) for name in wanted]


def picked(row, places):
    """Return the values of the row at the places."""
    return tuple([row[place] for place in places])


def _where(before, query):
    names, rows = before
    return (names, tuple([row for row in rows if satisfies(query[2], names, row)]))


def _select(before, query):
    names, rows = before
    items = query[2]
    chosen = [tuple([evaluate(expression, names, row) for _, expression in items]) for row in rows]
    return (tuple([name for name, _ in items]), sorted_rows(chosen))


def _group(before, query):
    names, rows = before
    keys, aggregates = query[2:]
    places = places_of(keys, names)
    groups = {}
    for row in rows:
        groups.setdefault(picked(row, places), []).append(row)
    made = []
    for values, members in groups.items():
        made.append(values + tuple([_aggregate(item, names, members) for item in aggregates]))
    return (keys + tuple([item[0] for item in aggregates]), sorted_rows(made))


def _aggregate(item, names, members):
    """Return the value of an aggregate for the rows of a group."""
    _, word, column = item
    if word == "count":
        return len(members)
    place = names.index(column)
    values = [row[place] for row in members]
    if word == "sum":
        return sum(values)
    if word == "least":
        return min(values)
    return max(values)


def _join(before, operand):
    names, rows = before
    further = [name for name in operand[0] if name not in names]
    places = places_of(further, operand[0])
    made = []
    for row, partners in zip(rows, _partners(before, operand)):
        for partner in partners:
            made.append(row + picked(partner, places))
    return (names + tuple(further), sorted_rows(made))


def _union(before, operand):
    return (before[0], sorted_rows(before[1] + operand[1]))


def _minus(before, operand):
    names, rows = before
    removed = {row: True for row in operand[1]}
    return (names, tuple([row for row in rows if row not in removed]))


def _matching(before, operand):
    names, rows = before
    return (names, tuple([row for row, partners in zip(rows, _partners(before, operand)) if partners]))


def _without(before, operand):
    names, rows = before
    return (names, tuple([row for row, partners in zip(rows, _partners(before, operand)) if not partners]))


def _partners(before, operand):
    """Return a list with, for each row before the stage, the list of the rows of the operand that agree with it."""
    names, rows = before
    common = _common(names, operand[0])
    places = places_of(common, operand[0])
    # Looking the common values up spares comparing every row with every other one.
    by_values = {}
    for other in operand[1]:
        by_values.setdefault(picked(other, places), []).append(other)
    here = places_of(common, names)
    return [by_values.get(picked(row, here), []) for row in rows]


def _common(left_names, right_names):
    return [name for name in right_names if name in left_names]


_WITHOUT_OPERAND = {"where": _where, "select": _select, "group": _group}
_WITH_OPERAND = {
    "join": _join,
    "union": _union,
    "minus": _minus,
    "matching": _matching,
    "without": _without,
}

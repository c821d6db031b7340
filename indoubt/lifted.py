"""Lifted relations: relations for all outcomes of all transactions at once."""

from indoubt.composing import NEVER, all_of, any_of, chosen, negation
from indoubt.counting import threshold
from indoubt.facts import holds
from indoubt.formulas import evaluate, satisfies
from indoubt.queries import agree, parts_of, picked, places_of
from indoubt.schemas import can_store, column_names, find_table, names_needed
from indoubt.scripts import assigned_row
from indoubt.values import sorted_rows


def relation_for(lifted, committed):
    """Return the relation that the lifted relation becomes if exactly these transactions commit."""
    names, pairs = lifted
    return (names, _rows_for(pairs, committed))


def tables_for(tables, committed):
    """Return the tables that the lifted tables become if exactly these transactions commit."""
    return {name: _rows_for(pairs, committed) for name, pairs in tables.items()}


def at_least(number, facts):
    """Return a fact that is true exactly where at least `number` places of the facts hold true ones."""
    return threshold(number, facts)


def lifted_answer(query, relations):
    """Return the lifted answer of the checked query on the lifted relations."""
    word = query[0]
    if word == "name":
        return relations[query[1]]
    answers = [lifted_answer(part, relations) for part in parts_of(query)]
    if word in _WITH_OPERAND:
        stage = _WITH_OPERAND[word]
        return stage(answers[0], answers[1])
    stage = _WITHOUT_OPERAND[word]
    return stage(answers[0], query[2])


def lifted_run(schema, tables, script):
    """Return the lifted tables after the checked script, and the fact that it succeeds."""
    # Where a statement fails it does not matter what the next ones do: the script fails there anyway.
    changed = dict(tables)
    failures = []
    for statement in script:
        failures.append(_execute(schema, changed, statement))
    for table in schema[0]:
        failures.extend(_violations(schema, changed, table))
    for _, query in schema[2]:
        failures.append(_answer_exists(schema, changed, query))
    success = negation(any_of(failures))
    return ({name: _where_success(success, changed[name], tables[name]) for name in tables}, success)


def _rows_for(pairs, committed):
    return tuple([row for row, fact in pairs if holds(fact, committed)])


def _merged(pairs):
    """Return the pairs in order, with one pair for each row: it is there where one of its facts is true."""
    facts = {}
    for row, fact in pairs:
        facts.setdefault(row, []).append(fact)
    merged = [(row, any_of(facts[row])) for row in sorted_rows(tuple(facts))]
    return tuple([(row, fact) for row, fact in merged if fact != NEVER])


def _exists(pairs):
    """Return the fact that at least one of the rows is there."""
    return any_of([fact for _, fact in pairs])


# The stages of queries: each function makes the lifted answer from that before the stage, and from the operand or from
# what the stage says.


def _where(before, formula):
    names, pairs = before
    return (names, tuple([(row, fact) for row, fact in pairs if satisfies(formula, names, row)]))


def _select(before, items):
    names, pairs = before
    made = [(tuple([evaluate(expression, names, row) for _, expression in items]), fact) for row, fact in pairs]
    return (tuple([name for name, _ in items]), _merged(made))


def _join(before, operand):
    names, pairs = before
    further = [name for name in operand[0] if name not in names]
    places = places_of(further, operand[0])
    made = []
    for row, fact in pairs:
        for other, other_fact in _agreeing(names, row, operand):
            made.append((row + picked(other, places), all_of((fact, other_fact))))
    return (names + tuple(further), _merged(made))


def _union(before, operand):
    return (before[0], _merged(before[1] + operand[1]))


def _minus(before, operand):
    names, pairs = before
    removed = dict(operand[1])
    return (names, _merged([(row, all_of((fact, negation(removed.get(row, NEVER))))) for row, fact in pairs]))


def _matching(before, operand):
    names, pairs = before
    return (names, _merged([(row, all_of((fact, _exists(_agreeing(names, row, operand))))) for row, fact in pairs]))


def _without(before, operand):
    names, pairs = before
    made = []
    for row, fact in pairs:
        made.append((row, all_of((fact, negation(_exists(_agreeing(names, row, operand)))))))
    return (names, _merged(made))


def _agreeing(names, row, operand):
    """Return the list of the pairs of the operand whose rows agree with the row."""
    return [(other, fact) for other, fact in operand[1] if agree(names, row, operand[0], other)]


_WITHOUT_OPERAND = {"where": _where, "select": _select}
_WITH_OPERAND = {
    "join": _join,
    "union": _union,
    "minus": _minus,
    "matching": _matching,
    "without": _without,
}


def _answer_on(schema, tables, query):
    """Return the pairs of the lifted answer of a query on the lifted tables and the views."""
    needed = names_needed(schema, query)
    relations = {table[0]: (column_names(table), tables[table[0]]) for table in schema[0]}
    for name, view in schema[1]:
        if name in needed:
            relations[name] = lifted_answer(view, relations)
    return lifted_answer(query, relations)[1]


def _answer_exists(schema, tables, query):
    return _exists(_answer_on(schema, tables, query))


def _execute(schema, tables, statement):
    """Execute the statement on the lifted tables, and return the fact that it fails."""
    word = statement[0]
    if word == "require":
        return negation(_answer_exists(schema, tables, statement[1]))
    if word == "forbid":
        return _answer_exists(schema, tables, statement[1])
    if word == "return":
        return NEVER
    change = _CHANGES[word]
    pairs, failure = change(schema, tables, statement)
    tables[statement[1]] = pairs
    return failure


# The four functions below return the pairs of the table where the statement does not fail, and the fact that it fails.


def _insert(schema, tables, statement):
    _, name, rows = statement
    return _with_pairs(schema, tables, name, [(row, ("true",)) for row in rows])


def _insert_from(schema, tables, statement):
    _, name, query = statement
    storable, failure = _storable(schema, name, _answer_on(schema, tables, query))
    pairs, too_many = _with_pairs(schema, tables, name, storable)
    return (pairs, any_of((failure, too_many)))


def _update(schema, tables, statement):
    _, name, assignments, formula = statement
    names = column_names(find_table(schema, name))
    kept = []
    changed = []
    for row, fact in tables[name]:
        if satisfies(formula, names, row):
            changed.append((assigned_row(assignments, names, row), fact))
        else:
            kept.append((row, fact))
    storable, failure = _storable(schema, name, changed)
    return (_merged(kept + storable), failure)


def _delete(schema, tables, statement):
    _, name, formula = statement
    names = column_names(find_table(schema, name))
    return (tuple([(row, fact) for row, fact in tables[name] if not satisfies(formula, names, row)]), NEVER)


_CHANGES = {"insert": _insert, "insert from": _insert_from, "update": _update, "delete": _delete}


def _storable(schema, name, pairs):
    """Return the list of the pairs whose rows can be stored in the table, and the fact that another row is there."""
    storable = [(row, fact) for row, fact in pairs if can_store(schema, name, row)]
    return (storable, _exists([(row, fact) for row, fact in pairs if not can_store(schema, name, row)]))


def _with_pairs(schema, tables, name, pairs):
    """Return the pairs of the table with further ones, and the fact that the table has too many rows then."""
    together = _merged(list(tables[name]) + pairs)
    limit = find_table(schema, name)[3]
    return (together, threshold(limit + 1, [fact for _, fact in together]))


def _violations(schema, tables, table):
    """Return the list of facts of which one is true where a constraint of the table does not hold."""
    name, _, key, _, checks, references = table
    names = column_names(table)
    found = []
    for facts in _facts_by_values(names, tables[name], key).values():
        found.append(threshold(2, facts))
    for check in checks:
        found.append(_exists([(row, fact) for row, fact in tables[name] if not satisfies(check, names, row)]))
    for columns, target in references:
        target_table = find_table(schema, target)
        present = _facts_by_values(column_names(target_table), tables[target], target_table[2])
        for values, facts in _facts_by_values(names, tables[name], columns).items():
            found.append(all_of((any_of(facts), negation(any_of(present.get(values, []))))))
    return found


def _facts_by_values(names, pairs, columns):
    """Return a dict with the facts of the rows that have the same values in the columns, by these values."""
    places = places_of(columns, names)
    found = {}
    for row, fact in pairs:
        found.setdefault(picked(row, places), []).append(fact)
    return found


def _where_success(success, after, before):
    """Return the pairs of a table that has these pairs after a success, and those ones after a failure."""
    later = dict(after)
    earlier = dict(before)
    pairs = []
    for row in sorted_rows(tuple(later) + tuple(earlier)):
        pairs.append((row, chosen(success, later.get(row, NEVER), earlier.get(row, NEVER))))
    return tuple([(row, fact) for row, fact in pairs if fact != NEVER])

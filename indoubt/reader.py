"""The trees that texts denote."""

from indoubt.cursors import Cursor
from indoubt.errors import UnexpectedToken

LARGEST_LIMIT = 60
SIGNS = ("+", "-")
OPERATORS = ("=", "!=", "<", "<=", ">", ">=")
STAGES = ("where", "select", "join", "union", "minus", "matching", "without", "group")
STATEMENTS = ("insert", "update", "delete", "require", "forbid", "return")


def read_schema(text):
    """Return the schema that the text denotes; raise the first error in the text."""
    cursor = Cursor(text)
    tables = [_table(cursor)]
    while cursor.word() == "table":
        tables.append(_table(cursor))
    views = []
    while cursor.word() == "view":
        views.append(_named_query(cursor, "view"))
    denials = []
    while cursor.word() == "deny":
        denials.append(_named_query(cursor, "deny"))
    cursor.need_end()
    return (tuple(tables), tuple(views), tuple(denials))


def read_query(text):
    """Return the query that the text denotes; raise the first error in the text."""
    cursor = Cursor(text)
    query = _query(cursor, 0)
    cursor.need_end()
    return query


def read_script(text):
    """Return the script that the text denotes; raise the first error in the text."""
    cursor = Cursor(text)
    statements = [_statement(cursor)]
    while not cursor.is_at_end():
        statements.append(_statement(cursor))
    return tuple(statements)


def read_fact(text):
    """Return the fact that the text denotes; raise the first error in the text."""
    cursor = Cursor(text)
    fact = _formula(cursor, 0, _outcome)
    cursor.need_end()
    return fact


def read_conditional_row(text):
    """Return the table, the row and the fact of a text such as `item (1, 'ink') when t1`."""
    cursor = Cursor(text)
    name = cursor.need_kind("name")
    row = _row(cursor)
    place = cursor.here()
    if cursor.need_kind("name") != "when":
        raise UnexpectedToken(place)
    fact = _formula(cursor, 0, _outcome)
    cursor.need_end()
    return (name, row, fact)


def _table(cursor):
    cursor.need("table")
    name = cursor.need_kind("name")
    cursor.need("(")
    columns = _listed(cursor, _column)
    cursor.need(")")
    cursor.need("key")
    key = _listed(cursor, _name)
    cursor.need("limit")
    limit = _limit(cursor)
    checks = []
    while cursor.take("check"):
        checks.append(_formula(cursor, 0, _comparison))
    references = []
    while cursor.take("reference"):
        references.append(_reference(cursor))
    cursor.need(";")
    return (name, columns, key, limit, tuple(checks), tuple(references))


def _column(cursor):
    name = cursor.need_kind("name")
    return (name, cursor.need_one_of(("integer", "string")))


def _limit(cursor):
    place = cursor.here()
    number = cursor.need_kind("number")
    if number < 1 or number > LARGEST_LIMIT:
        raise UnexpectedToken(place)
    return number


def _reference(cursor):
    columns = _listed(cursor, _name)
    cursor.need("to")
    return (columns, cursor.need_kind("name"))


def _named_query(cursor, word):
    cursor.need(word)
    name = cursor.need_kind("name")
    cursor.need("=")
    query = _query(cursor, 0)
    cursor.need(";")
    return (name, query)


def _query(cursor, level):
    query = _source(cursor, level)
    while cursor.take("|"):
        query = _with_stage(cursor, level, query)
    return query


def _source(cursor, level):
    if cursor.word() != "(":
        return ("name", cursor.need_kind("name"))
    query = _query(cursor, cursor.enter("(", level))
    cursor.need(")")
    return query


def _with_stage(cursor, level, query):
    """Return the query with the stage that is read next."""
    word = cursor.need_one_of(STAGES)
    if word == "where":
        return ("where", query, _formula(cursor, level, _comparison))
    if word == "select":
        return ("select", query, _listed(cursor, _item))
    if word != "group":
        return (word, query, _source(cursor, level))
    keys = ()
    if cursor.take("by"):
        keys = _listed(cursor, _name)
    cursor.need(":")
    return ("group", query, keys, _listed(cursor, _aggregate))


def _item(cursor):
    name = cursor.need_kind("name")
    if cursor.take("="):
        return (name, _expression(cursor))
    return (name, (("+", ("column", name)),))


def _aggregate(cursor):
    name = cursor.need_kind("name")
    cursor.need("=")
    word = cursor.need_one_of(("count", "sum", "least", "greatest"))
    if word == "count":
        return (name, word, None)
    return (name, word, cursor.need_kind("name"))


def _expression(cursor):
    terms = [("+", _operand(cursor))]
    while cursor.word() in SIGNS:
        sign = cursor.need_one_of(SIGNS)
        terms.append((sign, _operand(cursor)))
    return tuple(terms)


def _operand(cursor):
    if cursor.kind() == "name":
        return ("column", cursor.need_kind("name"))
    value = _value(cursor)
    if isinstance(value, str):
        return ("string", value)
    return ("integer", value)


def _value(cursor):
    if cursor.kind() == "string":
        return cursor.need_kind("string")
    if cursor.take("-"):
        return -cursor.need_kind("number")
    return cursor.need_kind("number")


# Formulas and facts differ in their atoms only; the function `atom` reads the atoms other than true and false.


def _formula(cursor, level, atom):
    left = _disjunction(cursor, level, atom)
    if cursor.word() != "implies":
        return left
    below = cursor.enter("implies", level)
    return ("implies", left, _formula(cursor, below, atom))


def _disjunction(cursor, level, atom):
    parts = [_conjunction(cursor, level, atom)]
    while cursor.take("or"):
        parts.append(_conjunction(cursor, level, atom))
    return _together("or", parts)


def _conjunction(cursor, level, atom):
    parts = [_unary(cursor, level, atom)]
    while cursor.take("and"):
        parts.append(_unary(cursor, level, atom))
    return _together("and", parts)


def _together(word, parts):
    if len(parts) == 1:
        return parts[0]
    return (word, tuple(parts))


def _unary(cursor, level, atom):
    if cursor.word() == "not":
        return ("not", _unary(cursor, cursor.enter("not", level), atom))
    if cursor.word() == "(":
        formula = _formula(cursor, cursor.enter("(", level), atom)
        cursor.need(")")
        return formula
    if cursor.word() in ("true", "false"):
        return (cursor.need_one_of(("true", "false")),)
    return atom(cursor)


def _comparison(cursor):
    left = _expression(cursor)
    operator = cursor.need_one_of(OPERATORS)
    return ("compare", operator, left, _expression(cursor))


def _outcome(cursor):
    if not cursor.take("one"):
        return ("commits", cursor.need_kind("name"))
    cursor.need("of")
    cursor.need("(")
    names = _listed(cursor, _name)
    cursor.need(")")
    return ("one of", names)


def _statement(cursor):
    word = cursor.need_one_of(STATEMENTS)
    if word == "insert":
        statement = _insert(cursor)
    elif word == "update":
        statement = _update(cursor)
    elif word == "delete":
        name = cursor.need_kind("name")
        cursor.need("where")
        statement = ("delete", name, _formula(cursor, 0, _comparison))
    else:
        statement = (word, _query(cursor, 0))
    cursor.need(";")
    return statement


def _insert(cursor):
    name = cursor.need_kind("name")
    if cursor.take("from"):
        return ("insert from", name, _query(cursor, 0))
    return ("insert", name, _listed(cursor, _row))


def _update(cursor):
    name = cursor.need_kind("name")
    cursor.need("set")
    assignments = _listed(cursor, _assignment)
    cursor.need("where")
    return ("update", name, assignments, _formula(cursor, 0, _comparison))


def _row(cursor):
    cursor.need("(")
    values = _listed(cursor, _value)
    cursor.need(")")
    return values


def _assignment(cursor):
    name = cursor.need_kind("name")
    cursor.need("=")
    return (name, _expression(cursor))


def _name(cursor):
    return cursor.need_kind("name")


def _listed(cursor, part):
    """Return what the function `part` reads, once or several times with commas between."""
    found = [part(cursor)]
    while cursor.take(","):
        found.append(part(cursor))
    return tuple(found)

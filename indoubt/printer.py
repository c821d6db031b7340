"""The printed forms of trees."""

# What is printed is first made as a list of pieces: the tokens, where a number and the minus sign that belongs to it
# are one piece, because no space stands between them.


def show_schema(schema):
    """Return the printed form of the schema."""
    tables, views, denials = schema
    pieces = []
    for table in tables:
        pieces.extend(_table(table))
    for name, query in views:
        pieces.extend(["view", name, "="] + _query(query) + [";"])
    for name, query in denials:
        pieces.extend(["deny", name, "="] + _query(query) + [";"])
    return _spaced(pieces)


def show_query(query):
    """Return the printed form of the query."""
    return _spaced(_query(query))


def show_script(script):
    """Return the printed form of the script."""
    pieces = []
    for statement in script:
        pieces.extend(_statement(statement) + [";"])
    return _spaced(pieces)


def show_fact(fact):
    """Return the printed form of the fact."""
    return _spaced(_formula(fact))


def show_row(row):
    """Return the printed form of the row."""
    return _spaced(_row(row))


def _table(table):
    name, columns, key, limit, checks, references = table
    pieces = ["table", name] + _in_parentheses(_listed([[column, word] for column, word in columns]))
    pieces.extend(["key"] + _names(key) + ["limit", str(limit)])
    for check in checks:
        pieces.extend(["check"] + _formula(check))
    for names, target in references:
        pieces.extend(["reference"] + _names(names) + ["to", target])
    return pieces + [";"]


def _query(query):
    word = query[0]
    if word == "name":
        return [query[1]]
    pieces = _query(query[1]) + ["|", word]
    if word == "where":
        return pieces + _formula(query[2])
    if word == "select":
        return pieces + _listed([_item(name, expression) for name, expression in query[2]])
    if word != "group":
        return pieces + _source(query[2])
    if query[2]:
        pieces.extend(["by"] + _names(query[2]))
    return pieces + [":"] + _listed([_aggregate(item) for item in query[3]])


def _source(query):
    if query[0] == "name":
        return _query(query)
    return _in_parentheses(_query(query))


def _item(name, expression):
    if expression == (("+", ("column", name)),):
        return [name]
    return [name, "="] + _expression(expression)


def _aggregate(item):
    name, word, column = item
    if word == "count":
        return [name, "=", word]
    return [name, "=", word, column]


def _statement(statement):
    word = statement[0]
    if word == "insert":
        return ["insert", statement[1]] + _listed([_row(row) for row in statement[2]])
    if word == "insert from":
        return ["insert", statement[1], "from"] + _query(statement[2])
    if word == "update":
        assigned = [[name, "="] + _expression(expression) for name, expression in statement[2]]
        return ["update", statement[1], "set"] + _listed(assigned) + ["where"] + _formula(statement[3])
    if word == "delete":
        return ["delete", statement[1], "where"] + _formula(statement[2])
    return [word] + _query(statement[1])


def _row(row):
    return _in_parentheses(_listed([[_value(value)] for value in row]))


def _formula(formula):
    """Return the pieces of a formula or a fact."""
    word = formula[0]
    if word == "not":
        return ["not"] + _part(formula[1], ("and", "or", "implies"))
    if word == "and":
        return _joined("and", [_part(part, ("and", "or", "implies")) for part in formula[1]])
    if word == "or":
        return _joined("or", [_part(part, ("or", "implies")) for part in formula[1]])
    if word == "implies":
        return _part(formula[1], ("implies",)) + ["implies"] + _formula(formula[2])
    if word == "compare":
        return _expression(formula[2]) + [formula[1]] + _expression(formula[3])
    if word == "commits":
        return [formula[1]]
    if word == "one of":
        return ["one", "of"] + _in_parentheses(_names(formula[1]))
    return [word]


def _part(formula, looser):
    """Return the pieces of a part of a formula, in parentheses if it has one of the words that bind more loosely."""
    if formula[0] in looser:
        return _in_parentheses(_formula(formula))
    return _formula(formula)


def _expression(expression):
    pieces = []
    for sign, (word, content) in expression:
        if pieces:
            pieces.append(sign)
        pieces.append(content if word == "column" else _value(content))
    return pieces


def _names(names):
    return _listed([[name] for name in names])


def _in_parentheses(pieces):
    return ["("] + pieces + [")"]


def _listed(parts):
    return _joined(",", parts)


def _joined(word, parts):
    """Return the pieces of all parts, with the word between them."""
    pieces = list(parts[0])
    for part in parts[1:]:
        pieces.append(word)
        pieces.extend(part)
    return pieces


def _value(value):
    """Return the piece for a value."""
    if isinstance(value, str):
        return "'" + value.replace("'", "''") + "'"
    return str(value)


def _spaced(pieces):
    """Return the text of the pieces, with spaces where they belong."""
    text = []
    before = "("
    for piece in pieces:
        if before != "(" and piece not in (")", ",", ";", ":"):
            text.append(" ")
        text.append(piece)
        before = piece
    return "".join(text)

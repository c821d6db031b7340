"""Random queries that pass their checks, and random tables for them."""

from indoubt.constraints import first_violation
from indoubt.errors import IndoubtError
from indoubt.reader import read_schema
from indoubt.shapes import shape_of
from indoubt.schemas import shapes_of

SCHEMA = read_schema("""
table account (id integer, owner string) key id limit 6;
table transfer (number integer, id integer, amount integer) key number limit 6 reference id to account;
table pair (x integer, y integer) key x, y limit 6;
table link (n integer, x integer, y integer) key n limit 6 reference x, y to pair;
view small = transfer | where amount < 3;
view total = transfer | group by id: s = sum amount;
""")
SHAPES = shapes_of(SCHEMA)
ROW_SIZES = {"account": ("i", "s"), "transfer": "iii", "pair": "ii", "link": "iii"}


def random_tables(rng, keep_constraints):
    """Tables with few different values; those that keep the constraints are looked for."""
    tables = {}
    for table in SCHEMA[0]:
        rows = []
        for _ in range(rng.randrange(7)):
            row = tuple([rng.randrange(4) if word == "integer" else rng.choice("ab") for _, word in table[1]])
            rows.append(row)
        tables[table[0]] = tuple(sorted(set(rows)))
    while keep_constraints and first_violation(SCHEMA, tables) is not None:
        name = first_violation(SCHEMA, tables)[1]
        rows = list(tables[name])
        rows.pop(rng.randrange(len(rows)))
        tables[name] = tuple(rows)
    return tables


def stage_count(query):
    """The number of stages of the query, those in its operands included."""
    if query[0] == "name":
        return 0
    count = 1 + stage_count(query[1])
    if query[0] in ("join", "union", "minus", "matching", "without"):
        count += stage_count(query[2])
    return count


def random_query(rng, stages):
    """A query with at most so many stages that passes its checks."""
    query = ("name", rng.choice(list(SHAPES) + ["transfer", "transfer", "link"]))
    for _ in range(4 * stages):
        longer = with_random_stage(rng, query, stages)
        if stage_count(longer) <= stages and is_right(longer):
            query = longer
    return query


def is_right(query):
    try:
        shape_of(query, SHAPES)
    except IndoubtError:
        return False
    return True


def with_random_stage(rng, query, stages):
    """The query with another stage, which need not pass its checks."""
    columns = shape_of(query, SHAPES)[0]
    choice = rng.choice(("where", "where", "where", "where", "select", "group", "same", "columns", "any", "reference"))
    if choice == "where":
        return ("where", query, random_formula(rng, columns, 2))
    if choice == "select":
        return ("select", query, random_items(rng, columns))
    if choice == "group":
        keys = tuple(rng.sample([name for name, _ in columns], rng.randrange(len(columns) + 1)))
        word = rng.choice(("count", "sum", "least", "greatest"))
        return ("group", query, keys, (("g", word, None if word == "count" else rng.choice(columns)[0]),))
    if choice == "same":
        return (rng.choice(("union", "join", "matching")), query, query)
    if choice == "columns":
        return (rng.choice(("union", "minus")), query, ("where", query, random_formula(rng, columns, 1)))
    if choice == "reference":
        return (rng.choice(("join", "matching")), query, ("name", rng.choice(("account", "pair"))))
    word = rng.choice(("join", "matching", "without"))
    return (word, query, random_query(rng, rng.randrange(min(stages, 3))))


def random_items(rng, columns):
    items = []
    for name, _ in rng.sample(columns, rng.randrange(1, len(columns) + 1)):
        new = rng.choice((name, name, "a", "b", "c"))
        expression = (("+", ("column", name)),)
        if rng.random() < 0.2:
            expression += (("-", ("integer", 1)),)
        items.append((new, expression))
    return tuple(items)


def random_formula(rng, columns, depth):
    choice = rng.randrange(10)
    if depth and choice < 4:
        many = rng.choice((2, 2, 3))
        parts = tuple([random_formula(rng, columns, depth - 1) for _ in range(many)])
        return (rng.choice(("and", "and", "or")), parts)
    if depth and choice < 6:
        return ("not", random_formula(rng, columns, depth - 1))
    if choice == 6:
        return (rng.choice(("true", "true", "false")),)
    name, kind = rng.choice(columns)
    other = ("string", rng.choice("ab")) if kind == ("string",) else ("integer", rng.randrange(4))
    if rng.random() < 0.2:
        other = ("column", rng.choice(columns)[0])
    return ("compare", rng.choice(("=", "!=", "<", ">=")), (("+", ("column", name)),), (("+", other),))

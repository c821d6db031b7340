"""Random entries of logs for a schema whose scripts often depend on each other."""

from indoubt.errors import IndoubtError
from indoubt.reader import read_query, read_schema, read_script
from random_facts import random_fact

SCHEMA = read_schema("""
table item (code integer, amount integer) key code limit 4 check amount >= 0;
table sale (n integer, code integer, amount integer) key n limit 3 check amount > 0 reference code to item;
view left = item | where amount > 0;
view sold = sale | group by code: total = sum amount;
deny oversold = item | join sold | where total > amount + 4;
""")
SCRIPTS = tuple([read_script(text) for text in (
    "insert item (1, 5), (2, 3);",
    "insert item (1, 2);",
    "insert item (3, 1); return left;",
    "insert sale (1, 1, 2); update item set amount = amount - 2 where code = 1;",
    "insert sale (2, 2, 3); update item set amount = amount - 3 where code = 2;",
    "require left | where code = 1; insert sale (3, 1, 4); update item set amount = amount - 4 where code = 1;",
    "update item set amount = amount + 4 where true;",
    "update item set code = 3 - code where code < 3;",
    "update item set amount = amount - 1 where true;",
    "delete sale where n = 1; return item; return sale;",
    "delete item where amount = 0;",
    "forbid sale; delete item where code = 3;",
    "require item;",
    "forbid left | where code = 2;",
    "insert sale from item | where code > 1 | select n = code, code, amount = 1;",
    "return sold; return left | group: n = count;",
)])
QUERIES = tuple([read_query(text) for text in (
    "item", "sale", "left | select code", "sold", "item | without sale", "item | join sold",
    "item | group: many = count, whole = sum amount",
    "sale | select code | union (item | select code)",
)])


def random_entries(rng, most, names):
    """Up to so many entries, in which every name is prepared at most once; some outcomes need not be admitted."""
    free = list(names)
    entries = []
    for _ in range(rng.randrange(most + 1)):
        choice = rng.randrange(10)
        if choice < 4:
            entries.append(("execute", rng.choice(SCRIPTS)))
        elif choice < 8 and free:
            name = free.pop(rng.randrange(len(free)))
            entries.append(("prepare", name, rng.randrange(1, 9), rng.choice(SCRIPTS)))
        else:
            entries.append(("learn", random_fact(rng, names, 2)))
    return tuple(entries)


def add(database, entry):
    """Adds the entry, and returns what the method returns."""
    if entry[0] == "execute":
        return database.execute(entry[1])
    if entry[0] == "learn":
        return database.learn(entry[1])
    return database.prepare(entry[1], entry[3], cost=entry[2])


def add_what_is_accepted(database, entries):
    """Adds those of the entries that raise no error, and returns the database."""
    for entry in entries:
        try:
            add(database, entry)
        except IndoubtError:
            pass
    return database

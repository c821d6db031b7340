"""Logs: the texts from which databases can be recovered."""

from indoubt.beginnings import is_cost
from indoubt.conditional import conditional_rows
from indoubt.conditions import fact_of
from indoubt.engine import Database, add_entry
from indoubt.errors import BeginningIncomplete, IndoubtError, InvalidBeginning, InvalidLine
from indoubt.facts import holds
from indoubt.printer import show_fact, show_row, show_schema, show_script
from indoubt.reader import read_conditional_row, read_fact, read_schema, read_script
from indoubt.tokens import is_name

LONGEST_COST = 4


def log_text(database):
    """Return the log of the database."""
    lines = _beginning_lines(database.schema, database.beginning)
    return _text_of(lines + [_entry_line(entry) for entry in database])


def snapshot_text(database):
    """Return the snapshot text of the database."""
    return _text_of(_beginning_lines(database.schema, database.snapshot()))


def recover(text):
    """Return the database that is recovered from the complete lines of the text."""
    lines = text.split("\n")[:-1]
    if "begin" not in lines:
        raise BeginningIncomplete("there is no complete line begin")
    end = lines.index("begin") + 1
    database = _recovered_beginning(lines[:end])
    for number, line in enumerate(lines[end:], start=end + 1):
        if not _accepts(database, line):
            raise InvalidLine(number)
    return database


def _text_of(lines):
    return "".join([line + "\n" for line in lines])


def _beginning_lines(schema, beginning):
    """Return the list of the lines of a beginning."""
    pending, possible, tables = beginning
    lines = ["schema " + show_schema(schema)]
    for name, cost, prepared in pending:
        state = "prepared" if prepared else "mentioned"
        lines.append(f"undecided {name} {cost} {state}")
    for outcome in possible:
        lines.append(" ".join(("possible",) + outcome))
    known = ((), tuple([name for name, _, _ in pending]), possible)
    for table in schema[0]:
        for row, condition in conditional_rows(known, [one[table[0]] for one in tables]):
            lines.append(f"row {table[0]} {show_row(row)} when {show_fact(fact_of(condition))}")
    lines.append("begin")
    return lines


def _entry_line(entry):
    if entry[0] == "learn":
        return "learn " + show_fact(entry[1])
    if entry[0] == "execute":
        return "execute " + show_script(entry[1])
    _, name, cost, script = entry
    return f"prepare {name} {cost} {show_script(script)}"


def _recovered_beginning(lines):
    """Return the database without entries whose log has exactly these lines."""
    try:
        database = _read_beginning(lines)
    except IndoubtError:
        raise InvalidBeginning("the lines of the beginning cannot be read") from None
    if _beginning_lines(database.schema, database.beginning) != lines:
        raise InvalidBeginning("the lines of the beginning are not those of a log")
    return database


def _read_beginning(lines):
    """Read the lines of a beginning, which may be written in another way than in a log, or stand in another order."""
    schema = read_schema(lines[0].removeprefix("schema "))
    pending = []
    possible = []
    placed = []
    for line in lines[1:-1]:
        word, _, rest = line.partition(" ")
        if word == "undecided":
            pending.append(_read_pending(rest))
        elif word == "possible":
            possible.append(tuple(rest.split()))
        elif word == "row":
            placed.append(read_conditional_row(rest))
        else:
            raise InvalidBeginning("a line is not one of a beginning")
    tables = [_tables_for(schema, placed, outcome) for outcome in possible]
    return Database(schema, beginning=(tuple(pending), tuple(possible), tuple(tables)))


def _read_pending(text):
    words = text.split(" ")
    if len(words) != 3:
        raise InvalidBeginning("a line undecided has not the right number of parts")
    name, digits, state = words
    if not is_name(name) or not _is_cost_text(digits):
        raise InvalidBeginning("a line undecided has a wrong part")
    return (name, int(digits), state == "prepared")


def _is_cost_text(digits):
    # More digits are not converted, because there is no end to how long that could take.
    return 0 < len(digits) <= LONGEST_COST and digits.isdigit() and is_cost(int(digits))


def _tables_for(schema, placed, outcome):
    """Return the tables with those rows whose facts are true for the outcome."""
    present = [(name, row) for name, row, fact in placed if holds(fact, outcome)]
    return {table[0]: tuple([row for name, row in present if name == table[0]]) for table in schema[0]}


def _accepts(database, line):
    """Add the entry of the line to the database, if the database accepts it; tell whether it does."""
    try:
        entry = _read_entry(line)
        if entry is None or _entry_line(entry) != line:
            return False
        add_entry(database, entry)
    except IndoubtError:
        return False
    return True


def _read_entry(line):
    """Return the entry of the line, or None if it is not the line of an entry."""
    word, _, rest = line.partition(" ")
    if word == "execute":
        return ("execute", read_script(rest))
    if word == "learn":
        return ("learn", read_fact(rest))
    if word != "prepare":
        return None
    name, _, others = rest.partition(" ")
    digits, _, text = others.partition(" ")
    if not is_name(name) or not _is_cost_text(digits):
        return None
    return ("prepare", name, int(digits), read_script(text))

"""The grammar of the texts, and what can stand where: worked out straight from its rules, however slowly.

A `^` before a part says that it is one level deeper than what stands before it in the same rule.
"""

import re

QUERIES = """
query       = source { "|" stage }
source      = name | "(" ^query ")"
stage       = "where" formula
            | "select" item { "," item }
            | ( "join" | "union" | "minus" | "matching" | "without" ) source
            | "group" [ "by" names ] ":" aggregate { "," aggregate }
item        = name [ "=" expression ]
aggregate   = name "=" ( "count" | ( "sum" | "least" | "greatest" ) name )
expression  = operand { ( "+" | "-" ) operand }
operand     = name | value
value       = string | [ "-" ] number
formula     = disjunction [ "implies" ^formula ]
disjunction = conjunction { "or" conjunction }
conjunction = unary { "and" unary }
unary       = "not" ^unary | "(" ^formula ")" | atom
atom        = "true" | "false"
            | expression ( "=" | "!=" | "<" | "<=" | ">" | ">=" ) expression
names       = name { "," name }
"""
SCHEMAS = QUERIES + """
schema      = table { table } { view } { denial }
table       = "table" name "(" column { "," column } ")" "key" names "limit" limit
              { "check" formula } { "reference" names "to" name } ";"
column      = name ( "integer" | "string" )
view        = "view" name "=" query ";"
denial      = "deny" name "=" query ";"
"""
SCRIPTS = QUERIES + """
script      = statement { statement }
statement   = "insert" name row { "," row } ";"
            | "insert" name "from" query ";"
            | "update" name "set" assignment { "," assignment } "where" formula ";"
            | "delete" name "where" formula ";"
            | ( "require" | "forbid" | "return" ) query ";"
row         = "(" value { "," value } ")"
assignment  = name "=" expression
"""
FACTS = """
fact        = formula
formula     = disjunction [ "implies" ^formula ]
disjunction = conjunction { "or" conjunction }
conjunction = unary { "and" unary }
unary       = "not" ^unary | "(" ^formula ")" | atom
atom        = "true" | "false" | name | "one" "of" "(" names ")"
names       = name { "," name }
"""
KINDS = {"name", "number", "string", "limit"}
SOME_TOKENS = {
    "name": ("a", "b", "t1", "wherever", "nota", "a_very_long_name"),
    "number": ("0", "7", "60", "61", "0000005", "1000000"),
    "string": ("''", "'x'", "'it''s'", "'('", "'a = 1, 2; '"),
    "limit": ("1", "9", "60", "060"),
}
RESERVED = """
table key limit check reference to view deny integer string
where select join union minus matching without group by count sum least greatest
insert from update set delete require forbid return
and or not implies true false one of
""".split()
SYMBOLS = "!= <= >= ( ) , ; | = < > + - :".split()
# One token of each sort that the grammar tells apart, and the words that it knows.
VOCABULARY = RESERVED + SYMBOLS + ["a", "0", "60", "61", "'x'"]


class State:
    """What a reader may be in the middle of, behind some of the tokens of a text."""

    def __init__(self):
        self.items = set()
        self.waiting = {}
        self.empty = set()


class Grammar:
    """The rules of one kind of text, whose levels go up to `deepest`."""

    def __init__(self, rules, deepest=20):
        self.deepest = deepest
        self.alternatives = {}
        self.known_sides = {}
        for line in re.sub(r"\n +", " ", rules).split("\n"):
            if not line:
                continue
            name, right = re.split(r"\s+= ", line, maxsplit=1)
            parts = re.findall(r'"[^"]*"|\^?[a-z]+|[{}\[\]()|]', right)
            self.alternatives[name] = self._alternatives(parts)

    def _alternatives(self, parts):
        """Read alternatives up to a closing bracket or the end; make a name for each group."""
        found = [[]]
        while parts and parts[0] not in ("}", "]", ")"):
            part = parts.pop(0)
            if part == "|":
                found.append([])
            elif part in ("{", "[", "("):
                inner = self._alternatives(parts)
                parts.pop(0)
                group = f"group {len(self.alternatives)}"
                self.alternatives[group] = []
                if part == "{":
                    inner = [side + [group] for side in inner]
                if part != "(":
                    inner = [[]] + inner
                self.alternatives[group] = inner
                found[-1].append(group)
            else:
                found[-1].append(part)
        return found

    def sides(self, name, level):
        """The right sides of the rule on the level: tuples of pairs of a symbol and its level."""
        if (name, level) not in self.known_sides:
            self.known_sides[name, level] = [
                tuple([(symbol.lstrip("^"), level + symbol.startswith("^")) for symbol in side])
                for side in self.alternatives[name]
                if level < self.deepest or not any(symbol.startswith("^") for symbol in side)]
        return self.known_sides[name, level]

    def is_terminal(self, symbol):
        return symbol.startswith('"') or symbol in KINDS

    def states(self, start, tokens):
        """One state for each number of tokens from 0 on, as long as a text can begin with these tokens."""
        states = [State()]
        self._add(states, [(("", 0), ((start, 0),), 0, 0)])
        for token in tokens:
            before = states[-1]
            states.append(State())
            self._add(states, [
                (name, side, dot + 1, origin) for symbol, items in before.waiting.items() if fits(symbol[0], token)
                for name, side, dot, origin in items])
            if not states[-1].items:
                break
        return states

    def _add(self, states, items):
        """Add the items to the last state, and all that follow from them."""
        state = states[-1]
        place = len(states) - 1
        todo = list(items)
        while todo:
            item = todo.pop()
            if item in state.items:
                continue
            state.items.add(item)
            name, side, dot, origin = item
            if dot == len(side):
                if origin == place:
                    state.empty.add(name)
                todo.extend([(up, up_side, up_dot + 1, up_origin)
                             for up, up_side, up_dot, up_origin in states[origin].waiting.get(name, ())])
                continue
            symbol = side[dot]
            if symbol not in state.waiting:
                state.waiting[symbol] = []
                if not self.is_terminal(symbol[0]):
                    todo.extend([(symbol, new, 0, place) for new in self.sides(*symbol)])
            state.waiting[symbol].append(item)
            if symbol in state.empty:
                todo.append((name, side, dot + 1, origin))

    def wanted(self, state):
        """The terminals that can stand behind the tokens that led to the state."""
        return {symbol for symbol, _ in state.waiting if self.is_terminal(symbol)}

    def is_complete(self, state):
        return any(name == ("", 0) and dot == len(side) for name, side, dot, _ in state.items)

    def random_tokens(self, start, random, deep=0.5):
        """The tokens of some text; the higher `deep` is, the more levels it has."""
        return self._random(start, 0, random, deep, [60])

    def _random(self, symbol, level, random, deep, fuel):
        if symbol.startswith('"'):
            return [symbol.strip('"')]
        if symbol in KINDS:
            return [random.choice(SOME_TOKENS[symbol])]
        fuel[0] -= 1
        sides = self.sides(symbol, level)
        deeper = [side for side in sides if any(below > level for _, below in side)]
        if deeper and random.random() < deep and level < 22:
            side = random.choice(deeper)
        elif fuel[0] < 0 and () in sides:
            side = ()
        elif fuel[0] < 0 and len(deeper) < len(sides):
            side = random.choice([side for side in sides if side not in deeper])
        else:
            side = random.choice(sides)
        tokens = []
        for part, below in side:
            tokens.extend(self._random(part, below, random, deep, fuel))
        return tokens


def fits(terminal, token):
    """Whether the token is one for which the terminal stands."""
    if terminal.startswith('"'):
        return terminal == f'"{token}"'
    if terminal == "string":
        return token.startswith("'")
    if terminal == "name":
        return re.fullmatch("[a-z][a-z0-9_]*", token) is not None and token not in RESERVED
    if not token.isdigit():
        return False
    return terminal == "number" or terminal == "limit" and 1 <= int(token) <= 60


class Oracle:
    """Says what becomes of a text: None if it follows the grammar, otherwise the number of the wrong token."""

    def __init__(self, rules, start):
        self.start = start
        self.limited = Grammar(rules)
        self.unlimited = Grammar(rules, 1000)

    def verdict(self, tokens):
        """None, or a pair of the number of tokens before the error and the name of its class."""
        states = self.limited.states(self.start, tokens)
        if states[-1].items:
            if self.limited.is_complete(states[-1]):
                return None
            return (len(tokens), "UnexpectedToken")
        right = len(states) - 2
        if self.unlimited.states(self.start, tokens[:right + 1])[-1].items:
            return (right, "NestedTooDeeply")
        return (right, "UnexpectedToken")


ORACLES = {
    "schema": Oracle(SCHEMAS, "schema"),
    "query": Oracle(QUERIES, "query"),
    "script": Oracle(SCRIPTS, "script"),
    "fact": Oracle(FACTS, "fact"),
}


def text_of(tokens, random=None):
    """The text of the tokens, and the list of their places; with `random`, also with needless blanks."""
    text = ""
    places = []
    for token in tokens:
        text += " " if random is None else random.choice((" ", "\n", "  ", " \n "))
        places.append(len(text))
        text += token
    return text, places + [len(text)]

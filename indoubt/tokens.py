"""The division of texts into tokens, and what a name is."""

from indoubt.errors import NameTooLong, NumberTooLarge, StringNotClosed, StringTooLong, UnexpectedCharacter

LETTERS = "abcdefghijklmnopqrstuvwxyz"
DIGITS = "0123456789"
WORD_CHARACTERS = "abcdefghijklmnopqrstuvwxyz_0123456789"
LONGEST_WORD = 16
MOST_DIGITS = 7
LARGEST_NUMBER = 1000000
LONGEST_STRING = 20
# A symbol that begins with another one stands before it, so that the longer one is found first.
SYMBOLS = ("!=", "<=", ">=", "(", ")", ",", ";", "|", "=", "<", ">", "+", "-", ":")
RESERVED = (
    "table", "key", "limit", "check", "reference", "to", "view", "deny", "integer", "string",
    "where", "select", "join", "union", "minus", "matching", "without", "group", "by",
    "count", "sum", "least", "greatest",
    "insert", "from", "update", "set", "delete", "require", "forbid", "return",
    "and", "or", "not", "implies", "true", "false", "one", "of",
)


def tokens_of(text):
    """Return the tokens of the text as triples of a kind, a value and a place; raise the error of the first place."""
    tokens = []
    place = 0
    while place < len(text):
        if text[place] in " \n":
            place = place + 1
        else:
            token, place = _token_at(text, place)
            tokens.append(token)
    return tuple(tokens)


def is_name(text):
    """Tell whether the text is a name and nothing else."""
    if not text or len(text) > LONGEST_WORD or text[0] not in LETTERS:
        return False
    return _end_of_run(text, 0, WORD_CHARACTERS) == len(text) and text not in RESERVED


def _token_at(text, place):
    """Return the token that begins at the place, and the place behind it."""
    first = text[place]
    if first in LETTERS:
        return _word_at(text, place)
    if first in DIGITS:
        return _number_at(text, place)
    if first == "'":
        return _string_at(text, place)
    for symbol in SYMBOLS:
        if text.startswith(symbol, place):
            return (("symbol", symbol, place), place + len(symbol))
    raise UnexpectedCharacter(place)


def _word_at(text, place):
    end = _end_of_run(text, place, WORD_CHARACTERS)
    if end - place > LONGEST_WORD:
        raise NameTooLong(place)
    return (("word", text[place:end], place), end)


def _number_at(text, place):
    end = _end_of_run(text, place, DIGITS)
    if end - place > MOST_DIGITS:
        raise NumberTooLarge(place)
    number = int(text[place:end])
    if number > LARGEST_NUMBER:
        raise NumberTooLarge(place)
    return (("number", number, place), end)


def _string_at(text, place):
    characters = []
    at = place + 1
    # An apostrophe ends the string, unless another one stands directly behind it.
    while text[at:at + 1] != "'" or text[at:at + 2] == "''":
        if at >= len(text):
            raise StringNotClosed(place)
        if text[at] == "\n":
            raise UnexpectedCharacter(at)
        characters.append(text[at])
        if text[at] == "'":
            at = at + 2
        else:
            at = at + 1
    if len(characters) > LONGEST_STRING:
        raise StringTooLong(place)
    return (("string", "".join(characters), place), at + 1)


def _end_of_run(text, place, characters):
    """Return the first place, from the given one on, at which none of the characters stands."""
    while place < len(text) and text[place] in characters:
        place = place + 1
    return place

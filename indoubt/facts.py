"""Facts about the outcomes of transactions."""


def names_of(fact):
    """Return the names in the fact, each once, in the order in which they occur first."""
    found = {}
    _add_names(fact, found)
    return tuple(found)


def holds(fact, committed):
    """Tell whether the fact is true when exactly the transactions with these names commit."""
    word = fact[0]
    if word == "commits":
        return fact[1] in committed
    if word == "one of":
        return len([name for name in fact[1] if name in committed]) == 1
    if word == "not":
        return not holds(fact[1], committed)
    if word == "and":
        return all(holds(part, committed) for part in fact[1])
    if word == "or":
        return any(holds(part, committed) for part in fact[1])
    if word == "implies":
        return not holds(fact[1], committed) or holds(fact[2], committed)
    return word == "true"


def _add_names(fact, found):
    """Add the names in the fact to the dict."""
    word = fact[0]
    if word == "commits":
        found[fact[1]] = True
    elif word == "one of":
        for name in fact[1]:
            found[name] = True
    elif word == "and" or word == "or":
        for part in fact[1]:
            _add_names(part, found)
    else:
        for part in fact[1:]:
            _add_names(part, found)

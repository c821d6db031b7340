"""Facts that are made of facts. Constants and repeated parts are left out, so that the facts stay small."""

ALWAYS = ("true",)
NEVER = ("false",)


def negation(fact):
    """Return a fact that is true exactly where the fact is not."""
    if fact == ALWAYS:
        return NEVER
    if fact == NEVER:
        return ALWAYS
    if fact[0] == "not":
        return fact[1]
    return ("not", fact)


def all_of(facts):
    """Return a fact that is true exactly where all of the facts are."""
    return _joined("and", facts, ALWAYS, NEVER)


def any_of(facts):
    """Return a fact that is true exactly where at least one of the facts is."""
    return _joined("or", facts, NEVER, ALWAYS)


def chosen(fact, where_true, where_false):
    """Return a fact that is true exactly where one of two facts is: the fact tells which of them counts."""
    if where_true == where_false:
        return where_true
    if where_true == ALWAYS:
        return any_of((fact, where_false))
    if where_false == ALWAYS:
        return any_of((negation(fact), where_true))
    # In this form `holds` looks at the large facts only where they count.
    return any_of((all_of((fact, where_true)), all_of((negation(fact), where_false))))


def parts_of_and(fact):
    """Return the parts of an "and", or the fact itself as the only part."""
    return _parts("and", fact)


def _joined(word, facts, neutral, ruling):
    """Join the facts by the word, for which one constant makes no difference and the other one is the result."""
    parts = []
    for fact in facts:
        for part in _parts(word, fact):
            if part == ruling or negation(part) in parts:
                return ruling
            if part != neutral and part not in parts:
                parts.append(part)
    if not parts:
        return neutral
    if len(parts) == 1:
        return parts[0]
    return (word, tuple(parts))


def _parts(word, fact):
    if fact[0] == word:
        return fact[1]
    return (fact,)

"""Certificates: why a claim is true for all admitted outcomes, from a beginning and entries alone."""

from indoubt.facts import names_of
from indoubt.replays import Replay
from indoubt.schemas import answer_on

# Inside this file an assignment is a dict from names to True (it commits) or False (it aborts).


def truth(fact, assigned):
    """Return True, False, or None if the fact is open under the assignment."""
    return _truth(fact, dict(assigned))


def excludes(schema, beginning, entries, number, assigned):
    """Tell whether the number of the beginning or of an entry excludes the assignment."""
    return _excludes(Replay(schema, beginning, entries), entries, number, dict(assigned))


def claim_value(schema, beginning, entries, claim, assigned):
    """Return True, False, or None if the claim is open under the assignment."""
    return _claim_value(Replay(schema, beginning, entries), claim, dict(assigned))


def check_certificate(schema, beginning, entries, claim, certificate):
    """Tell whether the certificate is right for the claim."""
    return _is_right(Replay(schema, beginning, entries), entries, claim, certificate, {})


def settle(schema, beginning, entries, claim):
    """Return the pair of "certain" and a certificate, or that of "open" and the names that commit."""
    replay = Replay(schema, beginning, entries)
    return _settle(replay, entries, claim, _names_that_matter(beginning, entries, claim), {})


def _truth(fact, outcomes):
    word = fact[0]
    if word == "commits":
        return outcomes.get(fact[1])
    if word == "one of":
        return _truth_of_one(fact[1], outcomes)
    if word == "not":
        return _opposite(_truth(fact[1], outcomes))
    if word == "and":
        return _truth_of_all(fact[1], outcomes)
    if word == "or":
        return _opposite(_truth_of_all([("not", part) for part in fact[1]], outcomes))
    if word == "implies":
        return _truth(("or", (("not", fact[1]), fact[2])), outcomes)
    return word == "true"


def _truth_of_one(names, outcomes):
    values = [outcomes.get(name) for name in names]
    if len([value for value in values if value]) > 1:
        return False
    if None in values:
        return None
    return True in values


def _truth_of_all(facts, outcomes):
    found = True
    for fact in facts:
        value = _truth(fact, outcomes)
        if value is False:
            return False
        if value is None:
            found = None
    return found


def _opposite(value):
    if value is None:
        return None
    return not value


def _excludes(replay, entries, number, outcomes):
    if number == 0:
        return not replay.fits(outcomes)
    entry = entries[number - 1]
    if entry[0] == "learn":
        return _truth(entry[1], outcomes) is False
    if entry[0] == "execute" or not outcomes.get(entry[1]):
        return False
    before = len([other for other in entries[:number - 1] if other[0] != "learn"])
    return replay.determines(outcomes, before) and replay.result_at(outcomes, before + 1)[0] == "failed"


def _claim_value(replay, claim, outcomes):
    word = claim[0]
    if word == "fact":
        return _truth(claim[1], outcomes)
    if word == "result":
        _, version, result = claim
        if not replay.determines(outcomes, version - 1):
            return None
        return replay.result_at(outcomes, version) == result
    _, version, query, row = claim
    if not replay.determines(outcomes, version):
        return None
    rows = answer_on(replay.declared, replay.tables_after(outcomes, version), query)[1]
    return (row in rows) == (word == "row")


def _is_right(replay, entries, claim, certificate, outcomes):
    if certificate[0] == "holds":
        return _claim_value(replay, claim, outcomes) is True
    if certificate[0] == "excluded":
        number = certificate[1]
        return 0 <= number <= len(entries) and _excludes(replay, entries, number, outcomes)
    _, name, if_commits, if_aborts = certificate
    if name in outcomes:
        return False
    if not _is_right(replay, entries, claim, if_commits, {**outcomes, name: True}):
        return False
    return _is_right(replay, entries, claim, if_aborts, {**outcomes, name: False})


def _names_that_matter(beginning, entries, claim):
    """Return the ascending list of the names on which the claim can depend."""
    found = [name for name, _, _ in beginning[0]]
    for entry in entries:
        if entry[0] == "learn":
            found.extend(names_of(entry[1]))
        elif entry[0] == "prepare":
            found.append(entry[1])
    if claim[0] == "fact":
        found.extend(names_of(claim[1]))
    return sorted(set(found))


def _settle(replay, entries, claim, names, outcomes):
    """Settle the claim under the assignment; `names` are the names that matter and are not assigned, in order."""
    if _claim_value(replay, claim, outcomes):
        return ("certain", ("holds",))
    for number in range(len(entries) + 1):
        if _excludes(replay, entries, number, outcomes):
            return ("certain", ("excluded", number))
    if not names:
        # The names were assigned in ascending order.
        return ("open", tuple([name for name in outcomes if outcomes[name]]))
    name = names[0]
    if_commits = _settle(replay, entries, claim, names[1:], {**outcomes, name: True})
    if if_commits[0] == "open":
        return if_commits
    if_aborts = _settle(replay, entries, claim, names[1:], {**outcomes, name: False})
    if if_aborts[0] == "open":
        return if_aborts
    return ("certain", ("ask", name, if_commits[1], if_aborts[1]))

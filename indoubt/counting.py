"""Facts that say how many of several facts are true.

A fact is counted as a *term*: the tuple of the numbers of its parts, all of which must be true. The parts are numbered
from 1, and a number below 0 stands for the negation of a part. So parts that terms have in common can be found.
"""

from indoubt.composing import ALWAYS, NEVER, all_of, any_of, chosen, negation, parts_of_and


def threshold(number, facts):
    """Return a fact that is true exactly where at least `number` places of the facts hold true ones."""
    parts = []
    terms = []
    for fact in facts:
        # Joining a single fact leaves out its constants.
        simple = all_of((fact,))
        if simple != NEVER:
            terms.append(_term(simple, parts))
    return _counted(number, terms, parts, {})


def _term(fact, parts):
    """Return the term of a fact; parts that are not yet numbered are added to the list."""
    if fact == ALWAYS:
        return ()
    return tuple(sorted([_literal(part, parts) for part in parts_of_and(fact)]))


def _literal(part, parts):
    if part[0] == "not":
        return -_literal(part[1], parts)
    if part not in parts:
        parts.append(part)
    return parts.index(part) + 1


def _counted(number, terms, parts, made):
    """Return the fact that at least so many of the terms are true; `made` has the facts that were made before."""
    waiting = tuple(sorted([term for term in terms if term]))
    missing = number - (len(terms) - len(waiting))
    if missing <= 0:
        return ALWAYS
    if missing > len(waiting):
        return NEVER
    if (missing, waiting) not in made:
        made[(missing, waiting)] = _made(missing, waiting, parts, made)
    return made[(missing, waiting)]


def _made(number, terms, parts, made):
    if number == 1:
        return any_of([_fact_of_term(term, parts) for term in terms])
    if number == len(terms):
        return all_of([_fact_of_term(term, parts) for term in terms])
    groups = _separate_groups(terms)
    if len(groups) == 1:
        return _by_part(number, terms, parts, made)
    return _by_halves(number, groups, parts, made)


def _fact_of_term(term, parts):
    return all_of([_fact_of_literal(literal, parts) for literal in term])


def _fact_of_literal(literal, parts):
    if literal < 0:
        return negation(parts[-literal - 1])
    return parts[literal - 1]


def _separate_groups(terms):
    """Divide the terms into groups that have no parts in common."""
    groups = []
    for term in terms:
        joined = [term]
        others = []
        for group in groups:
            if _share_parts(group, term):
                joined.extend(group)
            else:
                others.append(group)
        groups = others + [joined]
    return groups


def _share_parts(group, term):
    return any(literal in other or -literal in other for other in group for literal in term)


def _by_part(number, terms, parts, made):
    """Make the fact by telling apart whether the part that stands in most terms is true."""
    times = {}
    for term in terms:
        for literal in term:
            times[abs(literal)] = times.get(abs(literal), 0) + 1
    most = max(list(times.values()))
    part = min([literal for literal in times if times[literal] == most])
    where_true = _counted(number, _terms_with(part, terms), parts, made)
    where_false = _counted(number, _terms_with(-part, terms), parts, made)
    return chosen(parts[part - 1], where_true, where_false)


def _terms_with(literal, terms):
    """Return what is left of the terms where the literal is true."""
    return [tuple([other for other in term if other != literal]) for term in terms if -literal not in term]


def _by_halves(number, groups, parts, made):
    """Make the fact from facts about two halves of the groups; this makes smaller facts than going part by part."""
    left = []
    right = []
    for group in sorted(groups, key=_order_of_group):
        if len(left) <= len(right):
            left.extend(group)
        else:
            right.extend(group)
    ways = []
    for count in range(max(0, number - len(right)), min(number, len(left)) + 1):
        fewer = _counted(count, left, parts, made)
        ways.append(all_of((fewer, _counted(number - count, right, parts, made))))
    return any_of(ways)


def _order_of_group(group):
    """Return a key that puts larger groups first, so that the halves become alike."""
    return (-len(group), sorted(group))

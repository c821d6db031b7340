"""Knowledge about the outcomes of transactions."""

from indoubt.errors import Contradiction, TooManyUndecided
from indoubt.facts import holds, names_of

MOST_UNDECIDED = 6


def nothing_known():
    """Return the knowledge at the beginning."""
    return ((), (), ((),))


def mention(known, names):
    """Return the knowledge after the names have been mentioned."""
    decided, undecided, possible = known
    mentioned = sorted(set(names + undecided) - {name for name, _ in decided})
    if len(mentioned) > MOST_UNDECIDED:
        raise TooManyUndecided(len(mentioned))
    combined = [outcome for outcome in _all_outcomes(mentioned) if limited(outcome, undecided) in possible]
    return (decided, tuple(mentioned), tuple(combined))


def keep(known, outcomes):
    """Return the knowledge after these possible outcomes have been kept."""
    if not outcomes:
        raise Contradiction("no outcome would be possible any more")
    decided = list(known[0])
    undecided = []
    for name in known[1]:
        commits = [name in outcome for outcome in outcomes]
        if all(commits) or not any(commits):
            decided.append((name, commits[0]))
        else:
            undecided.append(name)
    return (tuple(sorted(decided)), tuple(undecided), tuple([limited(outcome, undecided) for outcome in outcomes]))


def learn(known, fact):
    """Return the knowledge after the fact has been learned."""
    mentioned = mention(known, names_of(fact))
    return keep(mentioned, outcomes_with(mentioned, fact))


def outcomes_with(known, fact):
    """Return the possible outcomes for which the fact is true; all names in the fact have been mentioned."""
    committed = committed_names(known)
    return tuple([outcome for outcome in known[2] if holds(fact, outcome + committed)])


def committed_names(known):
    """Return the names that are decided to commit."""
    return tuple([name for name, commits in known[0] if commits])


def limited(outcome, names):
    """Return what the outcome says about the names."""
    return tuple([name for name in outcome if name in names])


def _all_outcomes(names):
    """Return the list of all outcomes of the names, in the order of possible outcomes."""
    if not names:
        return [()]
    others = _all_outcomes(names[1:])
    return [(names[0],) + outcome for outcome in others] + others

"""Conditions, found by going through all cases in the words of the document."""

import functools
import itertools


def agrees(outcome, case):
    return all((name in outcome) == commits for name, commits in case)


def comes_before(case, other):
    """Whether the case comes before the other one, in the words of the document."""
    if len(case) != len(other):
        return len(case) < len(other)
    for (name, commits), (other_name, other_commits) in zip(case, other):
        if name != other_name:
            return name < other_name
        if commits != other_commits:
            return commits
    return False


def order(case, other):
    return -1 if comes_before(case, other) else 1


class SlowSearch:
    """Finds conditions by going through all cases in the words of the document."""

    def __init__(self, undecided, possible):
        self.cases = []
        for values in itertools.product((None, True, False), repeat=len(undecided)):
            self.cases.append(tuple([pair for pair in zip(undecided, values) if pair[1] is not None]))
        self.cases = sorted(self.cases, key=functools.cmp_to_key(order))
        self.agreeing = {
            case: frozenset([outcome for outcome in possible if agrees(outcome, case)]) for case in self.cases}
        self.shorter = {case: [case[:at] + case[at + 1:] for at in range(len(case))] for case in self.cases}

    def condition(self, chosen):
        chosen = frozenset(chosen)
        implying = {case for case in self.cases if self.agreeing[case] and self.agreeing[case] <= chosen}
        minimal = [case for case in self.cases if case in implying and not implying.intersection(self.shorter[case])]
        kept = list(minimal)
        for case in reversed(minimal):
            others = [self.agreeing[other] for other in kept if other != case]
            if self.agreeing[case] <= frozenset().union(*others):
                kept.remove(case)
        return tuple(kept)


def all_outcomes(names):
    """All outcomes of the names, those that commit in the order of the names, as they are listed in knowledge."""
    found = []
    for values in itertools.product((True, False), repeat=len(names)):
        found.append(tuple([name for name, commits in zip(names, values) if commits]))
    return found

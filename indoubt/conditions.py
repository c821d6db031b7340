"""Conditions: the cases in which something holds."""


def condition_of(undecided, possible, chosen):
    """Return the condition of the set of the chosen outcomes among the possible ones."""
    # Sets of outcomes are numbers here, with one binary digit for each possible outcome.
    digits = {outcome: 1 << place for place, outcome in enumerate(possible)}
    wanted = sum([digits[outcome] for outcome in chosen])
    agreeing = _agreeing_outcomes(undecided, digits)
    implying = {case: found for case, found in agreeing.items() if found | wanted == wanted}
    minimal = [case for case in implying if _is_minimal(case, implying)]
    return _needed_cases(sorted(minimal, key=_place_of_case), implying)


def holds_in(condition, outcome):
    """Tell whether the condition holds in the possible outcome."""
    return any(_agrees(outcome, case) for case in condition)


def fact_of(condition):
    """Return the condition as a fact."""
    if not condition:
        return ("false",)
    return _together("or", [_fact_of_case(case) for case in condition])


def _agreeing_outcomes(undecided, digits):
    """Return a dict with the set of the outcomes that agree with it for each case with which an outcome agrees."""
    everything = sum(list(digits.values()))
    agreeing = {(): everything}
    for name in undecided:
        commits = sum([digit for outcome, digit in digits.items() if name in outcome])
        for case, found in list(agreeing.items()):
            if found & commits:
                agreeing[case + ((name, True),)] = found & commits
            if found & (everything - commits):
                agreeing[case + ((name, False),)] = found & (everything - commits)
    return agreeing


def _is_minimal(case, implying):
    """Tell whether none of the cases that arise from the case by leaving out one pair implies the set, too."""
    return all(case[:place] + case[place + 1:] not in implying for place in range(len(case)))


def _place_of_case(case):
    """Return a key by which cases are put into their order."""
    return (len(case), [(name, not commits) for name, commits in case])


def _needed_cases(minimal, agreeing):
    """Return the tuple of the cases that remain of the minimal ones when those that are not needed are left out."""
    kept = minimal
    for case in reversed(list(minimal)):
        others = [other for other in kept if other != case]
        covered = 0
        for other in others:
            covered = covered | agreeing[other]
        if agreeing[case] | covered == covered:
            kept = others
    return tuple(kept)


def _agrees(outcome, case):
    return all((name in outcome) == commits for name, commits in case)


def _fact_of_case(case):
    if not case:
        return ("true",)
    return _together("and", [_fact_of_pair(name, commits) for name, commits in case])


def _fact_of_pair(name, commits):
    if commits:
        return ("commits", name)
    return ("not", ("commits", name))


def _together(word, parts):
    """Return the fact with the parts, which is the part itself if there is only one."""
    if len(parts) == 1:
        return parts[0]
    return (word, tuple(parts))

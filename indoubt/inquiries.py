"""Strategies: how to find out a result by asking for the outcomes of transactions."""


def cheapest(undecided, possible, results, costs):
    """Return the cost of the cheapest strategy for all possible outcomes, and this strategy."""
    return _cheapest(undecided, tuple(zip(possible, results)), costs, {})


def strategy_cost(strategy, costs):
    """Return the greatest total cost of the questions on a way through the strategy."""
    if strategy[0] == "result":
        return 0
    _, name, if_commits, if_aborts = strategy
    return costs[name] + max(strategy_cost(if_commits, costs), strategy_cost(if_aborts, costs))


def follow(strategy, outcome):
    """Return the index to which the strategy leads if exactly the transactions in the outcome commit."""
    reached = strategy
    while reached[0] == "ask":
        _, name, if_commits, if_aborts = reached
        if name in outcome:
            reached = if_commits
        else:
            reached = if_aborts
    return reached[1]


def _cheapest(undecided, cases, costs, found):
    """Find the cheapest strategy for cases, which are pairs of a possible outcome and the number of its result."""
    # The same cases are left over after the same answers in another order, so what was found is kept.
    if cases not in found:
        if len({number for _, number in cases}) == 1:
            found[cases] = (0, ("result", cases[0][1]))
        else:
            ways = [_asking_first(name, undecided, cases, costs, found) for name in undecided if _divides(name, cases)]
            least = min([cost for cost, _ in ways])
            found[cases] = [way for way in ways if way[0] == least][0]
    return found[cases]


def _divides(name, cases):
    """Tell whether the transaction commits in some of the cases and aborts in others."""
    return len({name in outcome for outcome, _ in cases}) == 2


def _asking_first(name, undecided, cases, costs, found):
    """Return the cost and the strategy of asking for the name first."""
    with_commit = tuple([case for case in cases if name in case[0]])
    with_abort = tuple([case for case in cases if name not in case[0]])
    cost_of_commit, if_commits = _cheapest(undecided, with_commit, costs, found)
    cost_of_abort, if_aborts = _cheapest(undecided, with_abort, costs, found)
    return (costs[name] + max(cost_of_commit, cost_of_abort), ("ask", name, if_commits, if_aborts))

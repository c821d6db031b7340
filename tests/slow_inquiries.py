"""The cheapest strategy, straight from the words of the document."""


def slow_cost(strategy, costs):
    """The greatest total cost of the questions on a way, by going along every way."""
    ways = []
    collect_ways(strategy, [], ways)
    return max([sum([costs[name] for name in way]) for way in ways])


def collect_ways(strategy, asked, ways):
    if strategy[0] == "result":
        ways.append(asked)
    else:
        collect_ways(strategy[2], asked + [strategy[1]], ways)
        collect_ways(strategy[3], asked + [strategy[1]], ways)


def slow_cheapest(undecided, possible, results, costs):
    numbers = dict(zip(possible, results))
    if len(set(results)) == 1:
        return ("result", results[0])
    best = None
    for name in undecided:
        parts = [[one for one in possible if (name in one) == commits] for commits in (True, False)]
        if parts[0] and parts[1]:
            below = [slow_cheapest(undecided, part, [numbers[one] for one in part], costs) for part in parts]
            strategy = ("ask", name, below[0], below[1])
            if best is None or slow_cost(strategy, costs) < slow_cost(best, costs):
                best = strategy
    return best

"""Random facts about given names."""


def random_fact(rng, names, depth):
    """A fact with at most 2 to the power of `depth` parts; a "one of" in it has at most three places."""
    choice = rng.randrange(12)
    if depth == 0 or choice < 4:
        return ("commits", rng.choice(names))
    if choice < 6:
        return ("not", random_fact(rng, names, depth - 1))
    if choice == 6:
        return ("one of", tuple([rng.choice(names) for _ in range(rng.randrange(1, 4))]))
    if choice == 7:
        return (rng.choice(("true", "false")),)
    if choice < 10:
        return (rng.choice(("and", "or")), tuple([random_fact(rng, names, depth - 1) for _ in range(2)]))
    return ("implies", random_fact(rng, names, depth - 1), random_fact(rng, names, depth - 1))

"""Promises, by which one participant tells the others what its vote is."""

from indoubt.conditions import fact_of


def promise(name, vote):
    """Return the promise on the transaction with this name: it commits only if the vote holds."""
    return ("implies", ("commits", name), fact_of(vote))

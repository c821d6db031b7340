"""What depends on the possible outcomes, with the conditions under which it holds.

The possible outcomes of knowledge are referred to by their places in its tuple of possible outcomes.
"""

from indoubt.conditions import condition_of
from indoubt.values import sorted_rows


def condition_at(known, places):
    """Return the condition of the set of the possible outcomes at these places, which are in ascending order."""
    _, undecided, possible = known
    return condition_of(undecided, possible, tuple([possible[place] for place in places]))


def conditional_rows(known, relations):
    """Return the pairs of a row and its condition, given a tuple of rows for each possible outcome."""
    places_of_row = {}
    for place, rows in enumerate(relations):
        for row in rows:
            places_of_row.setdefault(row, []).append(place)
    # Many rows have the same condition, and finding one takes long.
    conditions = {}
    pairs = []
    for row in sorted_rows(tuple(places_of_row)):
        places = tuple(places_of_row[row])
        if places not in conditions:
            conditions[places] = condition_at(known, places)
        pairs.append((row, conditions[places]))
    return tuple(pairs)


def conditional_results(known, results):
    """Return the pairs of a result and its condition, given the result for each possible outcome."""
    different = list({result: True for result in results})
    return tuple([(result, condition_at(known, _places_with(result, results))) for result in different])


def _places_with(wanted, results):
    return [place for place, result in enumerate(results) if result == wanted]

"""Plans: queries that are rewritten by steps."""

from indoubt.queries import parts_of
from indoubt.rules import first_rule, rewritten_by
from indoubt.schemas import shapes_of


def apply_step(schema, query, step):
    """Return the query that results from the step, or None if the step cannot be applied."""
    return _applied(schema, shapes_of(schema), query, step)


def plan_for(schema, query):
    """Return the rewritten query of the planner, and its steps."""
    shapes = shapes_of(schema)
    steps = []
    step = _first_step(schema, shapes, query, ())
    while step is not None:
        query = _applied(schema, shapes, query, step)
        steps.append(step)
        step = _first_step(schema, shapes, query, ())
    return (query, tuple(steps))


def check_plan(schema, query, plan):
    """Tell whether the plan is right for the query."""
    rewritten, steps = plan
    shapes = shapes_of(schema)
    for step in steps:
        query = _applied(schema, shapes, query, step)
        if query is None:
            return False
    return query == rewritten


def _applied(schema, shapes, query, step):
    rule, position = step
    if not position:
        return rewritten_by(rule, schema, shapes, query)
    parts = parts_of(query)
    turn = position[0]
    if turn >= len(parts):
        return None
    changed = _applied(schema, shapes, parts[turn], (rule, position[1:]))
    if changed is None:
        return None
    # The parts of a query stand side by side, behind its word.
    return query[:turn + 1] + (changed,) + query[turn + 2:]


def _first_step(schema, shapes, query, position):
    """Return the first step that can be applied to the query, which stands at the position, or None."""
    rule = first_rule(schema, shapes, query)
    if rule is not None:
        return (rule, position)
    for turn, part in enumerate(parts_of(query)):
        step = _first_step(schema, shapes, part, position + (turn,))
        if step is not None:
            return step
    return None

"""What queries cost: their sizes, and the rows that they make and read."""

from indoubt.queries import parts_of, stage_answer


def formula_size(formula):
    """Return the size of the formula."""
    word = formula[0]
    if word == "and" or word == "or":
        return sum([formula_size(part) for part in formula[1]]) + len(formula[1]) - 1
    if word == "not" or word == "implies":
        return sum([formula_size(part) for part in formula[1:]]) + 1
    return 1


def node_count(query):
    """Return the number of nodes of the query."""
    return _nodes_and_potential(query)[0]


def potential(query):
    """Return the potential of the query."""
    return _nodes_and_potential(query)[1]


def rows_made(query, relations):
    """Return the number of rows that the query makes."""
    return _evaluated(query, relations)[1]


def rows_read(query, relations):
    """Return the number of rows that the query reads."""
    return _evaluated(query, relations)[2]


def _nodes_and_potential(query):
    if query[0] == "where":
        nodes, before = _nodes_and_potential(query[1])
        return (nodes, before + formula_size(query[2]) * nodes)
    nodes = 1
    total = 1
    for part in parts_of(query):
        part_nodes, part_potential = _nodes_and_potential(part)
        nodes = nodes + part_nodes
        total = total + part_potential
    return (nodes, total)


def _evaluated(query, relations):
    """Return the answer of the query, and the numbers of rows that it makes and reads."""
    if query[0] == "name":
        return (relations[query[1]], 0, 0)
    answers = []
    made = 0
    read = 0
    for part in parts_of(query):
        answer, part_made, part_read = _evaluated(part, relations)
        answers.append(answer)
        made = made + part_made
        read = read + part_read
    answer = stage_answer(query, answers)
    if query[0] != "where":
        made = made + len(answer[1])
    return (answer, made, read + _read_by_stage(query[0], [len(rows) for _, rows in answers]))


def _read_by_stage(word, counts):
    """Return the number of rows that a stage with this word reads of queries with these numbers of rows."""
    if word == "where":
        return 0
    if word in ("select", "group", "union"):
        return sum(counts)
    return counts[0] * counts[1]

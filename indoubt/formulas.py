"""Expressions and formulas: their checks, their values, and the columns in them."""

from indoubt.errors import MixedComparison, StringArithmetic, UnknownColumn, ValueTooLarge
from indoubt.values import compare_values

STRING = ("string",)
LARGEST_BOUND = 1000000000000


def kind_of(expression, columns):
    """Return the kind of the expression for the columns; raise the first error of its checks."""
    kinds = dict(columns)
    if len(expression) == 1:
        return _operand_kind(expression[0][1], kinds)
    bound = 0
    for _, operand in expression:
        kind = _operand_kind(operand, kinds)
        if kind == STRING:
            raise StringArithmetic("a string stands in a sum")
        bound += kind[1]
    if bound > LARGEST_BOUND:
        raise ValueTooLarge("the value of an expression could be too large")
    return ("integer", bound)


def check_formula(formula, columns):
    """Raise the first error of the checks of the formula for the columns, if there is one."""
    for comparison in _comparisons_in(formula):
        left = kind_of(comparison[2], columns)
        right = kind_of(comparison[3], columns)
        if not are_alike(left, right):
            raise MixedComparison("an integer is compared with a string")


def are_alike(left, right):
    """Tell whether two kinds are both integers or both strings, whatever their bounds are."""
    return left[0] == right[0]


def evaluate(expression, names, row):
    """Return the value of the checked expression for the row."""
    if len(expression) == 1:
        return _operand_value(expression[0][1], names, row)
    total = 0
    for sign, operand in expression:
        value = _operand_value(operand, names, row)
        if sign == "+":
            total = total + value
        else:
            total = total - value
    return total


def satisfies(formula, names, row):
    """Tell whether the checked formula is true for the row."""
    word = formula[0]
    if word == "compare":
        left = evaluate(formula[2], names, row)
        right = evaluate(formula[3], names, row)
        return _fits(formula[1], compare_values(left, right))
    if word == "not":
        return not satisfies(formula[1], names, row)
    if word == "and":
        return all(satisfies(part, names, row) for part in formula[1])
    if word == "or":
        return any(satisfies(part, names, row) for part in formula[1])
    if word == "implies":
        return not satisfies(formula[1], names, row) or satisfies(formula[2], names, row)
    return word == "true"


def columns_in(formula):
    """Return the names of the columns in the formula, each once, in the order in which they occur first."""
    found = {}
    for comparison in _comparisons_in(formula):
        for name in columns_of(comparison[2] + comparison[3]):
            found[name] = True
    return tuple(found)


def columns_of(expression):
    """Return the list of the names of the columns in the expression, in order, as often as they occur."""
    return [operand[1] for _, operand in expression if operand[0] == "column"]


def with_columns(formula, columns):
    """Return the formula with other columns: the dict has the new name for each name that occurs in it."""
    word = formula[0]
    if word == "compare":
        left = _expression_with_columns(formula[2], columns)
        right = _expression_with_columns(formula[3], columns)
        return ("compare", formula[1], left, right)
    if word == "and" or word == "or":
        return (word, tuple([with_columns(part, columns) for part in formula[1]]))
    return (word,) + tuple([with_columns(part, columns) for part in formula[1:]])


def _expression_with_columns(expression, columns):
    changed = []
    for sign, (word, content) in expression:
        if word == "column":
            content = columns[content]
        changed.append((sign, (word, content)))
    return tuple(changed)


def _operand_kind(operand, kinds):
    word, content = operand
    if word == "integer":
        return ("integer", abs(content))
    if word == "string":
        return STRING
    if content not in kinds:
        raise UnknownColumn(content)
    return kinds[content]


def _operand_value(operand, names, row):
    word, content = operand
    if word == "column":
        return row[names.index(content)]
    return content


def _fits(operator, order):
    """Tell whether values that compare as the order says fulfil the operator."""
    if operator == "=":
        return order == 0
    if operator == "!=":
        return order != 0
    if operator == "<":
        return order < 0
    if operator == "<=":
        return order <= 0
    if operator == ">":
        return order > 0
    return order >= 0


def _comparisons_in(formula):
    """Return the list of the comparisons in the formula, from left to right."""
    if formula[0] == "compare":
        return [formula]
    found = []
    for part in _parts_of(formula):
        found.extend(_comparisons_in(part))
    return found


def _parts_of(formula):
    """Return the formulas of which the formula directly consists, from left to right."""
    if formula[0] == "and" or formula[0] == "or":
        return formula[1]
    if formula[0] == "not" or formula[0] == "implies":
        return formula[1:]
    return ()

"""Short ways to write trees in tests."""

from indoubt.reader import read_fact, read_script


def col(name):
    return ("column", name)


def num(number):
    return ("integer", number)


def txt(text):
    return ("string", text)


def one(operand):
    """An expression of one term."""
    return (("+", operand),)


def plus(*operands):
    """The sum of the operands."""
    return tuple([("+", operand) for operand in operands])


def minus(first, *others):
    """The first operand minus all the others."""
    return (("+", first),) + tuple([("-", operand) for operand in others])


def cmp(left, operator, right):
    """A comparison of two operands."""
    return ("compare", operator, one(left), one(right))


def is_number(name, number):
    """The formula that says that a column has a value."""
    return cmp(col(name), "=", num(number))


def named(name):
    return ("name", name)


def integers(*names, bound=1000000):
    """Integer columns of a shape."""
    return tuple([(name, ("integer", bound)) for name in names])


def strings(*names):
    """String columns of a shape."""
    return tuple([(name, ("string",)) for name in names])


def copies(*names):
    """The items of a selection that copy columns."""
    return tuple([(name, one(col(name))) for name in names])


def execute(text):
    """The entry of an executed script."""
    return ("execute", read_script(text))


def prepare(name, text, cost=1):
    """The entry of a prepared script."""
    return ("prepare", name, cost, read_script(text))


def learn(text):
    """The entry of a fact that was learned."""
    return ("learn", read_fact(text))


ALWAYS = ("true",)
NEVER = ("false",)

"""Tables of four whole numbers, their products, worths and backs."""

from quadwords.errors import NoBack

ONE = (1, 0, 0, 1)


def is_whole(thing):
    """Whether a thing is a whole number."""
    # Python counts True and False among its ints; here they are no numbers.
    return isinstance(thing, int) and not isinstance(thing, bool)


def is_table(thing):
    """Whether a thing is a table, of anything."""
    return isinstance(thing, tuple) and len(thing) == 4 and all([is_whole(number) for number in thing])


def product(one, other):
    """The product of one table by another."""
    a, b, c, d = one
    e, f, g, h = other
    return (a * e + b * g, a * f + b * h, c * e + d * g, c * f + d * h)


def product_of(tables):
    """The product of a list of tables, from the first on."""
    made = ONE
    for table in tables:
        made = product(made, table)
    return made


def worth(table):
    """The worth of a table."""
    a, b, c, d = table
    return a * d - b * c


def back(table):
    """The table by which the product is one, or NoBack."""
    if not is_table(table) or worth(table) != 1:
        raise NoBack("only a table of worth 1 has a back")
    a, b, c, d = table
    return (d, -b, -c, a)

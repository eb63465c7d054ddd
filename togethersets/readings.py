"""What can be told of all the orders that can be read from a tree, without reading each."""

from togethersets.knots import turned_round

IN_NONE = 0
IN_ALL = 1
IN_SOME = 2


def how_many_orders(knot):
    """How many orders can be read from this knot: the ways to set it times those of each one below."""
    # No order can be read in two ways, as a knot that only turns has three below it at least.
    many = 2 if knot.only_turns else ways_to_change_places(len(knot.below))
    for part in knot.below:
        many = many * how_many_orders(part)
    return many


def ways_to_change_places(size):
    ways = 1
    for factor in range(2, size + 1):
        ways = ways * factor
    return ways


def first_order(knot):
    """The first of the orders that can be read from this knot, by the first thing that differs."""
    if len(knot.below) == 0:
        return [knot.things.bit_length() - 1]
    # Each one below is set without regard to the others, so its own first order is the best for the whole too.
    rows = [first_order(part) for part in knot.below]
    if not knot.only_turns:
        rows = sorted(rows)
    elif rows[-1][0] < rows[0][0]:
        rows = turned_round(rows)
    order = []
    for row in rows:
        order.extend(row)
    return order


def how_surely_between(tree, a, b, c):
    """Whether b stands between a and c in all orders of this tree, in none or in some; the three differ."""
    knot = lowest_over(tree, (1 << a) | (1 << b) | (1 << c))
    at_a = place_below(knot, a)
    at_b = place_below(knot, b)
    at_c = place_below(knot, c)
    if at_a == at_c:
        return IN_NONE
    # Where b shares a part with a or c alone, that part can be turned round while all else stays.
    if at_a == at_b or at_b == at_c or not knot.only_turns:
        return IN_SOME
    if (at_a < at_b) == (at_b < at_c):
        return IN_ALL
    return IN_NONE


def lowest_over(knot, wanted):
    """The lowest knot, from this one on, that has all things of the set."""
    for part in knot.below:
        if part.things & wanted == wanted:
            return lowest_over(part, wanted)
    return knot


def place_below(knot, thing):
    """The place of the one below this knot that has the thing; one has it."""
    place = 0
    while (knot.below[place].things >> thing) & 1 == 0:
        place = place + 1
    return place

"""A tree from which just those orders can be read that keep some sets of things.

A set is a number: it has thing x if bit x of it is 1. No knot is changed once it is made,
so that a tree may share knots with the tree that it was made from.
"""


class Knot:
    """An end (nothing is below it), or a knot over others.

    What is below a knot may change places as it likes, or, if the knot only turns, be turned round as a whole.
    """

    def __init__(self, things, below, only_turns):
        self.things = things
        self.below = below
        self.only_turns = only_turns


def tree_of_all(n):
    """The tree of all orders of the things below n, where n is 1 at least."""
    return free_knot([Knot(1 << thing, [], False) for thing in range(n)])


def tree_keeping_all(tree, told):
    """The tree of those orders of this tree that keep all these sets, or None if there is none."""
    for wanted in told:
        if tree is None:
            return None
        tree = tree_keeping(tree, wanted)
    return tree


def tree_keeping(knot, wanted):
    """The tree of those orders of this knot that keep a set of its things, or None if there is none."""
    if is_whole(knot, wanted):
        return knot
    below = knot.below
    for place in range(len(below)):
        # Here the set concerns one knot alone, and the others stay as they are.
        if below[place].things & wanted == wanted:
            kept = tree_keeping(below[place], wanted)
            if kept is None:
                return None
            return knot_over(below[:place] + [kept] + below[place + 1:], knot.only_turns)
    if knot.only_turns:
        return turning_knot_keeping(below, wanted)
    return free_knot_keeping(below, wanted)


def free_knot_keeping(below, wanted):
    """The tree in which the set, spread over several of these free knots, is together, or None."""
    row = []
    parted = parted_knots(below, wanted)
    for knot in parted[:1]:
        row.extend(row_of(knot, wanted))
    row.extend(as_one(full_knots(below, wanted)))
    for knot in parted[1:]:
        row.extend(turned_round(row_of(knot, wanted)))
    if not stands_together(row, wanted):
        return None
    return free_knot(empty_knots(below, wanted) + [turning_knot(row)])


def turning_knot_keeping(below, wanted):
    """The tree in which the set, spread over several knots of this fixed row, is together, or None."""
    row = []
    begun = False
    for knot in below:
        pieces = row_of(knot, wanted)
        # Behind the set's beginning, what the set has must come first in a knot: it's there that the set goes on.
        if begun:
            pieces = turned_round(pieces)
        row.extend(pieces)
        begun = begun or not is_empty(knot, wanted)
    if not stands_together(row, wanted):
        return None
    return turning_knot(row)


def row_of(knot, wanted):
    """A row of knots, each with all or nothing of its things in the set, that this knot allows.

    If the knot allows that all the empty ones come ahead of all the full ones, they do; else the row is one that
    can't be joined to more of the set, which is seen when the whole row is looked at.
    """
    if is_whole(knot, wanted):
        return [knot]
    if knot.only_turns:
        return joined_rows(empty_side_first(knot.below, wanted), wanted)
    row = as_one(empty_knots(knot.below, wanted))
    row.extend(joined_rows(parted_knots(knot.below, wanted), wanted))
    row.extend(as_one(full_knots(knot.below, wanted)))
    return row


def joined_rows(knots, wanted):
    row = []
    for knot in knots:
        row.extend(row_of(knot, wanted))
    return row


def empty_side_first(below, wanted):
    """A fixed row, turned round if that alone could bring the empty ones ahead of the full ones."""
    if is_full(below[0], wanted) or is_empty(below[-1], wanted):
        return turned_round(below)
    return below


def stands_together(row, wanted):
    """Whether no empty knot of the row has full ones on both its sides."""
    begun = False
    ended = False
    for knot in row:
        if is_empty(knot, wanted):
            ended = begun
        elif ended:
            return False
        else:
            begun = True
    return True


def knot_over(below, only_turns):
    things = 0
    for knot in below:
        things = things | knot.things
    return Knot(things, below, only_turns)


def free_knot(below):
    """A knot over these, which change places as they like; over one alone there's no knot."""
    if len(below) == 1:
        return below[0]
    return knot_over(below, False)


def turning_knot(row):
    """A knot over this row, which can only be turned round; over one alone there's no knot."""
    if len(row) == 1:
        return row[0]
    return knot_over(row, True)


def as_one(knots):
    """These as a row of one free knot, or an empty row if there are none."""
    if len(knots) == 0:
        return []
    return [free_knot(knots)]


def turned_round(row):
    return list(reversed(row))


def is_empty(knot, wanted):
    return knot.things & wanted == 0


def is_full(knot, wanted):
    return knot.things & wanted == knot.things


def is_whole(knot, wanted):
    return is_empty(knot, wanted) or is_full(knot, wanted)


def empty_knots(knots, wanted):
    return [knot for knot in knots if is_empty(knot, wanted)]


def full_knots(knots, wanted):
    return [knot for knot in knots if is_full(knot, wanted)]


def parted_knots(knots, wanted):
    return [knot for knot in knots if not is_whole(knot, wanted)]

"""Riddles that are alike, and the least name of all such."""

from twinriddles.likenesses import all_leading, likenesses
from twinriddles.makes import picks
from twinriddles.riddles import all_clauses, check_few_names, check_number
from twinriddles.turnings import led


def alike(one, other):
    """The least turning that leads the one riddle to the other; None where there is none."""
    if one[0] != other[0]:
        return None
    found = all_leading(one, other)
    return found[0] if found else None


def all_turnings(names):
    """The rising list of all turnings of so many names."""
    # Each of them leads a riddle without clauses to itself.
    return likenesses((names, ()))


def least_name(riddle):
    """The least riddle to which a turning leads the riddle."""
    check_few_names(riddle[0])
    return min([led(riddle, turning) for turning in all_turnings(riddle[0])])


def all_riddles(names, clauses):
    """The rising list of the least names of all riddles of so many names and clauses."""
    check_number(names, 1, 3)
    check_number(clauses, 0, 2)
    return sorted({least_name((names, some)) for some in picks(all_clauses(names), clauses)})

"""Riddles made: crowds, and two riddles put beside."""

from twinriddles.errors import TooMany
from twinriddles.riddles import MOST_CLAUSES, MOST_NAMES, check_number
from twinriddles.turnings import led_clause


def picks(things, many):
    """All tuples of so many of these things, each in their order; rising if these are."""
    if many == 0:
        return [()]
    return [(thing,) + rest for at, thing in enumerate(things) for rest in picks(things[at + 1:], many - 1)]


def crowd(names, least, most):
    """The riddle that is kept by the answers with so many ones, from the least to the most."""
    check_number(names, 0, MOST_NAMES)
    check_number(least, 0, names)
    check_number(most, least, names)
    all_names = list(range(1, names + 1))
    # So many names can't all be 0, as too few ones would be left.
    some_so = picks(all_names, names - least + 1)
    some_not = [tuple([-name for name in some]) for some in picks(all_names, most + 1)]
    return (names, tuple(sorted(some_so + some_not)))


def beside(one, other):
    """Both riddles as one, the names of the other behind those of the one."""
    names = one[0] + other[0]
    # No turning, as the names grow, but it leads the signs of a clause as one does.
    further = tuple(range(one[0] + 1, names + 1))
    clauses = one[1] + tuple([led_clause(clause, further) for clause in other[1]])
    if names > MOST_NAMES:
        raise TooMany("together the riddles have more than five names")
    if len(clauses) > MOST_CLAUSES:
        raise TooMany("together the riddles have more than thirty clauses")
    return (names, tuple(sorted(clauses)))

"""Clauses put into a riddle by likenesses, no kind being lost."""

from twinriddles.errors import NoPutting, TooMany
from twinriddles.likenesses import is_likeness, likenesses
from twinriddles.riddles import MOST_CLAUSES, all_clauses, answers_against, check_few_names, is_clause, is_pair
from twinriddles.rows import first_lowering, lowers

MOST_PAIRS = 30


def may_put(riddle, clause, turning):
    """Whether the one is a clause, the other a likeness by which it may be put into the riddle."""
    if not is_clause(riddle[0], clause) or not is_likeness(riddle, turning):
        return False
    return lowers(turning, answers_against(riddle, clause))


def is_putting(riddle, thing):
    """Whether a thing is a putting of the riddle."""
    if not isinstance(thing, tuple) or len(thing) > MOST_PAIRS:
        return False
    return all([is_pair(pair) and may_put(riddle, pair[0], pair[1]) for pair in thing])


def put_in(riddle, putting):
    """The riddle with all clauses of a putting put in."""
    if not is_putting(riddle, putting):
        raise NoPutting("that is no putting of the riddle")
    names, clauses = riddle
    together = sorted(set(clauses + tuple([clause for clause, turning in putting])))
    if len(together) > MOST_CLAUSES:
        raise TooMany("the riddle would have more than thirty clauses")
    return (names, tuple(together))


def short_clauses(names):
    """The rising list of all clauses of one or two signs of so many names."""
    return [clause for clause in all_clauses(names) if len(clause) <= 2]


def all_puttings(riddle):
    """The rising list of the short clauses that may be put in, each with its least likeness."""
    check_few_names(riddle[0])
    turnings = likenesses(riddle)
    found = []
    for clause in short_clauses(riddle[0]):
        turning = first_lowering(turnings, answers_against(riddle, clause))
        if turning is not None:
            found.append((clause, turning))
    return found

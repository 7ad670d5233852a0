"""Likenesses of a riddle, and the lots and kinds they make."""

from twinriddles.errors import NoAnswer
from twinriddles.riddles import all_answers, answers, keeps
from twinriddles.turnings import is_turning, led, led_answer, led_clause, led_sign


def is_likeness(riddle, thing):
    """Whether a thing is a likeness of the riddle."""
    return is_turning(riddle[0], thing) and led(riddle, thing) == riddle


def all_signs(names):
    """The rising list of all signs of so many names."""
    return [sign for sign in range(-names, names + 1) if sign != 0]


def longer_by_one(names, begun):
    """Each beginning of a turning with one sign more, in every way; rising if these are."""
    return [
        begin + (sign,)
        for begin in begun
        for sign in all_signs(names)
        if sign not in begin and -sign not in begin
    ]


def leading_among(riddle, others):
    """The rising list of the turnings that lead each clause of the riddle to one of these others."""
    names, clauses = riddle
    begun = [()]
    for name in range(1, names + 1):
        # A beginning leads the clauses of its names alone; one that leads such a
        # clause to none of the others is given up here, as no end could mend it.
        ready = [clause for clause in clauses if abs(clause[-1]) == name]
        begun = [
            begin
            for begin in longer_by_one(names, begun)
            if all([led_clause(clause, begin) in others for clause in ready])
        ]
    return begun


def all_leading(one, other):
    """The rising list of the turnings that lead one riddle to another of as many names."""
    # No two clauses are led to one, so where there are as many all of the other's are reached.
    return leading_among(one, other[1]) if len(one[1]) == len(other[1]) else []


def likenesses(riddle):
    """The rising list of all likenesses of the riddle."""
    return all_leading(riddle, riddle)


def lots(things, reach):
    """The lots into which rising things fall; reach tells the rising lot of a thing."""
    # Each lot is met by its least thing first, so the lots come rising.
    found = []
    seen = set()
    for thing in things:
        if thing not in seen:
            lot = reach(thing)
            found.append(lot)
            for other in lot:
                seen.add(other)
    return found


def lots_of_signs(riddle):
    """The rising list of the lots of the signs of the riddle's names."""
    turnings = likenesses(riddle)

    def reach(sign):
        return tuple(sorted({led_sign(turning, sign) for turning in turnings}))

    return lots(all_signs(riddle[0]), reach)


def lots_of_clauses(riddle):
    """The rising list of the lots of the riddle's clauses, by their numbers."""
    clauses = riddle[1]
    turnings = likenesses(riddle)

    def reach(at):
        return tuple(sorted({clauses.index(led_clause(clauses[at], turning)) for turning in turnings}))

    return lots(list(range(len(clauses))), reach)


def answers_reached(answer, turnings):
    """The rising list of the answers to which these turnings lead an answer."""
    return sorted({led_answer(answer, turning) for turning in turnings})


def kinds_among(riddle, some):
    """The kinds into which these answers fall by the riddle's likenesses, rising."""
    turnings = likenesses(riddle)

    def reach(answer):
        return tuple(answers_reached(answer, turnings))

    return lots(some, reach)


def kinds(riddle):
    """The rising list of the kinds of the answers that keep the riddle."""
    return kinds_among(riddle, answers(riddle))


def first_of(riddle, answer):
    """The least answer of the kind that an answer is of."""
    if not keeps(riddle, answer):
        raise NoAnswer("that is no answer that keeps the riddle")
    return min([led_answer(answer, turning) for turning in likenesses(riddle)])


def many_kinds(riddle):
    """Into how many kinds all answers fall, whether they keep the riddle or not."""
    return len(kinds_among(riddle, all_answers(riddle[0])))

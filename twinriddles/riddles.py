"""Riddles, the answers that keep them, and riddles narrowed."""

from twinriddles.errors import NoBit, NoName, NoNumber, TooMany

MOST_NAMES = 5
MOST_CLAUSES = 30
MOST_SIGNS = 5
FEW_NAMES = 4


def is_whole(thing):
    """Whether a thing is a whole number."""
    # To Python a truth is an int too, but here it is no number.
    return isinstance(thing, int) and not isinstance(thing, bool)


def is_number(thing, least, most):
    """Whether a thing is a whole number within these bounds."""
    return is_whole(thing) and least <= thing <= most


def check_number(thing, least, most):
    """Refuse what is no whole number within these bounds."""
    if not is_number(thing, least, most):
        raise NoNumber(f"a whole number from {least} to {most} is wanted there")


def is_bit(thing):
    """Whether a thing is the whole number 0 or 1."""
    return is_number(thing, 0, 1)


def is_name(names, thing):
    """Whether a thing is the number of one of so many names."""
    return is_number(thing, 1, names)


def is_sign(names, thing):
    """Whether a thing is the sign of one of so many names, or its contrary."""
    return is_whole(thing) and is_name(names, abs(thing))


def is_pair(thing):
    """Whether a thing is a tuple of two."""
    return isinstance(thing, tuple) and len(thing) == 2


def is_rising(things):
    """Whether each of these is greater than the one ahead."""
    return all([one < other for one, other in zip(things, things[1:])])


def is_clause(names, thing):
    """Whether a thing is a clause of so many names."""
    if not isinstance(thing, tuple) or not 1 <= len(thing) <= MOST_SIGNS:
        return False
    if not all([is_sign(names, sign) for sign in thing]):
        return False
    return is_rising([abs(sign) for sign in thing])


def all_clauses(names):
    """The rising list of all clauses of so many names."""
    begun = [()]
    for name in range(1, names + 1):
        begun = [begin + more for begin in begun for more in ((), (-name,), (name,))]
    return sorted([clause for clause in begun if clause != ()])


def are_clauses(names, thing):
    """Whether a thing is a tuple of clauses as a riddle of so many names has it."""
    if not isinstance(thing, tuple) or len(thing) > MOST_CLAUSES:
        return False
    # Only what is known to be clauses can be compared.
    return all([is_clause(names, clause) for clause in thing]) and is_rising(thing)


def is_riddle(thing):
    """Whether a thing is a riddle."""
    if not is_pair(thing):
        return False
    names, clauses = thing
    return is_number(names, 0, MOST_NAMES) and are_clauses(names, clauses)


def check_few_names(names):
    """Refuse more names than a few."""
    if names > FEW_NAMES:
        raise TooMany("the riddle has more than four names")


def is_answer(names, thing):
    """Whether a thing is an answer of so many names, whatever it keeps."""
    return isinstance(thing, tuple) and len(thing) == names and all([is_bit(bit) for bit in thing])


def is_so(answer, sign):
    """Whether a sign is so at an answer."""
    return answer[abs(sign) - 1] == (1 if sign > 0 else 0)


def keeps_clause(answer, clause):
    """Whether an answer keeps a clause."""
    return any([is_so(answer, sign) for sign in clause])


def keeps(riddle, thing):
    """Whether a thing is an answer that keeps the riddle."""
    names, clauses = riddle
    return is_answer(names, thing) and all([keeps_clause(thing, clause) for clause in clauses])


def all_answers(names):
    """The rising list of all answers of so many names, whatever they keep."""
    begun = [()]
    for place in range(names):
        begun = [begin + (bit,) for begin in begun for bit in (0, 1)]
    return begun


def answers(riddle):
    """The rising list of all answers that keep the riddle."""
    return [answer for answer in all_answers(riddle[0]) if keeps(riddle, answer)]


def answers_against(riddle, clause):
    """The rising list of the answers that keep the riddle but not the clause."""
    return [answer for answer in answers(riddle) if not keeps_clause(answer, clause)]


def moved_up(sign, name):
    """A sign of another name, as it is numbered once this name is gone."""
    if abs(sign) < name:
        return sign
    return sign - 1 if sign > 0 else sign + 1


def without_name(clause, name):
    """A clause, its sign of this name gone, numbered as if there were no such name."""
    return tuple([moved_up(sign, name) for sign in clause if abs(sign) != name])


def narrowed(riddle, name, bit):
    """The riddle narrowed at a name by a bit; None where a clause has no sign left."""
    names, clauses = riddle
    if not is_name(names, name):
        raise NoName("that is no name of the riddle")
    if not is_bit(bit):
        raise NoBit("a bit is 0 or 1")
    so = name if bit == 1 else -name
    rest = [without_name(clause, name) for clause in clauses if so not in clause]
    if () in rest:
        return None
    return (names - 1, tuple(sorted(set(rest))))

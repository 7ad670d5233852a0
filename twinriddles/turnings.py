"""Turnings: names led to signs, and with them riddles and answers."""

from twinriddles.errors import NoTurning
from twinriddles.riddles import is_sign, is_so


def is_turning(names, thing):
    """Whether a thing is a turning of so many names."""
    if not isinstance(thing, tuple) or len(thing) != names:
        return False
    if not all([is_sign(names, sign) for sign in thing]):
        return False
    return len({abs(sign) for sign in thing}) == names


def check_turning(names, thing):
    """Refuse what is no turning of so many names."""
    if not is_turning(names, thing):
        raise NoTurning("that is no turning of as many names")


def led_sign(turning, sign):
    """The sign to which a sign is led."""
    return turning[sign - 1] if sign > 0 else -turning[-sign - 1]


def led_clause(clause, turning):
    """The clause to which a clause is led, its signs in order."""
    return tuple(sorted([led_sign(turning, sign) for sign in clause], key=abs))


def led(riddle, turning):
    """The riddle to which a riddle is led."""
    names, clauses = riddle
    check_turning(names, turning)
    return (names, tuple(sorted([led_clause(clause, turning) for clause in clauses])))


def led_answer(answer, turning):
    """The answer to which an answer is led."""
    check_turning(len(answer), turning)
    # A name is so there just where the sign that is led to it was so.
    return tuple([1 if is_so(answer, sign) else 0 for sign in back(turning)])


def behind(one, other):
    """The turning that leads by the one, and what comes by the other."""
    return tuple([led_sign(other, sign) for sign in one])


def back(turning):
    """The turning that leads each sign from where this one leads it."""
    whence = list(turning)
    for name, sign in enumerate(turning, start=1):
        whence[abs(sign) - 1] = name if sign > 0 else -name
    return tuple(whence)


def still(names):
    """The turning that leads each sign to itself."""
    return tuple(range(1, names + 1))


def order_of(turning):
    """How often at least a turning is done till that is still."""
    times = 1
    done = turning
    while done != still(len(turning)):
        done = behind(done, turning)
        times += 1
    return times

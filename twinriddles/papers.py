"""Papers: steps that show which clauses follow from a riddle."""

from twinriddles.errors import NoClause
from twinriddles.likenesses import is_likeness
from twinriddles.riddles import answers_against, is_clause, is_name, is_number, is_pair
from twinriddles.turnings import led_clause

MOST_STEPS = 200


def may_be_shown(names, thing):
    """Whether a thing is a clause of so many names, or ()."""
    return thing == () or is_clause(names, thing)


def is_place(things, thing):
    """Whether a thing is the number of one of these things, from 0 on."""
    return is_number(thing, 0, len(things) - 1)


def met(one, other, name):
    """All signs of two clauses but those of this name, in order."""
    return tuple(sorted(sorted({sign for sign in one + other if abs(sign) != name}), key=abs))


def is_given(riddle, clause, at):
    """Whether a clause is the one of the riddle with this number."""
    clauses = riddle[1]
    return is_place(clauses, at) and clauses[at] == clause


def is_met(names, shown, clause, why):
    """Whether two clauses that are shown, met at a name, are this clause."""
    word, one, other, name = why
    if not is_place(shown, one) or not is_place(shown, other) or not is_name(names, name):
        return False
    if name not in shown[one] or -name not in shown[other]:
        return False
    # Where both signs of another name come in, what is met is no clause, and so not this one.
    return met(shown[one], shown[other], name) == clause


def is_led(riddle, shown, clause, why):
    """Whether a likeness leads a clause that is shown to this clause."""
    word, at, turning = why
    return is_place(shown, at) and is_likeness(riddle, turning) and led_clause(shown[at], turning) == clause


def is_wide(shown, clause, at):
    """Whether a clause has all signs of one that is shown."""
    return is_place(shown, at) and all([sign in clause for sign in shown[at]])


def is_why(riddle, shown, clause, why):
    """Whether a thing tells why a clause holds, the steps ahead having shown those."""
    if not isinstance(why, tuple) or not 2 <= len(why) <= 4:
        return False
    word = why[0]
    if len(why) == 2 and word == "given":
        return is_given(riddle, clause, why[1])
    if len(why) == 2 and word == "wide":
        return is_wide(shown, clause, why[1])
    if len(why) == 3 and word == "led":
        return is_led(riddle, shown, clause, why)
    if len(why) == 4 and word == "met":
        return is_met(riddle[0], shown, clause, why)
    return False


def is_step(riddle, shown, thing):
    """Whether a thing is a step, the steps ahead having shown these clauses."""
    if not is_pair(thing):
        return False
    clause, why = thing
    return may_be_shown(riddle[0], clause) and is_why(riddle, shown, clause, why)


def is_paper(riddle, thing):
    """Whether a thing is a paper of the riddle."""
    if not isinstance(thing, tuple) or not 1 <= len(thing) <= MOST_STEPS:
        return False
    shown = []
    for step in thing:
        if not is_step(riddle, shown, step):
            return False
        shown.append(step[0])
    return True


def follows(riddle, clause):
    """Whether a clause, or (), follows from the riddle."""
    if not may_be_shown(riddle[0], clause):
        raise NoClause("that is no clause of the riddle's names")
    return answers_against(riddle, clause) == []


def first_against(clauses, so):
    """The number of the first clause whose signs are all contrary to these, else None."""
    for at, clause in enumerate(clauses):
        if all([-sign in so for sign in clause]):
            return at
    return None


def add_steps(riddle, so, steps):
    """Add steps, the last showing a clause of contraries of these signs alone.

    No answer at which all these signs are so may keep the riddle.
    """
    names, clauses = riddle
    at = first_against(clauses, so)
    if at is not None:
        steps.append((clauses[at], ("given", at)))
        return
    name = min([free for free in range(1, names + 1) if free not in so and -free not in so])
    add_steps(riddle, so + (-name,), steps)
    one = len(steps) - 1
    # Where the name itself isn't needed, what is shown in one case holds in both.
    if name not in steps[one][0]:
        return
    add_steps(riddle, so + (name,), steps)
    other = len(steps) - 1
    if -name in steps[other][0]:
        steps.append((met(steps[one][0], steps[other][0], name), ("met", one, other, name)))


def paper_of(riddle, clause):
    """Some paper that shows a clause, or (); None where it doesn't follow."""
    if not follows(riddle, clause):
        return None
    steps = []
    add_steps(riddle, tuple([-sign for sign in clause]), steps)
    if steps[-1][0] != clause:
        steps.append((clause, ("wide", len(steps) - 1)))
    return tuple(steps)

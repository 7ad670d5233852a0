"""What some turnings span, and the likenesses by which an answer stays."""

from twinriddles.errors import NoAnswer
from twinriddles.likenesses import answers_reached, likenesses
from twinriddles.riddles import FEW_NAMES, check_few_names, check_number, is_answer
from twinriddles.turnings import behind, check_turning, led_answer, still


def span_of(names, turnings):
    """The rising list of all that comes of these turnings, one behind another."""
    seen = set()
    seen.add(still(names))
    fresh = [still(names)]
    while fresh:
        reached = []
        for begun in fresh:
            for turning in turnings:
                done = behind(begun, turning)
                if done not in seen:
                    seen.add(done)
                    reached.append(done)
        fresh = reached
    return sorted(seen)


def spanned(names, some):
    """The span of some turnings of so many names, from 0 to 4."""
    check_number(names, 0, FEW_NAMES)
    for turning in some:
        check_turning(names, turning)
    return span_of(names, some)


def few_spanning(riddle):
    """Some likenesses that span all, none in the span of those ahead of it."""
    names = riddle[0]
    check_few_names(names)
    chosen = []
    reached = span_of(names, chosen)
    for turning in likenesses(riddle):
        if turning not in reached:
            chosen.append(turning)
            reached = span_of(names, chosen)
    return tuple(chosen)


def check_answer(names, thing):
    """Refuse what is no answer of so many names."""
    if not is_answer(names, thing):
        raise NoAnswer("that is no answer of as many names")


def stays(riddle, answer):
    """The rising list of the likenesses that lead an answer to itself."""
    check_answer(riddle[0], answer)
    return [turning for turning in likenesses(riddle) if led_answer(answer, turning) == answer]


def lot_of(riddle, answer):
    """The rising list of the answers to which likenesses lead an answer."""
    check_answer(riddle[0], answer)
    return answers_reached(answer, likenesses(riddle))

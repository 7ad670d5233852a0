"""Rows: turnings that leave out answers which they lead to lesser ones."""

from twinriddles.likenesses import is_likeness, kinds, likenesses
from twinriddles.riddles import answers
from twinriddles.turnings import check_turning, led_answer


def keeps_row(answer, row):
    """Whether an answer keeps a row."""
    return answer <= led_answer(answer, row)


def lowers(turning, some):
    """Whether a turning leads each of some answers to a lesser one."""
    # A loop that ends at the first answer that isn't lowered: most turnings fail there.
    for answer in some:
        if keeps_row(answer, turning):
            return False
    return True


def first_lowering(turnings, some):
    """The first of these turnings that leads each of some answers to a lesser one, else None."""
    for turning in turnings:
        if lowers(turning, some):
            return turning
    return None


def left(riddle, rows):
    """The rising list of the answers that keep the riddle and all these rows."""
    for row in rows:
        check_turning(riddle[0], row)
    return [answer for answer in answers(riddle) if all([keeps_row(answer, row) for row in rows])]


def lost(riddle, rows):
    """The rising list of the kinds of which no answer is left."""
    still_there = left(riddle, rows)
    return [kind for kind in kinds(riddle) if not any([answer in still_there for answer in kind])]


def are_sharp(riddle, thing):
    """Whether a thing is a tuple of sharp rows."""
    if not isinstance(thing, tuple) or not all([is_likeness(riddle, row) for row in thing]):
        return False
    # Likenesses leave the first of each kind, so as many as there are kinds is one of each.
    return len(left(riddle, thing)) == len(kinds(riddle))


def enough_rows(riddle):
    """A list of sharp rows, some of them perhaps needless."""
    turnings = likenesses(riddle)
    rows = []
    for kind in kinds(riddle):
        for answer in kind[1:]:
            if all([keeps_row(answer, row) for row in rows]):
                rows.append(first_lowering(turnings, [answer]))
    return rows


def sharp_rows(riddle):
    """Some sharp rows, without any one of which the others are not sharp."""
    many = len(kinds(riddle))
    rows = enough_rows(riddle)
    wanted = list(rows)
    for row in rows:
        # What is wanted beside more rows is wanted beside fewer, so each is tried but once.
        others = [other for other in wanted if other != row]
        if len(left(riddle, others)) == many:
            wanted = others
    return tuple(wanted)

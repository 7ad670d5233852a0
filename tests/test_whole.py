"""What holds over the whole program: [1]."""

import copy
import unittest

from samples import (
    EXAMPLE, FIXED_RIDDLES, ONE_OF_THREE, RING, check_refused, check_told, likenesses_by_words, some_riddles,
)
from twinriddles import alike, errors, likenesses, makes, notes, papers, putting, riddles, rows, spans, turnings
from twinriddles.desk import Desk

PAIR = (2, ((1, 2),))
FIVE = (5, ((1, 2, 3, 4, 5),))
PAPER = (
    ((-1,), ("given", 1)), ((1,), ("given", 2)), ((), ("met", 1, 0, 1)), ((2,), ("wide", 2)), ((), ("led", 2, (1, 2))),
)
PAPER_OF = (2, ((-2,), (-1,), (1,)))
PUTTING = (((-1, 2), (2, 1)), ((1, 2), (1, 2)))


def said(line):
    """What a new desk, that keeps one riddle by the name a, answers."""
    desk = Desk()
    desk.say("riddle a 2: 1/2")
    return desk.say(line)


# Each call that tells something, and the kind of what it tells.
CALLS = (
    (riddles.is_riddle, (EXAMPLE,), bool),
    (riddles.keeps, (PAIR, (0, 1)), bool),
    (riddles.answers, (PAIR,), list),
    (riddles.narrowed, (EXAMPLE, 1, 0), tuple),
    (turnings.is_turning, (2, (2, -1)), bool),
    (turnings.led_sign, ((2, -1), -2), int),
    (turnings.led, (EXAMPLE, (3, -1, 2)), tuple),
    (turnings.led_answer, ((1, 0), (2, -1)), tuple),
    (turnings.behind, ((2, -1), (2, 1)), tuple),
    (turnings.back, ((2, -1),), tuple),
    (turnings.still, (3,), tuple),
    (turnings.order_of, ((2, -1),), int),
    (likenesses.is_likeness, (PAIR, (2, 1)), bool),
    (likenesses.likenesses, (RING,), list),
    (likenesses.lots_of_signs, (PAIR,), list),
    (likenesses.lots_of_clauses, (ONE_OF_THREE,), list),
    (likenesses.kinds, (PAIR,), list),
    (likenesses.first_of, (PAIR, (1, 0)), tuple),
    (likenesses.many_kinds, (PAIR,), int),
    (spans.spanned, (2, [(-2, 1)]), list),
    (spans.few_spanning, (RING,), tuple),
    (spans.stays, (RING, (1, 0, 1, 0)), list),
    (spans.lot_of, (RING, (1, 0, 1, 0)), list),
    (rows.left, (PAIR, [(2, 1)]), list),
    (rows.lost, (PAIR, [(-1, 2)]), list),
    (rows.are_sharp, (PAIR, ((2, 1),)), bool),
    (rows.sharp_rows, (RING,), tuple),
    (papers.is_paper, (PAPER_OF, PAPER), bool),
    (papers.follows, (PAIR, (1, 2)), bool),
    (papers.paper_of, (EXAMPLE, ()), tuple),
    (putting.may_put, (PAIR, (-1, 2), (2, 1)), bool),
    (putting.is_putting, (PAIR, PUTTING), bool),
    (putting.put_in, (PAIR, PUTTING), tuple),
    (putting.all_puttings, (PAIR,), list),
    (makes.crowd, (4, 1, 2), tuple),
    (makes.beside, (PAIR, EXAMPLE), tuple),
    (alike.alike, (PAIR, (2, ((1, -2),))), tuple),
    (alike.least_name, (RING,), tuple),
    (alike.all_riddles, (2, 2), list),
    (notes.riddle_text, (EXAMPLE,), str),
    (notes.answer_text, ((0, 1),), str),
    (notes.turning_text, ((-2, 1),), str),
    (notes.riddle_read, ("3: -2/3 -1 1/2",), tuple),
    (notes.turning_read, ("-2 1",), tuple),
    (said, ("answers a",), str),
)

# Each place at which a thing of anything, or one that may be refused, is handed in, by its number; what is due
# where that thing is none: False, or this refusal.
PLACES = (
    (riddles.is_riddle, (EXAMPLE,), 0, False),
    (riddles.keeps, (PAIR, (0, 1)), 1, False),
    (riddles.narrowed, (EXAMPLE, 1, 0), 1, errors.NoName),
    (riddles.narrowed, (EXAMPLE, 1, 0), 2, errors.NoBit),
    (turnings.is_turning, (2, (2, -1)), 1, False),
    (turnings.led, (EXAMPLE, (3, -1, 2)), 1, errors.NoTurning),
    (turnings.led_answer, ((1, 0), (2, -1)), 1, errors.NoTurning),
    (likenesses.is_likeness, (PAIR, (2, 1)), 1, False),
    (likenesses.first_of, (PAIR, (1, 0)), 1, errors.NoAnswer),
    (spans.spanned, (2, [(-2, 1)]), 0, errors.NoNumber),
    (spans.stays, (RING, (1, 0, 1, 0)), 1, errors.NoAnswer),
    (spans.lot_of, (RING, (1, 0, 1, 0)), 1, errors.NoAnswer),
    (rows.are_sharp, (PAIR, ((2, 1),)), 1, False),
    (papers.is_paper, (PAPER_OF, PAPER), 1, False),
    (papers.follows, (PAIR, (1, 2)), 1, errors.NoClause),
    (papers.paper_of, (PAIR, (1, 2)), 1, errors.NoClause),
    (putting.may_put, (PAIR, (-1, 2), (2, 1)), 1, False),
    (putting.may_put, (PAIR, (-1, 2), (2, 1)), 2, False),
    (putting.is_putting, (PAIR, PUTTING), 1, False),
    (putting.put_in, (PAIR, PUTTING), 1, errors.NoPutting),
    (makes.crowd, (4, 1, 2), 0, errors.NoNumber),
    (makes.crowd, (4, 1, 2), 1, errors.NoNumber),
    (makes.crowd, (4, 1, 2), 2, errors.NoNumber),
    (alike.all_riddles, (2, 2), 0, errors.NoNumber),
    (alike.all_riddles, (2, 2), 1, errors.NoNumber),
    (notes.riddle_read, ("0:",), 0, errors.BadNote),
    (notes.turning_read, ("none",), 0, errors.BadNote),
    (said, ("kept",), 0, errors.BadNote),
)

# Each place at which a list of turnings is handed in, the refusal due of one that is none.
LISTS = (
    (spans.spanned, 2, [(-2, 1), (2, 1), (1, 2)]),
    (rows.left, PAIR, [(2, 1), (1, 2), (2, -1)]),
    (rows.lost, PAIR, [(2, 1), (-1, 2), (1, 2)]),
)


def junk():
    """Lists and dicts, empty or not, and truths, none of which is part of anything right; made anew."""
    return [[], {}, [1], [0], {1: 1}, {0: []}, [[]], [{}], {"a": [1, {2: (3,)}]}, ([],), ({},), (1, [2]), ({1: 2}, 2),
            [(1, 2)], {(): ()}, True, False, None, (True,), ((False,),)]


def with_junk(thing, bad):
    """All that comes of putting the bad thing in the stead of, or beside, any one part within this one."""
    yield bad
    if isinstance(thing, tuple):
        for at, part in enumerate(thing):
            for other in with_junk(part, bad):
                yield thing[:at] + (other,) + thing[at + 1:]
            yield thing[:at] + (bad,) + thing[at:]
        yield thing + (bad,)


def plain(thing):
    """Whether a thing is built of tuples, whole numbers and texts alone."""
    if type(thing) is tuple:
        return all(plain(part) for part in thing)
    return type(thing) in (int, str)


def in_its_place(things, at, thing):
    return things[:at] + (thing,) + things[at + 1:]


class Whole(unittest.TestCase):
    def test_the_same_is_told_again_and_nothing_is_changed(self):
        for call, things, kind in CALLS:
            with self.subTest(call=call.__name__):
                handed = copy.deepcopy(things)
                told = call(*handed)
                self.assertEqual(repr(handed), repr(things))
                self.assertIs(type(told), kind)
                again = call(*copy.deepcopy(things))
                self.assertEqual(repr(again), repr(told))
                self.assertEqual(repr(call(*handed)), repr(told))

    def test_what_is_told_is_the_askers_own(self):
        for call, things, kind in CALLS:
            with self.subTest(call=call.__name__):
                told = call(*things)
                if kind is not list:
                    self.assertTrue(kind is bool or plain(told))
                    continue
                # No list but the one that is told, so no two of it can be one.
                self.assertTrue(told and all(plain(part) for part in told))
                self.assertTrue(all(told is not thing for thing in things))
                before = repr(told)
                other = call(*things)
                self.assertIsNot(other, told)
                told.append(None)
                told[0] = []
                told.reverse()
                self.assertEqual(repr(other), before)
                self.assertEqual(repr(call(*things)), before)

    def test_the_right_things_are_taken(self):
        for call, things, at, due in PLACES:
            with self.subTest(call=call.__name__, at=at):
                told = call(*things)
                if due is False:
                    self.assertIs(told, True)

    def test_lists_dicts_and_truths_at_any_place_within(self):
        for call, things, at, due in PLACES:
            with self.subTest(call=call.__name__, at=at):
                for bad in junk():
                    for thing in with_junk(things[at], bad):
                        if due is False:
                            check_told(self, call, in_its_place(things, at, thing), False)
                        else:
                            check_refused(self, due, call, *in_its_place(things, at, thing))

    def test_right_things_as_lists_and_dicts(self):
        for call, things, at, due in PLACES:
            right = things[at]
            forms = [[right], (right,), {1: right}, [[right]], ((right,),)]
            if isinstance(right, tuple):
                forms += [list(right), dict(enumerate(right))]
            with self.subTest(call=call.__name__, at=at):
                for thing in forms:
                    if due is False:
                        check_told(self, call, in_its_place(things, at, thing), False)
                    else:
                        check_refused(self, due, call, *in_its_place(things, at, thing))

    def test_what_is_junk_within_lists_of_turnings(self):
        for call, first, turned in LISTS:
            with self.subTest(call=call.__name__):
                for at, turning in enumerate(turned):
                    for bad in junk():
                        for thing in with_junk(turning, bad):
                            some = turned[:at] + [thing] + turned[at + 1:]
                            check_refused(self, errors.NoTurning, call, first, some)
                            check_refused(self, errors.NoTurning, call, first, tuple(some))

    def test_a_list_grown_behind_the_asking(self):
        for call, first, turned in LISTS:
            for many in range(len(turned)):
                some = turned[:many]
                told = call(first, some)
                before = repr(told)
                some.append(turned[many])
                self.assertEqual(repr(told), before)
                # Asked by the same list, now grown, it is asked anew.
                self.assertEqual(call(first, some), call(first, tuple(turned[:many + 1])))
                some.clear()
                self.assertEqual(repr(told), before)
                self.assertEqual(repr(call(first, turned[:many])), before)
                self.assertEqual(repr(call(first, tuple(turned[:many]))), before)

    def test_what_was_told_may_be_handed_in(self):
        for riddle in FIXED_RIDDLES:
            if riddle[0] > 4:
                continue
            some = likenesses.likenesses(riddle)[:4]
            before = list(some)
            spanned = spans.spanned(riddle[0], some)
            there = rows.left(riddle, some)
            self.assertIsNot(spanned, some)
            self.assertIsNot(there, some)
            self.assertEqual(some, before)
            some.clear()
            self.assertEqual(likenesses.likenesses(riddle), likenesses_by_words(riddle))

    def test_nothing_hangs_on_what_was_asked_ahead(self):
        pool = some_riddles(most=4, rounds=1)
        asked = (riddles.answers, likenesses.likenesses, likenesses.kinds, spans.few_spanning, rows.sharp_rows,
                 alike.least_name, putting.all_puttings, notes.riddle_text)
        told = [[repr(call(riddle)) for call in asked] for riddle in pool]
        for riddle, before in reversed(list(zip(pool, told))):
            self.assertEqual([repr(call(riddle)) for call in reversed(asked)], before[::-1])

    def test_further_to_the_left_is_looked_at_first(self):
        for bad in junk():
            for other in junk():
                check_refused(self, errors.NoName, riddles.narrowed, EXAMPLE, bad, other)
                check_refused(self, errors.NoNumber, spans.spanned, bad, [other])
        check_refused(self, errors.NoTurning, rows.left, PAIR, [(1, 2), [], (3, 4)])


if __name__ == "__main__":
    unittest.main()

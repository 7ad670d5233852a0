"""Papers: [1], [60], [61]."""

import random
import unittest

from samples import (
    CLAUSES, EXAMPLE, FIXED_RIDDLES, ONE_OF_THREE, RING, TURNINGS, answers_by_words, check_refused, check_told,
    clause_by_words, follows_by_words, likenesses_by_words, map_of, no_clauses, odd_things, random_riddle, riddle_of,
    some_riddles, spoilt, whole_tuple,
)
from twinriddles.errors import NoClause
from twinriddles.papers import follows, is_paper, paper_of

RIDDLES = some_riddles(rounds=2)


def shown_by_words(names, thing):
    return repr(thing) == "()" or clause_by_words(names, thing)


def number_by_words(thing, many):
    return type(thing) is int and thing in range(many)


def given_by_words(riddle, ahead, clause, at):
    return number_by_words(at, len(riddle[1])) and set(riddle[1][at]) == clause


def met_by_words(riddle, ahead, clause, one, other, name):
    if not number_by_words(one, len(ahead)) or not number_by_words(other, len(ahead)):
        return False
    if type(name) is not int or name not in range(1, riddle[0] + 1):
        return False
    if name not in ahead[one] or -name not in ahead[other]:
        return False
    return clause == (ahead[one] - {name}) | (ahead[other] - {-name})


def led_by_words(riddle, ahead, clause, at, turning):
    if not number_by_words(at, len(ahead)) or not whole_tuple(turning):
        return False
    return turning in likenesses_by_words(riddle) and {map_of(turning)[sign] for sign in ahead[at]} == clause


def wide_by_words(riddle, ahead, clause, at):
    return number_by_words(at, len(ahead)) and ahead[at] <= clause


WHYS = {
    "given": (2, given_by_words), "met": (4, met_by_words), "led": (3, led_by_words), "wide": (2, wide_by_words),
}


def step_by_words(riddle, ahead, step):
    if type(step) is not tuple or len(step) != 2:
        return False
    clause, why = step
    if not shown_by_words(riddle[0], clause) or type(why) is not tuple or not why or type(why[0]) is not str:
        return False
    length, right = WHYS.get(why[0], (0, None))
    return len(why) == length and right(riddle, ahead, set(clause), *why[1:])


def paper_by_words(riddle, thing):
    if type(thing) is not tuple or len(thing) not in range(1, 201):
        return False
    ahead = []
    for step in thing:
        if not step_by_words(riddle, ahead, step):
            return False
        ahead.append(set(step[0]))
    return True


def in_order(signs):
    return tuple(sorted(signs, key=abs))


def any_step(rng, riddle, paper):
    """A step that may stand behind these, or None where the dice find none."""
    names, clauses = riddle
    word = rng.choice(("given", "met", "met", "led", "wide"))
    if word == "given" or not paper:
        if not clauses:
            return None
        at = rng.randrange(len(clauses))
        return (clauses[at], ("given", at))
    at = rng.randrange(len(paper))
    signs = set(paper[at][0])
    if word == "led":
        turning = rng.choice(likenesses_by_words(riddle))
        return (in_order(map_of(turning)[sign] for sign in signs), ("led", at, turning))
    if word == "wide":
        for name in range(1, names + 1):
            if not signs & {name, -name} and rng.random() < 0.3:
                signs.add(rng.choice((name, -name)))
        return (in_order(signs), ("wide", at))
    found = []
    for other, (clause, _) in enumerate(paper):
        for name in signs:
            both = (signs - {name}) | (set(clause) - {-name})
            if name > 0 and -name in clause and not any(-sign in both for sign in both):
                found.append((in_order(both), ("met", at, other, name)))
    return rng.choice(found) if found else None


def any_paper(rng, riddle, many):
    """A paper of so many steps, some of each why where the riddle has such."""
    paper = []
    for _ in range(many * 20):
        step = any_step(rng, riddle, paper)
        if step is not None and len(paper) < many:
            paper.append(step)
    return tuple(paper)


PAPER = (
    ((-2, 3), ("given", 0)),
    ((1, -2), ("given", 2)),
    ((1, 2), ("given", 3)),
    ((1, 3), ("met", 2, 0, 2)),
    ((1,), ("met", 2, 1, 2)),
    ((1,), ("led", 4, (1, 2, 3))),
    ((1, -2, 3), ("wide", 5)),
    ((-1,), ("given", 1)),
    ((), ("met", 5, 7, 1)),
    ((), ("led", 8, (1, 2, 3))),
    ((2,), ("wide", 9)),
    ((), ("wide", 8)),
)


class IsPaper(unittest.TestCase):
    def yes(self, riddle, thing):
        self.assertTrue(paper_by_words(riddle, thing))
        check_told(self, is_paper, (riddle, thing), True)

    def no(self, riddle, thing):
        self.assertFalse(paper_by_words(riddle, thing))
        check_told(self, is_paper, (riddle, thing), False)

    def test_by_hand(self):
        for many in range(1, len(PAPER) + 1):
            self.yes(EXAMPLE, PAPER[:many])
        self.no(EXAMPLE, ())
        for at in range(1, len(PAPER)):
            self.no(EXAMPLE, PAPER[at:])
        self.no((3, ()), PAPER)

    def test_likenesses(self):
        self.yes(RING, (((1, 2), ("given", 0)), ((2, 3), ("led", 0, (2, 3, 4, 1)))))
        self.yes(RING, (((1, 2), ("given", 0)), ((1, 4), ("led", 0, (4, 1, 2, 3)))))
        self.no(RING, (((1, 2), ("given", 0)), ((4, 1), ("led", 0, (4, 1, 2, 3)))))
        self.no(RING, (((1, 2), ("given", 0)), ((3, 4), ("led", 0, (2, 3, 4, 1)))))
        # No likeness, though the clause that comes is one of the riddle's.
        self.no(RING, (((1, 2), ("given", 0)), ((2, 3), ("led", 0, (2, 3, 1, 4)))))
        self.no(RING, (((1, 2), ("given", 0)), ((1, 2), ("led", 0, (1, 2, 3, -4)))))
        for turning in TURNINGS[4][::3]:
            clause = in_order((turning[0], turning[1]))
            paper = (((1, 2), ("given", 0)), (clause, ("led", 0, turning)))
            self.assertIs(is_paper(RING, paper), turning in likenesses_by_words(RING))
        for turning in ([2, 3, 4, 1], (2, 3, 4, True), (2, 3, 4), (2, 3, 4, 1, 5), (2, 2, 4, 1), None, "2 3 4 1", {}):
            self.no(RING, (((1, 2), ("given", 0)), ((2, 3), ("led", 0, turning))))

    def test_met(self):
        riddle = riddle_of(3, (1, 2), (-1, 3), (-1, -2), (1, -2, 3))
        given = tuple((clause, ("given", at)) for at, clause in enumerate(riddle[1]))
        place = {clause: at for at, clause in enumerate(riddle[1])}
        one, other, third = place[(1, 2)], place[(-1, 3)], place[(-1, -2)]
        self.yes(riddle, given + (((2, 3), ("met", one, other, 1)),))
        for clause in ((2,), (3,), (), (1, 2, 3), (-1, 2, 3), (3, 2), (2, -3), (-2, 3), (1, 2), (2, 3, 3)):
            self.no(riddle, given + ((clause, ("met", one, other, 1)),))
        for why in (("met", other, one, 1), ("met", one, other, -1), ("met", other, one, -1), ("met", one, other, 2),
                    ("met", one, other, 0), ("met", one, other, 4), ("met", one, one, 1), ("met", one, third, 1),
                    ("met", one, other, True), ("met", one, other), ("met", one, other, 1, 1), ("met", one, 1)):
            self.no(riddle, given + (((2, 3), why),))
        # Met at the name 1 these would have the name 2 and its contrary.
        for clause in ((2, -2), (-2, 2), (2,), (-2,), ()):
            self.no(riddle, given + ((clause, ("met", one, third, 1)),))

    def test_a_sign_that_both_have_comes_once(self):
        riddle = riddle_of(3, (1, 2, 3), (-1, 2))
        given = (((-1, 2), ("given", 0)), ((1, 2, 3), ("given", 1)))
        self.yes(riddle, given + (((2, 3), ("met", 1, 0, 1)),))
        self.no(riddle, given + (((2, 2, 3), ("met", 1, 0, 1)),))

    def test_wide(self):
        riddle = (3, ((-2,),))
        given = (((-2,), ("given", 0)),)
        for clause in ((-2,), (1, -2), (-2, 3), (-1, -2, 3)):
            self.yes(riddle, given + ((clause, ("wide", 0)),))
        for clause in ((), (1,), (2,), (1, 2), (1, 3), (-2, 2), (3, -2), (-2, 4), (-2, -2), [-2], (-2, True)):
            self.no(riddle, given + ((clause, ("wide", 0)),))

    def test_given(self):
        for at, clause in enumerate(EXAMPLE[1]):
            self.yes(EXAMPLE, ((clause, ("given", at)),))
            for other in list(range(-5, 6)) + [None, True, False, "0", (at,), [at], {}]:
                if repr(other) != repr(at):
                    self.no(EXAMPLE, ((clause, ("given", other)),))
            self.no(EXAMPLE, ((clause + (True,), ("given", at)),))
        self.no(EXAMPLE, (((), ("given", 0)),))
        self.no((1, ((1,),)), (((True,), ("given", 0)),))
        self.no((1, ((1,),)), (((1,), ("given", False)),))
        self.no((0, ()), (((), ("given", 0)),))

    def test_numbers_of_steps(self):
        for at, (clause, why) in enumerate(PAPER):
            for place in range(1, len(why)):
                if why[0] == "given" or not isinstance(why[place], int):
                    continue
                for number in (-1, -2, at, at + 1, len(PAPER), 200, 10 ** 29, True, False, None, "0", (0,), [0], {}):
                    other = why[:place] + (number,) + why[place + 1:]
                    thing = PAPER[:at] + ((clause, other),) + PAPER[at + 1:]
                    self.assertIs(is_paper(EXAMPLE, thing), paper_by_words(EXAMPLE, thing), repr(other))
        riddle = (1, ((-1,), (1,)))
        given = (((-1,), ("given", 0)), ((1,), ("given", 1)))
        self.yes(riddle, given + (((), ("met", 1, 0, 1)),))
        for why in (("met", True, 0, 1), ("met", 1, False, 1), ("met", -1, 0, 1), ("met", 1, -2, 1), ("met", 2, 0, 1),
                    ("met", 1, 2, 1), ("met", 3, 0, 1)):
            self.no(riddle, given + (((), why),))
        self.yes(riddle, given + (((1,), ("wide", 1)),))
        self.yes(riddle, given + (((1,), ("led", 1, (1,))), ((1,), ("wide", 2))))
        for at in (True, -1, 2, 3, 0):
            self.no(riddle, given + (((1,), ("wide", at)),))
            self.no(riddle, given + (((1,), ("led", at, (1,))),))
        self.no(riddle, given + (((1,), ("wide", 3)), ((1,), ("wide", 1))))

    def test_whys_of_another_sort(self):
        given = (((-2, 3), ("given", 0)),)
        for why in (("give", 0), ("Given", 0), ("given ", 0), ("", 0), (0, 0), (None, 0), ([], 0), ({}, 0), ((), 0),
                    (("given",), 0), ("given",), ("given", 0, 0), ("wide",), ("wide", 0, 0), ("led", 0),
                    ("led", 0, (1, 2, 3), 0), ("led",), ("met",), ("met", 0), (), "given", "wide", None, 0, True,
                    ["given", 0], {"given": 0}, [], {}, ("wide", 0, (1, 2, 3)), ("given", 0, (1, 2, 3)),
                    (0, "given"), ("led", (1, 2, 3), 0), ("given", 0, 0, 0), ("wide", 0, 0, 0)):
            self.no(EXAMPLE, given + (((-2, 3), why),))
            self.no(EXAMPLE, (((-2, 3), why),))
        self.yes(EXAMPLE, given + given)

    def test_lists_in_the_place_of_tuples(self):
        self.no(EXAMPLE, list(PAPER))
        for at, (clause, why) in enumerate(PAPER):
            for step in ([clause, why], (list(clause), why), (clause, list(why)), {clause: why}, (clause,),
                         (clause, why, why), (why, clause), clause, why, None, ()):
                self.no(EXAMPLE, PAPER[:at] + (step,) + PAPER[at + 1:])

    def test_at_most_200_steps(self):
        rng = random.Random(60)
        for riddle in (EXAMPLE, RING, (5, ((-1, 2), (1, 2, 3, 4, 5)))):
            paper = any_paper(rng, riddle, 200)
            self.assertEqual(len(paper), 200)
            self.yes(riddle, paper)
            self.yes(riddle, paper[:199])
            self.no(riddle, paper + ((paper[-1][0], ("wide", 199)),))
            self.no(riddle, paper + paper[:1])

    def test_a_step_is_looked_at_wherever_it_stands(self):
        rng = random.Random(61)
        paper = any_paper(rng, RING, 200)
        for at in (0, 1, 57, 198, 199):
            clause, why = paper[at]
            self.no(RING, paper[:at] + ((clause, ("given", True)),) + paper[at + 1:])
            self.no(RING, paper[:at] + ((clause + (5,), why),) + paper[at + 1:])

    def test_papers_at_random(self):
        rng = random.Random(62)
        words = {}
        for riddle in RIDDLES:
            paper = any_paper(rng, riddle, 25)
            if paper:
                self.yes(riddle, paper)
                for clause, why in paper:
                    words[why[0]] = words.get(why[0], 0) + 1
                    self.assertTrue(follows_by_words(riddle, clause))
        self.assertEqual(sorted(words), ["given", "led", "met", "wide"])
        self.assertGreater(min(words.values()), 200)

    def test_one_clause_otherwise(self):
        rng = random.Random(63)
        told = {True: 0, False: 0}
        for riddle in RIDDLES:
            paper = any_paper(rng, riddle, 12)
            pool = sorted(CLAUSES[riddle[0]]) + [()]
            for at, (clause, why) in enumerate(paper):
                others = [clause[:place] + clause[place + 1:] for place in range(len(clause))]
                others += [in_order(clause + (name,)) for name in range(1, riddle[0] + 1)]
                others += [tuple(-sign for sign in clause), clause[::-1], rng.choice(pool), clause + clause[:1]]
                for other in others:
                    thing = paper[:at] + ((other, why),) + paper[at + 1:]
                    truth = paper_by_words(riddle, thing)
                    self.assertIs(is_paper(riddle, thing), truth, repr((riddle, thing)))
                    told[truth] += 1
        self.assertGreater(min(told.values()), 500)

    def test_one_why_otherwise(self):
        rng = random.Random(64)
        told = {True: 0, False: 0}
        for riddle in RIDDLES:
            paper = any_paper(rng, riddle, 12)
            for at, (clause, why) in enumerate(paper):
                for _ in range(8):
                    other = list(rng.choice(paper)[1] if rng.random() < 0.3 else why)
                    place = rng.randrange(len(other))
                    if isinstance(other[place], int):
                        other[place] += rng.choice((-2, -1, 1, 2))
                    elif isinstance(other[place], tuple):
                        other[place] = rng.choice(TURNINGS[riddle[0]])
                    else:
                        other[place] = rng.choice(sorted(WHYS))
                    thing = paper[:at] + ((clause, tuple(other)),) + paper[at + 1:]
                    truth = paper_by_words(riddle, thing)
                    self.assertIs(is_paper(riddle, thing), truth, repr((riddle, thing)))
                    told[truth] += 1
        self.assertGreater(min(told.values()), 300)

    def test_things_of_anything(self):
        for riddle in FIXED_RIDDLES:
            for thing in odd_things():
                self.no(riddle, thing)

    def test_things_of_anything_at_any_place(self):
        for junk in odd_things() + ["given", "met", "led", "wide", ("given", 1), ("wide", 0)]:
            for thing in spoilt(PAPER, junk):
                self.assertIs(is_paper(EXAMPLE, thing), paper_by_words(EXAMPLE, thing), repr(thing))


class Follows(unittest.TestCase):
    def check(self, riddle, clause):
        truth = follows_by_words(riddle, clause)
        self.assertIs(follows(riddle, clause), truth)
        paper = paper_of(riddle, clause)
        if truth:
            self.assertTrue(paper_by_words(riddle, paper), repr((riddle, clause, paper)))
            self.assertIs(is_paper(riddle, paper), True)
            self.assertEqual(paper[-1][0], clause)
        else:
            self.assertIsNone(paper)
        self.assertEqual(paper_of(riddle, clause), paper)
        return truth

    def test_by_hand(self):
        self.assertIs(follows(EXAMPLE, ()), True)
        self.assertIs(follows(EXAMPLE, (1, 2)), True)
        self.assertIs(follows((0, ()), ()), False)
        self.assertIs(paper_of((0, ()), ()), None)
        self.assertIs(follows((1, ()), (1,)), False)
        self.assertIs(follows((1, ((1,),)), (1,)), True)
        self.assertIs(follows((1, ((1,),)), (-1,)), False)
        self.assertIs(follows((1, ((1,),)), ()), False)
        self.assertIs(follows((3, ((-2, 3), (-1, 2))), (-1, 3)), True)
        self.assertIs(follows((3, ((-2, 3), (-1, 2))), (1, -3)), False)
        self.assertEqual(paper_of((1, ((1,),)), (1,)), (((1,), ("given", 0)),))

    def test_each_clause(self):
        told = {True: 0, False: 0}
        for riddle in RIDDLES:
            pool = sorted(CLAUSES[riddle[0]])
            for clause in [()] + (pool if riddle[0] < 4 else pool[::5]):
                told[self.check(riddle, clause)] += 1
        self.assertGreater(min(told.values()), 500)

    def test_none_follows_just_where_no_answer_keeps_the_riddle(self):
        for riddle in RIDDLES:
            self.assertIs(follows(riddle, ()), not answers_by_words(riddle))

    def test_clauses_of_all_names_leave_no_answer(self):
        for names in range(1, 5):
            riddle = riddle_of(names, *[clause for clause in CLAUSES[names] if len(clause) == names])
            for clause in [()] + sorted(CLAUSES[names]):
                self.assertIs(self.check(riddle, clause), True)

    def test_the_longest_papers(self):
        rng = random.Random(65)
        found = 0
        pool = [clause for clause in sorted(CLAUSES[5]) if len(clause) >= 3]
        for _ in range(300):
            riddle = (5, tuple(sorted(rng.sample(pool, 30))))
            for clause in [()] + rng.sample(sorted(CLAUSES[5]), 6):
                found += self.check(riddle, clause)
        self.assertGreater(found, 100)

    def test_no_clause(self):
        for riddle in FIXED_RIDDLES:
            for thing in no_clauses(riddle[0]):
                if repr(thing) != "()":
                    check_refused(self, NoClause, follows, riddle, thing)
                    check_refused(self, NoClause, paper_of, riddle, thing)

    def test_what_is_no_clause_follows_not_even_where_all_does(self):
        for thing in ([], {}, "", None, False, 0, (0,), (4,), (-4,), (2, 1), (1, 1), (1, -1), (True,), [1], ((),),
                      (1, 2, 3, 4)):
            check_refused(self, NoClause, follows, EXAMPLE, thing)
            check_refused(self, NoClause, paper_of, EXAMPLE, thing)
            check_refused(self, NoClause, follows, ONE_OF_THREE, thing)

    def test_somewhat_beyond_the_bounds(self):
        rng = random.Random(66)
        for many in (3, 40):
            for _ in range(20):
                riddle = (5, tuple(sorted(rng.sample(sorted(CLAUSES[5]), many))))
                self.check(riddle, ())
                self.check(riddle, rng.choice(sorted(CLAUSES[5])))
        riddle = (6, ((-6,), (-5, 6), (-4, 5), (1, 2, 3, 4)))
        self.assertIs(follows(riddle, (1, 2, 3)), True)
        self.assertIs(is_paper(riddle, paper_of(riddle, (1, 2, 3))), True)
        self.assertIs(follows(riddle, (1, 2)), False)

    def test_riddles_that_are_handed_in_stay(self):
        rng = random.Random(67)
        riddle = random_riddle(rng, 4, 20)
        before = repr(riddle)
        paper_of(riddle, ())
        self.assertEqual(repr(riddle), before)


if __name__ == "__main__":
    unittest.main()

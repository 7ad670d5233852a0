"""A desk: [1], [91], [92]."""

import itertools
import random
import re
import unittest

from samples import (
    CLAUSES, EXAMPLE, FIXED_RIDDLES, ONE_OF_THREE, TURNINGS, alike_by_words, answers_by_words, beside_by_words,
    check_refused, clause_by_words, crowd_by_words, follows_by_words, kinds_by_words, led_by_words,
    likenesses_by_words, may_put_by_words, narrowed_by_words, odd_things, random_riddle, riddle_of, some_riddles,
)
from twinriddles.desk import Desk
from twinriddles.errors import (
    BadNote, NoBit, NoClause, NoName, NoNumber, NoPutting, NoRiddle, NoTurning, RiddleError, TooMany,
)
from twinriddles.notes import riddle_text, turning_text
from written import changed_texts, written_clause, written_riddle, written_turning

LINES = (
    ("riddle N", "riddle"), ("kept", ""), ("show A", ""), ("answers A", ""), ("firsts A", ""), ("likenesses A", ""),
    ("sizes A", ""), ("narrow A K D N", ""), ("lead A N", "turning"), ("beside A B N", ""), ("crowd K L M N", ""),
    ("put A CLAUSE N", "turning"), ("follows A CLAUSE", ""), ("alike A B", ""),
)


def pattern_of(words, text):
    """A pattern that finds the parts of a line by their names."""
    found = []
    for word in words.split(" "):
        if word in ("N", "A", "B"):
            found.append(f"(?P<{word}>[a-z]{{1,8}})")
        elif word in ("K", "D", "L", "M"):
            found.append(f"(?P<{word}>[0-9])")
        elif word == "CLAUSE":
            found.append("(?P<CLAUSE>[^ ]+)")
        else:
            found.append(word)
    return re.compile(" ".join(found + ["(?P<TEXT>.*)"] if text else found), re.DOTALL)


PATTERNS = [(words.split(" ")[0], pattern_of(words, text), text) for words, text in LINES]


def spaced(things):
    return " ".join(things) or "no answer"


def bits(answer):
    return "".join(map(str, answer)) or "none"


def wanted(part, refusal):
    """What is no None, else the refusal."""
    if part is None:
        raise refusal("by words")
    return part


class DeskByWords:
    """What the document says of a desk, said a second time."""

    def __init__(self):
        self.riddles = {}

    def say(self, line):
        if type(line) is not str:
            raise BadNote("by words")
        for word, pattern, text in PATTERNS:
            match = pattern.fullmatch(line)
            if match:
                parts = match.groupdict()
                if text:
                    read = written_riddle if text == "riddle" else written_turning
                    parts["TEXT"] = wanted(read(parts["TEXT"]), BadNote)
                if "CLAUSE" in parts:
                    parts["CLAUSE"] = wanted(written_clause(parts["CLAUSE"]), BadNote)
                for name in ("A", "B"):
                    if name in parts:
                        parts[name] = wanted(self.riddles.get(parts[name]), NoRiddle)
                for figure in set("KDLM") & set(parts):
                    parts[figure] = int(parts[figure])
                return self.done(word, parts)
        raise BadNote("by words")

    def done(self, word, parts):
        if word == "kept":
            return " ".join(sorted(self.riddles))
        if "N" not in parts:
            return self.told(word, parts)
        made = self.made(word, parts)
        if made is None:
            return "barred"
        self.riddles[parts["N"]] = made
        return "ok"

    def told(self, word, parts):
        riddle = parts["A"]
        if word == "show":
            return ":".join([str(riddle[0]), "".join(" " + "/".join(map(str, clause)) for clause in riddle[1])])
        if word == "answers":
            return spaced(map(bits, answers_by_words(riddle)))
        if word == "firsts":
            return spaced(bits(kind[0]) for kind in kinds_by_words(riddle))
        if word == "likenesses":
            return str(len(likenesses_by_words(riddle)))
        if word == "sizes":
            return spaced(str(len(kind)) for kind in kinds_by_words(riddle))
        if word == "follows":
            if not clause_by_words(riddle[0], parts["CLAUSE"]):
                raise NoClause("by words")
            return "yes" if follows_by_words(riddle, parts["CLAUSE"]) else "no"
        turning = alike_by_words(riddle, parts["B"])
        return "never" if turning is None else " ".join(map(str, turning)) or "none"

    def made(self, word, parts):
        if word == "riddle":
            return parts["TEXT"]
        if word == "crowd":
            names, least, most = parts["K"], parts["L"], parts["M"]
            if not 0 <= least <= most <= names <= 5:
                raise NoNumber("by words")
            return crowd_by_words(names, least, most)
        riddle = parts["A"]
        if word == "narrow":
            if not 1 <= parts["K"] <= riddle[0]:
                raise NoName("by words")
            if parts["D"] > 1:
                raise NoBit("by words")
            return narrowed_by_words(riddle, parts["K"], parts["D"])
        if word == "lead":
            if len(parts["TEXT"]) != riddle[0]:
                raise NoTurning("by words")
            return led_by_words(riddle, parts["TEXT"])
        if word == "beside":
            return wanted(beside_by_words(riddle, parts["B"]), TooMany)
        if not may_put_by_words(riddle, parts["CLAUSE"], parts["TEXT"]):
            raise NoPutting("by words")
        together = riddle_of(riddle[0], *(set(riddle[1]) | {parts["CLAUSE"]}))
        if len(together[1]) > 30:
            raise TooMany("by words")
        return together


def heard(desk, line):
    """What a desk answers, or by which class it refuses."""
    try:
        return desk.say(line)
    except RiddleError as error:
        return type(error)


def filled(*riddles):
    """A desk that keeps these by the names a, b, c .."""
    desk = Desk()
    for name, riddle in zip("abcdefghij", riddles):
        assert desk.say(f"riddle {name} {riddle_text(riddle)}") == "ok"
    return desk


def all_shown(desk):
    return [(name, desk.say(f"show {name}")) for name in desk.say("kept").split(" ") if name]


NAMES = ("a", "b", "c", "z", "abcdefgh", "qqqqqqqq", "kept", "riddle", "show", "none")


def any_clause(rng):
    return "/".join(map(str, rng.choice(sorted(CLAUSES[rng.randint(1, 5)]))))


def any_turning(rng, model, name):
    riddle = model.riddles.get(name)
    if riddle is None or rng.random() < 0.1:
        return turning_text(rng.choice(TURNINGS[rng.randint(0, 5)]))
    if rng.random() < 0.5:
        return turning_text(rng.choice(likenesses_by_words(riddle)))
    return turning_text(rng.choice(TURNINGS[riddle[0]]))


def any_clause_of(rng, model, name):
    riddle = model.riddles.get(name)
    if riddle is None or not riddle[0] or rng.random() < 0.1:
        return any_clause(rng)
    return "/".join(map(str, rng.choice(sorted(CLAUSES[riddle[0]]))))


def any_line(rng, model, pool):
    """A line as it should be; its names are mostly of riddles that the model keeps."""
    kept = list(model.riddles) or ["a"]
    one, other = (rng.choice(kept if rng.random() < 0.95 else NAMES) for _ in range(2))
    new = rng.choice(NAMES)
    figures = [rng.choice((0, 1, 2, 3, 4, 5, rng.randint(0, 9))) for _ in range(3)]
    word = rng.choice(LINES)[0].split(" ")[0]
    if word == "riddle":
        return f"riddle {new} {riddle_text(rng.choice(pool))}"
    if word == "kept":
        return "kept"
    if word == "narrow":
        return f"narrow {one} {figures[0]} {rng.choice((0, 1, 0, 1, figures[1]))} {new}"
    if word == "lead":
        return f"lead {one} {new} {any_turning(rng, model, one)}"
    if word == "beside":
        return f"beside {one} {other} {new}"
    if word == "crowd":
        if rng.random() < 0.6:
            figures.sort()
            figures = [figures[2], figures[0], figures[1]]
        return "crowd {} {} {} {}".format(*figures, new)
    if word == "put":
        return f"put {one} {any_clause_of(rng, model, one)} {new} {any_turning(rng, model, one)}"
    if word == "follows":
        return f"follows {one} {any_clause_of(rng, model, one)}"
    if word == "alike":
        return f"alike {one} {other}"
    return f"{word} {one}"


class Lines(unittest.TestCase):
    def test_a_session_by_hand(self):
        desk = Desk()
        for line, answer in (
            ("kept", ""),
            ("riddle a 3: -2/-3 -1/-3 -1/-2 1/2/3", "ok"),
            ("kept", "a"),
            ("show a", "3: -2/-3 -1/-3 -1/-2 1/2/3"),
            ("answers a", "001 010 100"),
            ("firsts a", "001"),
            ("likenesses a", "6"),
            ("sizes a", "3"),
            ("narrow a 1 0 b", "ok"),
            ("show b", "2: -1/-2 1/2"),
            ("narrow a 1 1 c", "ok"),
            ("show c", "2: -2 -1 -1/-2"),
            ("answers c", "00"),
            ("narrow c 1 1 d", "barred"),
            ("kept", "a b c"),
            ("lead b d -1 2", "ok"),
            ("show d", "2: -1/2 1/-2"),
            ("alike b d", "-2 1"),
            ("alike a b", "never"),
            ("beside a b e", "ok"),
            ("show e", "5: -4/-5 -2/-3 -1/-3 -1/-2 1/2/3 4/5"),
            ("sizes e", "6"),
            ("crowd 3 1 1 f", "ok"),
            ("show f", "3: -2/-3 -1/-3 -1/-2 1/2/3"),
            ("put b -1 g 2 1", "ok"),
            ("show g", "2: -1 -1/-2 1/2"),
            ("follows g 2", "yes"),
            ("follows g 1", "no"),
            ("riddle abcdefgh 1: -1 1", "ok"),
            ("answers abcdefgh", "no answer"),
            ("firsts abcdefgh", "no answer"),
            ("sizes abcdefgh", "no answer"),
            ("likenesses abcdefgh", "2"),
            ("follows abcdefgh 1", "yes"),
            ("kept", "a abcdefgh b c d e f g"),
        ):
            self.assertEqual(desk.say(line), answer, line)

    def test_a_riddle_without_names(self):
        desk = filled((0, ()))
        for line, answer in (
            ("show a", "0:"), ("answers a", "none"), ("firsts a", "none"), ("likenesses a", "1"), ("sizes a", "1"),
            ("alike a a", "none"), ("lead a b none", "ok"), ("beside a b c", "ok"), ("show c", "0:"),
            ("crowd 0 0 0 d", "ok"), ("show d", "0:"),
        ):
            self.assertEqual(desk.say(line), answer, line)

    def test_each_line_with_names_of_one_letter_and_of_eight(self):
        for one, other, new in itertools.product(("a", "abcdefgh"), ("z", "zyxwvuts"), ("n", "nnnnnnnn")):
            desk, model = Desk(), DeskByWords()
            lines = [f"riddle {one} 3: 1/2/3", f"riddle {other} 2: 1/2"]
            for line in ("narrow {0} 1 0 {2}", "lead {0} {2} 3 -1 2", "beside {0} {1} {2}", "crowd 4 1 2 {2}",
                         "put {0} -1/2 {2} 2 1 3", "show {0}", "answers {0}", "firsts {0}", "likenesses {0}",
                         "sizes {0}", "follows {0} 1/2/3", "follows {1} -1", "alike {0} {1}", "alike {1} {1}", "kept"):
                lines += [line.format(one, other, new), f"show {new}"]
            for line in lines:
                self.assertEqual(desk.say(line), model.say(line), line)

    def test_each_riddle_asked(self):
        for riddle in some_riddles(rounds=1) + FIXED_RIDDLES:
            desk, model = filled(riddle), DeskByWords()
            model.riddles["a"] = riddle
            for word in ("show", "answers", "firsts", "likenesses", "sizes"):
                told = desk.say(f"{word} a")
                self.assertIs(type(told), str)
                self.assertEqual(told, model.say(f"{word} a"))
                self.assertEqual(desk.say(f"{word} a"), told)

    def test_in_the_stead_of_an_elder_one(self):
        desk = filled((3, ((1, 2, 3),)), (2, ((1, 2),)))
        for line, answer, shown in (
            ("riddle a 4: 1/2", "ok", "4: 1/2"),
            ("narrow a 1 0 a", "ok", "3: 1"),
            ("lead a a -2 1 3", "ok", "3: -2"),
            ("beside a b a", "ok", "5: -2 4/5"),
            ("narrow a 1 1 a", "ok", "4: -1 3/4"),
            ("narrow a 1 1 a", "barred", "4: -1 3/4"),
            ("crowd 2 1 2 a", "ok", "2: 1/2"),
            ("put a -1/2 a 2 1", "ok", "2: -1/2 1/2"),
            ("beside b a a", "ok", "4: -3/4 1/2 3/4"),
            ("crowd 1 0 0 a", "ok", "1: -1"),
            ("beside a a a", "ok", "2: -2 -1"),
        ):
            self.assertEqual(desk.say(line), answer, line)
            self.assertEqual(desk.say("show a"), shown, line)
            self.assertEqual(desk.say("show b"), "2: 1/2", line)
            self.assertEqual(desk.say("kept"), "a b")

    def test_b_of_the_line_kept_anew(self):
        desk = filled((1, ((1,),)), (2, ((1, 2),)))
        self.assertEqual(desk.say("beside a b b"), "ok")
        self.assertEqual(desk.say("show b"), "3: 1 2/3")
        self.assertEqual(desk.say("show a"), "1: 1")

    def test_what_was_made_does_not_hang_on_what_it_was_made_of(self):
        desk = filled((2, ((1, 2),)))
        self.assertEqual(desk.say("lead a b 2 1"), "ok")
        self.assertEqual(desk.say("beside a b c"), "ok")
        self.assertEqual(desk.say("riddle a 1:"), "ok")
        self.assertEqual(desk.say("show b"), "2: 1/2")
        self.assertEqual(desk.say("riddle b 0:"), "ok")
        self.assertEqual(desk.say("show c"), "4: 1/2 3/4")

    def test_names_in_the_order_of_texts(self):
        desk = Desk()
        for name in ("z", "b", "aa", "ab", "a", "abcdefgh", "zzzzzzzz", "ba"):
            desk.say(f"riddle {name} 0:")
        self.assertEqual(desk.say("kept"), "a aa ab abcdefgh b ba z zzzzzzzz")

    def test_words_of_lines_as_names(self):
        desk = Desk()
        words = ["riddle", "kept", "show", "answers", "firsts", "sizes", "narrow", "lead", "beside", "crowd", "put",
                 "follows", "alike", "none", "ok", "barred", "never", "yes", "no"]
        for word in words:
            self.assertEqual(desk.say(f"riddle {word} 1: 1"), "ok")
        self.assertEqual(desk.say("kept"), " ".join(sorted(words)))
        for word in words:
            self.assertEqual(desk.say(f"show {word}"), "1: 1")

    def test_two_desks_know_nothing_of_each_other(self):
        one, other = Desk(), Desk()
        self.assertEqual(one.say("riddle a 1: 1"), "ok")
        self.assertEqual(other.say("kept"), "")
        check_refused(self, NoRiddle, other.say, "show a")
        self.assertEqual(other.say("riddle a 2:"), "ok")
        self.assertEqual(one.say("show a"), "1: 1")
        self.assertEqual(other.say("show a"), "2:")
        self.assertEqual(one.say("riddle b 0:"), "ok")
        self.assertEqual((one.say("kept"), other.say("kept"), Desk().say("kept")), ("a b", "a", ""))

    def test_sessions_by_chance(self):
        rng = random.Random(91)
        pool = some_riddles(rounds=1) + FIXED_RIDDLES + [random_riddle(rng, names, 2) for names in range(1, 4)] * 20
        answers = {}
        for _ in range(30):
            desk, model = Desk(), DeskByWords()
            for _ in range(120):
                line = any_line(rng, model, pool)
                told = heard(desk, line)
                self.assertEqual(told, heard(model, line), line)
                key = (line.split(" ")[0], told if told in ("ok", "barred", "never", "yes", "no", "no answer")
                       else "text" if type(told) is str else told)
                answers[key] = answers.get(key, 0) + 1
            self.assertEqual(all_shown(desk), all_shown(model))
        for key in [
            ("narrow", "ok"), ("narrow", "barred"), ("narrow", NoName), ("narrow", NoBit), ("lead", "ok"),
            ("lead", NoTurning), ("beside", "ok"), ("beside", TooMany), ("crowd", "ok"), ("crowd", NoNumber),
            ("put", "ok"), ("put", NoPutting), ("follows", "yes"), ("follows", "no"), ("follows", NoClause),
            ("alike", "text"), ("alike", "never"), ("answers", "text"), ("answers", "no answer"),
            ("show", NoRiddle), ("put", NoRiddle),
        ]:
            self.assertGreater(answers.get(key, 0), 3, key)


class Refused(unittest.TestCase):
    def desk(self):
        return filled(ONE_OF_THREE, (2, ((1, 2),)), EXAMPLE)

    def refused(self, refusal, line, desk=None):
        """That the line is refused so, and that nothing is changed by it."""
        desk = desk or self.desk()
        before = all_shown(desk)
        check_refused(self, refusal, desk.say, line)
        self.assertEqual(all_shown(desk), before)

    def test_what_is_no_text(self):
        desk = self.desk()
        for thing in odd_things() + ["kept".encode(), ["kept"], ("kept",), {"kept": 1}, ["show a"], ("show", "a"),
                [[]]]:
            if type(thing) is not str:
                self.refused(BadNote, thing, desk)

    def test_what_is_no_line(self):
        desk = self.desk()
        for line in (
            "", " ", "a", "kept ", " kept", "kept a", "KEPT", "Kept", "keptt", "kep", "show", "show ", "show  a",
            " show a",
            "show a ", "show a b", "shows a", "Show a", "showa", "show,a", "show a\n", "show\ta", "likenesses a b",
            "answers", "firsts", "sizes", "likenesses", "riddle", "riddle a", "riddle a ", "riddle  a 0:",
            "riddle a  0:",
            "riddle a 0: ", "riddle a 0", "riddle 0:", "riddle a 3: 2 1", "riddle a 6:", "riddle a 3: 0",
            "riddle a b 0:", "narrow a 1 0", "narrow a 1 b", "narrow a 1 0 b c", "narrow a 1 0 ", "narrow a 01 0 b",
            "narrow a 1 00 b", "narrow a 10 0 b", "narrow a 1 10 b", "narrow a -1 0 b", "narrow a 1 -0 b",
            "narrow a +1 0 b", "narrow a x 0 b", "narrow a 1 x b", "narrow a  1 0 b", "narrow 1 a 0 b",
            "narrow a 1 0 B",
            "lead a b", "lead a b ", "lead a 1 2 3", "lead a b 1 2 3 ", "lead a b 1  2 3", "lead a b 1 1 2",
            "lead a b 0", "lead a b none 1", "lead a b 1 2 3 4 5 6", "lead a b 01 2 3", "lead a b 1/2/3", "lead a b c",
            "beside a b", "beside a", "beside a b c d", "beside a b c ", "beside a b 1", "beside 1 a b",
            "crowd 1 1 a", "crowd 1 1 1", "crowd 1 1 1 1 a", "crowd 01 1 1 a", "crowd 1 -1 1 a", "crowd 1 1 10 a",
            "crowd a 1 1 a", "crowd 1 1 1 a b", "crowd 1 1 1 ", "crowd 1  1 1 a",
            "put a 1 n", "put a 1 n ", "put a n 1 2 3", "put a 0 n 1 2 3", "put a 6 n 1 2 3", "put a 2/1 n 1 2 3",
            "put a 1/1 n 1 2 3", "put a 1/-1 n 1 2 3", "put a  n 1 2 3", "put a () n 1 2 3", "put a none n 1 2 3",
            "put a 1/ n 1 2 3", "put a 1 n 1 2 2", "put a 1 n 1 2 3 ", "put a +1 n 1 2 3", "put a 1 2 n 1 2 3",
            "follows a", "follows a ", "follows a 0", "follows a 6", "follows a -6", "follows a 2/1", "follows a 1 2",
            "follows a 1/2/3/4/5/6", "follows a 01", "follows a ()", "follows a none", "follows a 1/", "follows a /",
            "follows a 1 ", "follows a  1", "follows a -0", "follows a +1", "follows a 1/1", "follows a b",
            "alike a", "alike a b c", "alike a ", "alike a  b", "alike", "alike a b ", "alike a 1", "alike 1 a",
        ):
            self.refused(BadNote, line, desk)

    def test_names(self):
        desk = self.desk()
        for name in ("abcdefghi", "A", "aB", "a1", "1", "", "a-b", "a_b", "a.", "-", "a/b", "a:", "aaaaaaaaaaaaaaaa",
                     "`",
                     "{", "a{", "@", "[", "~", "Z"):
            for line in ("riddle {} 0:", "show {}", "answers {}", "firsts {}", "likenesses {}", "sizes {}",
                         "narrow {} 1 0 b", "narrow a 1 0 {}", "lead {} b 1 2 3", "lead a {} 1 2 3", "beside {} b c",
                         "beside a {} c", "beside a b {}", "crowd 1 1 1 {}", "put {} 1 n 1 2 3", "put a 1/2/3 {} 1 2 3",
                         "follows {} 1", "alike {} a", "alike a {}"):
                self.refused(BadNote, line.format(name), desk)

    def test_nothing_kept_by_this_name(self):
        for name in ("d", "x", "aa", "abcdefgh", "kept", "none"):
            for line in ("show {}", "answers {}", "firsts {}", "likenesses {}", "sizes {}", "narrow {} 1 0 b",
                         "lead {} b 1 2 3", "beside {} b c", "beside a {} c", "beside {} {} c", "put {} 1 n 1 2 3",
                         "follows {} 1", "alike {} a", "alike a {}", "alike {} {}", "narrow {} 1 0 {}", "lead {} {} 1"):
                self.refused(NoRiddle, line.format(name, name))
        check_refused(self, NoRiddle, Desk().say, "show a")

    def test_what_is_asked_refuses(self):
        for refusal, lines in (
            (NoName, ("narrow a 0 0 n", "narrow a 4 1 n", "narrow a 9 0 a", "narrow b 3 0 n", "narrow a 4 2 n")),
            (NoBit, ("narrow a 1 2 n", "narrow a 3 9 a", "narrow b 2 5 n")),
            (NoTurning, ("lead a n none", "lead a n 1", "lead a a 1 2", "lead a n 1 2 3 4", "lead b b 1 2 3 4 5")),
            (TooMany, ("beside a a n", "beside a c a", "beside c a b")),
            (NoNumber, ("crowd 6 0 0 n", "crowd 9 9 9 n", "crowd 3 4 4 a", "crowd 3 2 1 n", "crowd 3 0 4 n")),
            (NoPutting, ("put a 1 n 1 2 3", "put a 1 n 1 2", "put a 4 a 1 2 3", "put b -1 b -1 -2", "put a -1 n none",
                         "put a 1/2/3/4/5 n 1 2 3 4 5", "put b 1 b 2 1")),
            (NoClause, ("follows a 4", "follows a -5", "follows b 3", "follows a 1/2/3/4/5", "follows a 1/4")),
        ):
            for line in lines:
                self.refused(refusal, line)

    def test_too_many_clauses(self):
        pool = [clause for clause in sorted(CLAUSES[4]) if 1 not in clause][:29]
        desk = filled(riddle_of(4, (1,), *pool), riddle_of(4, (1,), *pool[:28]), (1, ((1,),)), (1, ()))
        self.refused(TooMany, "put a 1/2 n 1 2 3 4", desk)
        self.refused(TooMany, "put a 1/2 a 1 2 3 4", desk)
        self.refused(TooMany, "beside a c n", desk)
        self.assertEqual(desk.say("put a 1 n 1 2 3 4"), "ok")
        self.assertEqual(desk.say("put b 1/2 n 1 2 3 4"), "ok")
        self.assertEqual(desk.say("beside a d n"), "ok")
        self.assertEqual(desk.say("beside b c n"), "ok")

    def test_bad_note_ahead_of_no_riddle(self):
        for line in (
            "show x y", "narrow x 10 0 n", "narrow x 1 00 n", "narrow x 1 0 N", "narrow x 1 0", "lead x n 1 1",
            "lead x n 0", "lead x N 1", "lead x n ", "beside x y N", "beside x Y n", "beside x y", "beside a x n n",
            "put x 0 n 1", "put x 2/1 n 1", "put x 6 n 1", "put x 1 N 1", "put x 1 n 1 1", "put x 1 n", "follows x 0",
            "follows x 6", "follows x 2/1", "follows x", "alike x Y", "alike x", "alike x y z", "alike X y",
        ):
            self.refused(BadNote, line)

    def test_bad_note_ahead_of_what_is_asked_refuses(self):
        for line in (
            "narrow a 9 2 N", "narrow a 9 22 n", "narrow a 1 2 n n", "lead a N 1", "lead a n 1 1", "beside a a N",
            "beside a a n n", "crowd 9 9 9 N", "crowd 9 9 99 n", "crowd 3 2 1", "put a 4 N 1 2 3", "put a 4 n 1 2 4",
            "put a 6 n 1 2 3", "follows a 4/6", "follows a 4 4",
        ):
            self.refused(BadNote, line)

    def test_no_riddle_ahead_of_what_is_asked_refuses(self):
        for line in (
            "narrow x 0 0 n", "narrow x 9 2 n", "narrow x 1 2 n", "lead x n none", "lead x n 1 2 3 4 5", "beside a x n",
            "beside x a n", "put x 1/2/3/4/5 n none", "put x 1 n 1 2 3 4 5", "follows x 5", "follows x 1/2/3/4/5",
        ):
            self.refused(NoRiddle, line)

    def test_no_name_ahead_of_no_bit(self):
        for name, bit in itertools.product(range(10), repeat=2):
            line = f"narrow a {name} {bit} n"
            if name not in (1, 2, 3):
                self.refused(NoName, line)
            elif bit > 1:
                self.refused(NoBit, line)
            else:
                self.assertEqual(self.desk().say(line), "ok")

    def test_all_figures_of_a_crowd(self):
        desk, model = self.desk(), DeskByWords()
        for figures in itertools.product(range(10), repeat=3):
            line = "crowd {} {} {} n".format(*figures)
            told = heard(desk, line)
            self.assertEqual(told, heard(model, line))
            if told == "ok":
                self.assertEqual(desk.say("show n"), model.say("show n"))

    def test_barred_keeps_nothing(self):
        desk = filled((1, ((1,),)), (2, ()))
        self.assertEqual(desk.say("narrow a 1 0 n"), "barred")
        self.assertEqual(desk.say("narrow a 1 0 b"), "barred")
        self.assertEqual(desk.say("narrow a 1 0 a"), "barred")
        self.assertEqual(all_shown(desk), [("a", "1: 1"), ("b", "2:")])

    def test_lines_changed_at_any_place(self):
        rng = random.Random(92)
        lines = ("kept", "show a", "answers b", "firsts a", "likenesses c", "sizes a", "riddle d 3: -2/3 -1 1/2",
                 "narrow a 1 0 d", "lead a d 3 -1 2", "lead b b 2 1", "beside b b abcdefgh", "crowd 4 1 2 d",
                 "put b -1/2 d 2 1", "follows a -1/-2", "alike a c", "alike b b")
        outcomes = {}
        for line in lines:
            for changed in changed_texts(line, rng, 150) + [line.replace(" ", "")]:
                desk, model = self.desk(), DeskByWords()
                model.riddles.update(a=ONE_OF_THREE, b=(2, ((1, 2),)), c=EXAMPLE)
                told = heard(desk, changed)
                self.assertEqual(told, heard(model, changed), repr(changed))
                self.assertEqual(all_shown(desk), all_shown(model), repr(changed))
                outcomes[told] = outcomes.get(told, 0) + 1
        for outcome in ("ok", BadNote, NoRiddle, NoName, NoTurning, NoPutting, NoNumber, NoClause):
            self.assertGreater(outcomes.get(outcome, 0), 0, outcome)

    def test_a_refusal_amid_a_session_changes_nothing(self):
        rng = random.Random(93)
        pool = some_riddles(most=4, rounds=1)
        desk, model = Desk(), DeskByWords()
        refused = 0
        for _ in range(250):
            line = any_line(rng, model, pool)
            wrong = rng.choice(changed_texts(line, rng, 5) + odd_things()[:30])
            before = all_shown(desk)
            told = heard(desk, wrong)
            self.assertEqual(told, heard(model, wrong), repr(wrong))
            if type(told) is not str:
                refused += 1
                self.assertEqual(all_shown(desk), before)
            self.assertEqual(heard(desk, line), heard(model, line), line)
        self.assertGreater(refused, 100)
        self.assertEqual(all_shown(desk), all_shown(model))


if __name__ == "__main__":
    unittest.main()

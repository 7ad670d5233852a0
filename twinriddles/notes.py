"""Riddles, answers and turnings as texts, and such texts read."""

from twinriddles.errors import BadNote
from twinriddles.likenesses import all_signs
from twinriddles.riddles import MOST_NAMES, is_clause, is_riddle
from twinriddles.turnings import is_turning

NO_NAMES = "none"


def clause_text(clause):
    """A clause as it is written."""
    return "/".join([str(sign) for sign in clause])


def riddle_text(riddle):
    """A riddle as it is written."""
    names, clauses = riddle
    return " ".join([f"{names}:"] + [clause_text(clause) for clause in clauses])


def answer_text(answer):
    """An answer as it is written."""
    return "".join([str(bit) for bit in answer]) if answer else NO_NAMES


def turning_text(turning):
    """A turning as it is written."""
    return " ".join([str(sign) for sign in turning]) if turning else NO_NAMES


def check_text(thing):
    """Refuse what is no text."""
    if not isinstance(thing, str):
        raise BadNote("that is no text")


def number_read(word, numbers):
    """The one of these numbers that a word writes."""
    # Looked up among what is written, so that no other way to write a number is read.
    for number in numbers:
        if str(number) == word:
            return number
    raise BadNote("a number is not written as it should be")


def clause_read(names, text):
    """The clause of so many names that a text writes."""
    clause = tuple([number_read(word, all_signs(names)) for word in text.split("/")])
    if not is_clause(names, clause):
        raise BadNote("a clause is not written as it should be")
    return clause


def riddle_read(text):
    """The riddle that a text writes."""
    check_text(text)
    head, colon, rest = text.partition(":")
    names = number_read(head, list(range(MOST_NAMES + 1)))
    riddle = (names, tuple([clause_read(names, word) for word in rest.split(" ")[1:]]))
    # A missing colon, or what stands close behind it, was passed over till here.
    if not is_riddle(riddle) or riddle_text(riddle) != text:
        raise BadNote("a riddle is not written as it should be")
    return riddle


def turning_read(text):
    """The turning, of however many names, that a text writes."""
    check_text(text)
    if text == NO_NAMES:
        return ()
    turning = tuple([number_read(word, all_signs(MOST_NAMES)) for word in text.split(" ")])
    if not is_turning(len(turning), turning):
        raise BadNote("a turning is not written as it should be")
    return turning

"""Texts to try: a second, plain reading of what is written, and texts with one change."""

import re

from samples import CLAUSES, SETS, riddle_by_words

CLAUSE_PATTERN = "-?[1-9](?:/-?[1-9])*"


def written_clause(text):
    """The clause of names from 1 to 5 that a text writes, else None."""
    if not re.fullmatch(CLAUSE_PATTERN, text):
        return None
    clause = tuple(int(word) for word in text.split("/"))
    return clause if clause in CLAUSES[5] else None


def written_riddle(text):
    """The riddle that a text writes, else None."""
    if type(text) is not str or not re.fullmatch(f"[0-9]:(?: {CLAUSE_PATTERN})*", text):
        return None
    names, *words = text.split(" ")
    riddle = (int(names[0]), tuple(tuple(map(int, word.split("/"))) for word in words))
    return riddle if riddle_by_words(riddle) else None


def written_turning(text):
    """The turning that a text writes, else None."""
    if text == "none":
        return ()
    if type(text) is not str or not re.fullmatch("-?[1-9](?: -?[1-9])*", text):
        return None
    turning = tuple(int(word) for word in text.split(" "))
    return turning if len(turning) <= 5 and turning in SETS[len(turning)] else None


SIGNS_IN_TEXTS = "".join(chr(code) for code in range(32, 127) if chr(code) != "%")


def changed_texts(text, rng, many):
    """Texts that come of this one by one change: all of some kinds, so many by chance of the others."""
    words = text.split(" ")
    found = [text + " ", " " + text, text.replace(" ", "  "), text + "\n", text.upper(), text[::-1], text + text]
    for at, word in enumerate(words):
        found.append(" ".join(words[:at] + words[at + 1:]))
        found.append(" ".join(words[:at] + [word] + words[at:]))
        found.append(" ".join(words[:at] + [""] + words[at:]))
        found.append(" ".join(words[:at] + ["0" + word] + words[at + 1:]))
        for other in range(at):
            mixed = list(words)
            mixed[at], mixed[other] = mixed[other], mixed[at]
            found.append(" ".join(mixed))
        for new in ("0", "-0", "+1", "1", "-1", "5", "6", "-6", "00", "01", "none", "1/2", "2/1", "1/1", "1/-1", "/",
                    ""):
            found.append(" ".join(words[:at] + [new] + words[at + 1:]))
            found.append(" ".join(words[:at] + [word + "/" + new] + words[at + 1:]))
            found.append(" ".join(words[:at] + [word, new] + words[at + 1:]))
    for at in range(len(text)):
        found.append(text[:at] + text[at + 1:])
    for _ in range(many):
        at = rng.randrange(len(text) + 1)
        sign = rng.choice(SIGNS_IN_TEXTS + "0123456789:/- " * 4)
        found.append(text[:at] + sign + text[at:])
        found.append(text[:at] + sign + text[at + 1:])
    return found

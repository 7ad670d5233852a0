"""A desk: it keeps riddles by names, is told lines, and answers with texts."""

from twinriddles.alike import alike
from twinriddles.errors import BadNote, NoRiddle
from twinriddles.likenesses import kinds, likenesses
from twinriddles.makes import beside, crowd
from twinriddles.notes import answer_text, check_text, clause_read, number_read, riddle_read, riddle_text
from twinriddles.notes import turning_read, turning_text
from twinriddles.papers import follows
from twinriddles.putting import put_in
from twinriddles.riddles import MOST_NAMES, answers, narrowed
from twinriddles.turnings import led

LETTERS = "abcdefghijklmnopqrstuvwxyz"
MOST_LETTERS = 8

# What stands behind the first word of a line; the last part is all that follows.
FORMS = {
    "riddle": ("new name", "riddle"),
    "show": ("kept name",),
    "answers": ("kept name",),
    "firsts": ("kept name",),
    "likenesses": ("kept name",),
    "sizes": ("kept name",),
    "narrow": ("kept name", "figure", "figure", "new name"),
    "lead": ("kept name", "new name", "turning"),
    "beside": ("kept name", "kept name", "new name"),
    "crowd": ("figure", "figure", "figure", "new name"),
    "put": ("kept name", "clause", "new name", "turning"),
    "follows": ("kept name", "clause"),
    "alike": ("kept name", "kept name"),
}


def name_read(word):
    """The name that a word is."""
    if not 1 <= len(word) <= MOST_LETTERS or not all([letter in LETTERS for letter in word]):
        raise BadNote("a name is 1 to 8 small letters")
    return word


def part_read(form, part):
    """What a part of a line, of this form, writes."""
    if form == "riddle":
        return riddle_read(part)
    if form == "turning":
        return turning_read(part)
    if form == "clause":
        return clause_read(MOST_NAMES, part)
    if form == "figure":
        return number_read(part, list(range(10)))
    return name_read(part)


def line_read(line):
    """The first word of a line, and a list of pairs: the form of each part behind, and what it writes."""
    check_text(line)
    word = line.split(" ")[0]
    if word not in FORMS:
        raise BadNote("no line begins so")
    forms = FORMS[word]
    parts = line.split(" ", len(forms))[1:]
    if len(parts) != len(forms):
        raise BadNote("the line has too few words")
    return word, [(form, part_read(form, part)) for form, part in zip(forms, parts)]


def texts_or_none(texts):
    """Texts with blanks between, or that there is no answer."""
    return " ".join(texts) if texts else "no answer"


def made_riddle(given):
    """The riddle that was written."""
    return given[0]


def told_show(given):
    """The text of a riddle."""
    return riddle_text(given[0])


def told_answers(given):
    """The answers that keep a riddle."""
    return texts_or_none([answer_text(answer) for answer in answers(given[0])])


def told_firsts(given):
    """The firsts of a riddle's kinds."""
    return texts_or_none([answer_text(kind[0]) for kind in kinds(given[0])])


def told_likenesses(given):
    """How many likenesses a riddle has."""
    return str(len(likenesses(given[0])))


def told_sizes(given):
    """How many answers each of a riddle's kinds has."""
    return texts_or_none([str(len(kind)) for kind in kinds(given[0])])


def made_narrow(given):
    """A riddle narrowed, or None."""
    riddle, name, bit = given
    return narrowed(riddle, name, bit)


def made_lead(given):
    """The riddle to which a turning leads one."""
    riddle, turning = given
    return led(riddle, turning)


def made_beside(given):
    """Two riddles put beside."""
    one, other = given
    return beside(one, other)


def made_crowd(given):
    """A crowd."""
    names, least, most = given
    return crowd(names, least, most)


def made_put(given):
    """A riddle with a clause put in by a likeness."""
    riddle, clause, turning = given
    return put_in(riddle, ((clause, turning),))


def told_follows(given):
    """Whether a clause follows from a riddle."""
    riddle, clause = given
    return "yes" if follows(riddle, clause) else "no"


def told_alike(given):
    """The least turning that leads one riddle to another."""
    one, other = given
    turning = alike(one, other)
    return "never" if turning is None else turning_text(turning)


# Where a line has a new name its deed makes a riddle, or None, else a text.
DEEDS = {
    "riddle": made_riddle,
    "show": told_show,
    "answers": told_answers,
    "firsts": told_firsts,
    "likenesses": told_likenesses,
    "sizes": told_sizes,
    "narrow": made_narrow,
    "lead": made_lead,
    "beside": made_beside,
    "crowd": made_crowd,
    "put": made_put,
    "follows": told_follows,
    "alike": told_alike,
}


class Desk:
    """Keeps riddles by names, and answers the lines it is told."""

    def __init__(self):
        self.shelf = {}

    def say(self, line):
        """What the desk answers to a line."""
        # The one line of a single word, so it stands apart from the forms.
        if line == "kept":
            return " ".join(sorted(self.shelf))
        word, parts = line_read(line)
        given = [self.meant(form, thing) for form, thing in parts if form != "new name"]
        new_names = [thing for form, thing in parts if form == "new name"]
        deed = DEEDS[word]
        told = deed(given)
        if not new_names:
            return told
        return self.keep(new_names[0], told)

    def meant(self, form, thing):
        """What a part of a line means: the riddle that is kept where it is a name, else itself."""
        if form != "kept name":
            return thing
        if thing not in self.shelf:
            raise NoRiddle("nothing is kept by this name")
        return self.shelf[thing]

    def keep(self, name, riddle):
        """Keep a riddle, where there is one, by this name."""
        if riddle is None:
            return "barred"
        self.shelf[name] = riddle
        return "ok"

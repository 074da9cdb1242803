"""A console: lines of text for a desk, and its answers."""

from figureclaims.errors import BadAct, BadAsk, BadText, NothingDone, TooGreat, UnknownName
from figureclaims.forms import take_part, take_row, take_triple
from figureclaims.reading import Reader
from figureclaims.sheettexts import fractions_text

# How many names stand behind the words with which lines begin that are no SHEET, POINT or PART.
NAMES = {
    "drop": 1, "undo": 0, "redo": 0, "mark": 1, "since": 1,
    "answer": 1, "at": 2, "where": 2, "always": 0, "points": 0, "parts": 0,
}


class Console:
    """What reads lines for a desk."""

    def __init__(self, desk):
        self._desk = desk

    def answer(self, line):
        """Do or ask what a line tells, and return the answer."""
        try:
            word, *told = _asked(line)
        except BadText as bad:
            return f"no {bad.place}"
        if word == "act":
            return _done(self._desk, told[0])
        if word in ("undo", "redo"):
            return _taken_back(self._desk, word)
        if word == "mark":
            self._desk.mark(told[0])
            return "done"
        return _answered(self._desk, word, told)


def _asked(line):
    """What a line tells: a word and its names, or "act" and an act."""
    reader = Reader(line)
    word = reader.seen()
    if word == "sheet":
        asked = ("act", ("sheet", take_triple(reader)))
    elif word == "point":
        asked = ("act", ("point",) + take_row(reader))
    elif word in ("claim", "position"):
        asked = ("act", ("put", take_part(reader)))
    else:
        if word not in NAMES:
            reader.fail()
        reader.take(word)
        names = reader.take_names(NAMES[word])
        reader.take(";")
        asked = ("act", ("drop",) + names) if word == "drop" else (word,) + names
    reader.finish()
    return asked


def _done(desk, act):
    try:
        desk.do(act)
    except BadAct as bad:
        return f"no {bad.word}"
    return "done"


def _taken_back(desk, word):
    """The answer to undo, or to redo."""
    try:
        if word == "undo":
            desk.undo()
        else:
            desk.redo()
    except NothingDone:
        return "no nothing"
    return "done"


def _answered(desk, word, names):
    """The answer to a question with a word about some names."""
    try:
        return _told(desk, word, names)
    except BadAsk as bad:
        return f"no {bad.word}"
    except TooGreat:
        return "no great"
    except UnknownName:
        return "no mark"


def _told(desk, word, names):
    """What a desk tells of a question, as a text."""
    if word == "since":
        return str(desk.since(names[0]))
    if word == "answer":
        return _answer_text(desk.answer(names[0]))
    if word == "at":
        return "yes" if desk.holds_at(names[0], names[1]) else "no"
    if word == "where":
        return fractions_text(desk.where(names[0], names[1]))
    if word == "always":
        return " ".join(desk.always())
    _, rows, parts = desk.sheet()
    if word == "points":
        return " ".join([row[0] for row in rows])
    return " ".join([part[1] for part in parts])


def _answer_text(answer):
    if answer[0] == "never":
        return f"never {answer[1]}"
    if answer[0] == "not" and answer[1]:
        return f"not {fractions_text(answer[1])}"
    return answer[0]

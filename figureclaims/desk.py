"""A desk: a sheet that acts change, and questions about it."""

from figureclaims.acts import refusal, sheet_behind
from figureclaims.asking import claim_asked, names_that_hold, place_asked, whether_holds
from figureclaims.errors import BadAct, NothingDone, UnknownName
from figureclaims.settling import settle


class Desk:
    """A sheet, the acts that made it, and what the desk knows of answers to claims."""

    def __init__(self):
        # The sheets behind each number of acts that are done.
        self._sheets = [((), (), ())]
        self._done = []
        self._undone = []
        self._marks = {}
        self._known = {}

    def sheet(self):
        """The sheet."""
        return self._sheets[-1]

    def act_word(self, act):
        """The word with which an act, which may be anything, cannot be done now, or None."""
        return refusal(self.sheet(), act)

    def do(self, act):
        """Do an act, which may be anything; return how many acts are done then."""
        word = self.act_word(act)
        if word is not None:
            raise BadAct(word)
        self._undone.clear()
        return self._put(act)

    def undo(self):
        """Take the last act back; return how many acts are done then."""
        if not self._done:
            raise NothingDone()
        self._undone.append(self._done.pop())
        self._sheets.pop()
        return len(self._done)

    def redo(self):
        """Do the act again that was taken back last; return how many acts are done then."""
        if not self._undone:
            raise NothingDone()
        return self._put(self._undone.pop())

    def acts(self):
        """The list of the acts that are done."""
        return list(self._done)

    def answer(self, claim):
        """A right answer to the claim with a name, which may be anything."""
        asked = claim_asked(self.sheet(), claim)
        if asked not in self._known:
            figure, numbers = asked
            self._known[asked] = settle(figure, numbers)
        return self._known[asked]

    def holds_at(self, claim, position):
        """Whether the claim with a name holds at the position with a name."""
        return whether_holds(self.sheet(), claim, position)

    def where(self, point, position):
        """Where the point with a name lies at the position with a name."""
        return place_asked(self.sheet(), point, position)

    def always(self):
        """The list of the names of the claims that always hold."""
        return names_that_hold(self.sheet())

    def work(self):
        """How many unlike pairs of a figure and a claim the desk was asked the answer of."""
        return len(self._known)

    def mark(self, name):
        """Set a mark with a name."""
        self._marks[name] = len(self._done)

    def since(self, name):
        """How many acts more are done than at the mark with a name, which may be anything."""
        if not isinstance(name, str) or name not in self._marks:
            raise UnknownName(name)
        return len(self._done) - self._marks[name]

    def marks(self):
        """The ascending list of the names of the marks."""
        return sorted(self._marks)

    def twin(self):
        """A desk that is as this one is now, and goes its own way from then on."""
        other = Desk()
        other._sheets = list(self._sheets)
        other._done = list(self._done)
        other._undone = list(self._undone)
        other._marks = dict(self._marks)
        other._known = {asked: self._known[asked] for asked in self._known}
        return other

    def _put(self, act):
        """Put an act behind those that are done; return how many there are then."""
        self._sheets.append(sheet_behind(self.sheet(), act))
        self._done.append(act)
        return len(self._done)

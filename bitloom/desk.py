"""A desk at which designs are put and changed, and what is made of them is asked."""

from bitloom.acts import Standing, word_against
from bitloom.chain import values_told
from bitloom.errors import BadAct, NothingDone, NotReady
from bitloom.machine import read_back
from bitloom.stages import Asking


class Desk:
    """Modules, a top, steps and a fabric, the acts that led to them, and what was made of them last."""

    def __init__(self):
        self.ahead = [Standing({}, None, (), None)]
        self.acts_told = []
        self.undone = 0
        self.kept = {}
        self.work_told = ()

    def _standing(self):
        """What stands at the desk."""
        return self.ahead[self._many_done()]

    def _many_done(self):
        """How many acts are done."""
        return len(self.acts_told) - self.undone

    def modules(self):
        """The dict of its modules."""
        return dict(self._standing().by_name)

    def top(self):
        """Its top, a pair (name, numbers), or None."""
        return self._standing().top_told

    def steps(self):
        """Its steps."""
        return self._standing().steps_told

    def fabric(self):
        """Its fabric, or None."""
        return self._standing().fabric_told

    def design(self):
        """Its design."""
        return self._standing().design_told()

    def act_word(self, act):
        """The word with which an act, which may be anything, cannot be done, or None."""
        return word_against(self._standing(), act)

    def do(self, act):
        """Do an act; return how many are done then, or raise BadAct with the word."""
        word = self.act_word(act)
        if word is not None:
            raise BadAct(word)
        many = self._many_done()
        self.ahead = self.ahead[:many + 1] + [self._standing().after(act)]
        self.acts_told = self.acts_told[:many] + [act]
        self.undone = 0
        return self._many_done()

    def undo(self):
        """Take the last act back; return how many are done then, or raise NothingDone."""
        if self._many_done() == 0:
            raise NothingDone()
        self.undone += 1
        return self._many_done()

    def redo(self):
        """Do the act again that was taken back last; return how many are done then, or raise NothingDone."""
        if self.undone == 0:
            raise NothingDone()
        self.undone -= 1
        return self._many_done()

    def acts(self):
        """The list of the acts done."""
        return self.acts_told[:self._many_done()]

    def _keep(self, asking):
        """Keep what an asking made, and its work."""
        self.kept = asking.kept
        self.work_told = tuple(asking.done_anew)

    def _asked(self, last):
        """A dict from the stages up to a last one to what they make; raise NotReady if there is a fault by then."""
        asking = Asking(self._standing(), self.kept, last)
        if asking.trouble is not None:
            raise NotReady(asking.trouble)
        self._keep(asking)
        return asking.results

    def fault(self):
        """The fault, a tuple, or None."""
        asking = Asking(self._standing(), self.kept, "bits")
        self._keep(asking)
        return asking.trouble

    def flat(self):
        """The flat design."""
        return self._asked("flat")["flat"]

    def graph(self):
        """The graph that the steps left."""
        return self._asked("steps")["steps"][0]

    def shift(self):
        """The shift."""
        return self._asked("steps")["steps"][1]

    def net(self):
        """The table net."""
        return self._asked("net")["net"]

    def cells(self):
        """The cell net."""
        return self._asked("cells")["cells"]

    def laid(self):
        """What is laid."""
        return self._asked("laid")["laid"]

    def bits(self):
        """The bits."""
        return self._asked("bits")["bits"]

    def work(self):
        """The tuple of the stages that the last asking did anew."""
        return self.work_told

    def machine(self):
        """A new machine, read back from the bits."""
        return read_back(self.bits())

    def outputs(self, lots):
        """The list of the lots of values of the outs, for a list of lots of values of the ins."""
        told = self._asked("bits")
        return values_told(told["flat"], told["bits"], lots)

    def twin(self):
        """A desk that stands as this one, and goes its own way."""
        other = Desk()
        other.ahead = list(self.ahead)
        other.acts_told = list(self.acts_told)
        other.undone = self.undone
        other.kept = dict(self.kept)
        other.work_told = self.work_told
        return other

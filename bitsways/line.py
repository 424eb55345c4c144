"""The one object that a line of calls speaks to."""

from bitsways.asking import ASKING
from bitsways.making import MAKING
from bitsways.refusals import NoSuchBit, NotBegun, NotRight
from bitsways.words import no_to_all

MOST_BITS = 5


class Line:
    def __init__(self):
        # An answer's list is never empty, so an empty one stands for nothing begun.
        self.says = []

    def reply(self, name, given):
        try:
            return self.obey(name, given)
        except NoSuchBit:
            return [-2]
        except NotBegun:
            return [-11]
        except NotRight:
            return [-22]

    def obey(self, name, given):
        if name == "begin":
            return self.begin(given[0])
        if len(self.says) == 0:
            raise NotBegun()
        if name in MAKING:
            self.says = MAKING[name](self.says, given)
            return [sum(self.says)]
        return ASKING[name](self.says, given)

    def begin(self, bits):
        if bits < 1 or bits > MOST_BITS:
            raise NotRight()
        self.says = no_to_all(bits)
        return [0]

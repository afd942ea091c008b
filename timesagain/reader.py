"""Reads by meaning how many steps a writing does, for a choice which of the numbers are nought."""

from timesagain.layouts import OF, TO
from timesagain.spots import Function, Handing, Held, Keeping, Nought, Number, OneStep, Steps


class Reader:
    """Reads a closed writing with these codes, the other part of each "to" beginning where others tells."""

    def __init__(self, codes, others, choice):
        self.codes = codes
        self.others = others
        self.choice = choice
        self.spots = 0
        # What waits for the meaning that is being taken, the last one first.
        self.waiting = []
        # Either a meaning was taken, or a part is to be looked at, with what the names around it stand for.
        self.meaning = None
        self.start = 0
        self.around = None

    def read_whole(self):
        """The shares of what the writing reckons."""
        zero = Steps({}, self.new_spot())
        self.wait(Handing(Held(None, None, zero)))
        self.wait(Handing(Held(None, None, OneStep({(0,) * len(self.choice): 1}))))
        for place, sign in reversed(list(enumerate(self.choice))):
            self.wait(Handing(Held(None, None, Number(place) if sign == 1 else Nought())))
        while self.waiting or self.meaning is None:
            if self.meaning is None:
                self.look()
            else:
                meaning = self.meaning
                self.meaning = None
                self.waiting.pop().take(self, meaning)
        return self.meaning.shares

    def new_spot(self):
        """A spot that nothing else has."""
        self.spots += 1
        return self.spots

    def wait(self, one):
        """Lets one more wait for the meaning that is taken next."""
        self.waiting.append(one)

    def bring(self, meaning):
        """Brings a meaning to what waits for it."""
        self.meaning = meaning

    def look_at(self, start, around):
        """Goes on to the part that begins here."""
        self.start = start
        self.around = around

    def want(self, held):
        """Goes on to the meaning of what is held."""
        if held.meaning is not None:
            self.bring(held.meaning)
        else:
            self.wait(Keeping(held))
            self.look_at(held.start, held.around)

    def look(self):
        """Looks at one sign."""
        code = self.codes[self.start]
        if code == OF:
            self.bring(Function(self.start + 1, self.around))
        elif code == TO:
            self.wait(Handing(self.held_at(self.others[self.start])))
            self.start += 1
        else:
            self.want(self.named_by(code))

    def named_by(self, code):
        """What the name with this code stands for."""
        around = self.around
        for _ in range(code):
            around = around[1]
        return around[0]

    def held_at(self, start):
        """The part that begins here, as it is handed on."""
        code = self.codes[start]
        # What a name stands for is held already.
        return Held(start, self.around, None) if code in (OF, TO) else self.named_by(code)


def read_shares(codes, others, choice):
    """The shares of what the writing reckons for this choice."""
    return Reader(codes, others, choice).read_whole()

"""What a writing means: how many steps from which spot.

A meaning is Steps, or something that can be handed on to: a Function, a OneStep, a Number, a Nought, an Idle, an
Again. Of these hand(reader, other), other being a Held, goes on to what comes of it. A meaning is taken only when it
is wanted, by a reader that keeps in a list what waits for it: so no function calls itself for each layer.
"""

from timesagain.errors import TooMany
from timesagain.polynomials import GREATEST_POWER
from timesagain.terms import sum_of


class Held:
    """What is handed on: where it begins, what the names around it stand for, and its meaning once it was wanted."""

    def __init__(self, start, around, meaning):
        self.start = start
        self.around = around
        self.meaning = meaning
        # What doing it once, from a spot of its own, comes to, if that was asked: it is the same for all numbers.
        self.once = None
        self.spot = None


class Steps:
    """So many steps from a spot; how many is a polynomial, told by its shares."""

    def __init__(self, shares, spot):
        self.shares = shares
        self.spot = spot


class Function:
    """A function: where its body begins, and what the names around it stand for."""

    def __init__(self, body, around):
        self.body = body
        self.around = around

    def hand(self, reader, other):
        reader.look_at(self.body, (other, self.around))


class OneStep:
    """One step more than what it is handed."""

    def __init__(self, one):
        self.one = one

    def hand(self, reader, other):
        reader.wait(Adding(self.one))
        reader.want(other)


class Number:
    """A number above nought that was handed in."""

    def __init__(self, place):
        self.place = place

    def hand(self, reader, other):
        reader.bring(Again(self.place, other))


class Nought:
    """A number that was handed in and is nought: whatever it does, it leaves what it is handed."""

    def hand(self, reader, other):
        reader.bring(Idle())


class Idle:
    """What comes to just what it is handed."""

    def hand(self, reader, other):
        reader.want(other)


class Again:
    """A number above nought that was handed what is to be done so often."""

    def __init__(self, place, done):
        self.place = place
        self.done = done

    def hand(self, reader, other):
        done = self.done
        if done.once is None:
            done.spot = reader.new_spot()
            reader.wait(Doing(self, other))
            reader.wait(Handing(Held(None, None, Steps({}, done.spot))))
            reader.want(done)
        elif done.once.spot == done.spot:
            reader.wait(Adding(times_letter(done.once.shares, self.place)))
            reader.want(other)
        else:
            # The last time wipes out all that is ahead: that is not even wanted.
            reader.bring(done.once)


class Handing:
    """Waits for what is to be handed the other."""

    def __init__(self, other):
        self.other = other

    def take(self, reader, meaning):
        meaning.hand(reader, self.other)


class Keeping:
    """Waits for the meaning of what is held, so that it is taken once only."""

    def __init__(self, held):
        self.held = held

    def take(self, reader, meaning):
        self.held.meaning = meaning
        reader.bring(meaning)


class Adding:
    """Waits for steps, to add to them."""

    def __init__(self, shares):
        self.shares = shares

    def take(self, reader, meaning):
        reader.bring(Steps(sum_of(meaning.shares, self.shares), meaning.spot))


class Doing:
    """Waits for what doing something once comes to; then hands the other on to what does it again."""

    def __init__(self, again, other):
        self.again = again
        self.other = other

    def take(self, reader, meaning):
        self.again.done.once = meaning
        self.again.hand(reader, self.other)


def times_letter(shares, place):
    """The shares multiplied by the letter at this place."""
    found = {}
    for powers, share in shares.items():
        # Whatever is read is a part of what the whole comes to, and nothing in it goes away again.
        if powers[place] == GREATEST_POWER:
            raise TooMany("power", GREATEST_POWER)
        found[powers[:place] + (powers[place] + 1,) + powers[place + 1:]] = share
    return found

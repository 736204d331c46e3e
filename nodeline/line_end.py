"""One end of a line: what it keeps, and what each call does to it.

A call gives back its number and the list of things told; a thing told is a
list of numbers that begins with what it is.
"""

from nodeline.message import PIECE, is_piece_length, read_message, write_beat, write_piece

DONE = 0
WRONG_NUMBERS = -22
NOT_UP = -11
TOO_MANY = -28
NOT_RIGHT = -71

TOLD_SENT = 0
TOLD_UP = 1
TOLD_GOT = 2
TOLD_DOWN = 3

# A right message's life and session are never 0, so this is older than all.
NOTHING = (0, 0)

HIGHEST_NAME = 255
MOST_WAITING = 32
SENT_AGAIN = 4
QUIET_TICKS = 16


def told_sent(message):
    return [TOLD_SENT, len(message)] + message


def told_got(piece):
    return [TOLD_GOT, len(piece)] + piece


class LineEnd:

    def __init__(self):
        self.me = 0
        self.other = 0
        self.life = 0
        self.session = 0
        self.known = NOTHING
        self.begin(False)

    def begin(self, up):
        """Being up and not being up both begin with nothing sent and nothing got."""
        self.up = up
        self.sent = 0
        self.waiting = []
        self.got = 0
        self.quiet = 0

    def start(self, me, other, life):
        if me > HIGHEST_NAME or other > HIGHEST_NAME or me == other or life == 0:
            return (WRONG_NUMBERS, [])
        self.me = me
        self.other = other
        self.life = life
        self.session = 1
        self.known = NOTHING
        self.begin(False)
        return (DONE, [])

    def send(self, piece):
        if not is_piece_length(len(piece)):
            return (WRONG_NUMBERS, [])
        if not self.up:
            return (NOT_UP, [])
        if len(self.waiting) == MOST_WAITING:
            return (TOO_MANY, [self.cut()])
        self.sent += 1
        self.waiting.append(piece)
        return (DONE, [self.piece_thing(self.sent, piece)])

    def heard(self, numbers):
        message = read_message(numbers, self.other, self.me)
        if message is None:
            return (NOT_RIGHT, [])
        if message.own < self.known:
            return (DONE, [])
        told = []
        if message.own > self.known:
            if self.up:
                told.append(self.cut())
            self.known = message.own
        if message.known == self.own_pair():
            told.extend(self.take(message))
        return (DONE, told)

    def tick(self):
        if not self.up:
            return (DONE, [self.beat_thing()])
        self.quiet += 1
        if self.quiet == QUIET_TICKS:
            return (DONE, [self.cut()])
        if len(self.waiting) == 0:
            return (DONE, [self.beat_thing()])
        first = self.acknowledged() + 1
        again = self.waiting[:SENT_AGAIN]
        return (DONE, [self.piece_thing(first + k, piece) for k, piece in enumerate(again)])

    def state(self):
        return [1 if self.up else 0, self.session, len(self.waiting), self.known[0]]

    def take(self, message):
        """What a message does that knows this very session of this end."""
        told = []
        if not self.up:
            self.begin(True)
            told.append([TOLD_UP, self.known[0]])
        self.quiet = 0
        self.acknowledge(message.got)
        if message.kind == PIECE:
            if message.number == self.got + 1:
                self.got += 1
                told.append(told_got(message.piece))
            told.append(self.beat_thing())
        return told

    def acknowledge(self, got):
        # A late message may tell less than is known already.
        if self.acknowledged() < got <= self.sent:
            self.waiting = self.waiting[got - self.acknowledged():]

    def acknowledged(self):
        return self.sent - len(self.waiting)

    def cut(self):
        self.session += 1
        self.begin(False)
        return [TOLD_DOWN]

    def own_pair(self):
        return (self.life, self.session)

    def beat_thing(self):
        return told_sent(write_beat(self.me, self.other, self.own_pair(), self.known, self.got))

    def piece_thing(self, number, piece):
        # Written anew each time: how many pieces are got may have grown since it was first sent.
        return told_sent(write_piece(self.me, self.other, self.own_pair(), self.known, self.got, number, piece))

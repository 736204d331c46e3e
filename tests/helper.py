"""What the tests share: calls, messages written on their own, answers taken apart."""

from nodeline.end import answers

ME = 1
OTHER = 2
LIFE = 7
OTHER_LIFE = 9

TOP = 2 ** 32 - 1

TICK = [3]
STATE = [4]

UP = ("up", OTHER_LIFE)
DOWN = ("down",)


def start(me=ME, other=OTHER, life=LIFE):
    return [0, me, other, life]


def send(piece):
    return [1, len(piece)] + list(piece)


def heard(message):
    return [2, len(message)] + list(message)


def crc(numbers):
    """CRC-32C step by step, as the document's words tell it."""
    value = 0xFFFFFFFF
    for number in numbers:
        value ^= number
        for bit in range(8):
            value = (value >> 1) ^ (0x82F63B78 if value & 1 else 0)
    return value ^ 0xFFFFFFFF


def four(number):
    return list(number.to_bytes(4, "little"))


def checked(numbers):
    return numbers + four(crc(numbers))


def head(kind, sender, receiver, own, known, got, fourth=0):
    numbers = [kind, sender, receiver, fourth]
    for number in own + known + (got,):
        numbers += four(number)
    return numbers


def beat_from(own=(OTHER_LIFE, 1), known=(LIFE, 1), got=0, sender=OTHER, receiver=ME):
    """A beat of the other's."""
    return checked(head(1, sender, receiver, own, known, got))


def piece_from(number, piece, own=(OTHER_LIFE, 1), known=(LIFE, 1), got=0, sender=OTHER, receiver=ME):
    """A piece of the other's."""
    return checked(head(2, sender, receiver, own, known, got) + four(number) + list(piece))


def my_beat(session=1, known=(OTHER_LIFE, 1), got=0, life=LIFE):
    """That this end's beat is sent."""
    return ("sent", checked(head(1, ME, OTHER, (life, session), known, got)))


def my_piece(number, piece, session=1, known=(OTHER_LIFE, 1), got=0, life=LIFE):
    """That this end's piece is sent."""
    return ("sent", checked(head(2, ME, OTHER, (life, session), known, got) + four(number) + list(piece)))


def got(piece):
    return ("got", list(piece))


def take_things(answer, count, at):
    things = []
    for thing in range(count):
        what = answer[at]
        if what == 0 or what == 2:
            length = answer[at + 1]
            row = answer[at + 2:at + 2 + length]
            assert len(row) == length
            things.append(("sent" if what == 0 else "got", row))
            at += 2 + length
        elif what == 1:
            things.append(("up", answer[at + 1]))
            at += 2
        else:
            assert what == 3
            things.append(("down",))
            at += 1
    return things, at


def taken_apart(answer):
    """(number, things told) and, if more is answered, that behind it."""
    things, at = take_things(answer, answer[1], 2)
    if at == len(answer):
        return (answer[0], things)
    return (answer[0], things, answer[at:])


def split(given):
    rows = []
    at = 0
    while at < len(given):
        rows.append(given[at + 1:at + 1 + given[at]])
        assert len(rows[-1]) == given[at]
        at += 1 + given[at]
    return rows


def joined(calls):
    return [number for call in calls for number in call]


def run(*calls):
    """What each of these calls answers, taken apart."""
    return [taken_apart(row) for row in split(answers(joined(calls)))]


def last(*calls):
    return run(*calls)[-1]


def state(*calls):
    """What state answers behind these calls."""
    answer = last(*calls, STATE)
    assert answer[:2] == (0, [])
    return answer[2]


# This end is up with the other's first session.
BEGUN_UP = (start(), heard(beat_from()))

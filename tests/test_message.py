"""The form of a message: what is right, what isn't, and the check."""

import unittest

from helper import (BEGUN_UP, DOWN, LIFE, ME, OTHER, OTHER_LIFE, STATE, TICK, TOP, UP, beat_from, checked, crc, four,
                    got, head, heard, last, my_beat, piece_from, run, start, state)
from nodeline.check import check_of

OWN = (OTHER_LIFE, 1)
KNOWN = (LIFE, 1)


def wrong_messages():
    beat = beat_from()
    piece = piece_from(1, [1, 2, 3])
    yield "nothing", []
    for length in range(1, len(beat)):
        yield f"the first {length} of a beat", beat[:length]
    for length in range(24):
        yield f"the first {length} of a beat and a right check", checked(beat[:length])
    for length in range(len(piece)):
        yield f"the first {length} of a piece", piece[:length]
    yield "a beat and one more", beat + [0]
    yield "a beat with one more ahead of its check", checked(beat[:-4] + [0])
    yield "a beat as long as a piece", checked(head(1, OTHER, ME, OWN, KNOWN, 0) + four(1) + [5])
    yield "a piece as short as a beat", checked(head(2, OTHER, ME, OWN, KNOWN, 0))
    for extra in (1, 2, 3):
        yield "a piece without its whole number", checked(head(2, OTHER, ME, OWN, KNOWN, 0) + [0] * extra)
    yield "a piece of 0 bytes", piece_from(1, [])
    for length in (201, 202, 500, 968):
        yield f"a piece of {length} bytes", piece_from(1, [0] * length)
    yield "a piece and one more", piece + [0]
    for kind in (0, 3, 4, 129, 130, 255):
        yield f"kind {kind}", checked(head(kind, OTHER, ME, OWN, KNOWN, 0))
        yield f"kind {kind}, long", checked(head(kind, OTHER, ME, OWN, KNOWN, 0) + four(1) + [5])
    for fourth in (1, 128, 255):
        yield f"fourth byte {fourth}", checked(head(1, OTHER, ME, OWN, KNOWN, 0, fourth))
        yield f"fourth byte {fourth}, a piece", checked(head(2, OTHER, ME, OWN, KNOWN, 0, fourth) + four(1) + [5])
    yield "life 0", beat_from(own=(0, 1))
    yield "session 0", beat_from(own=(OTHER_LIFE, 0))
    yield "life and session 0", beat_from(own=(0, 0))
    yield "life 0, a piece", piece_from(1, [5], own=(0, 5))
    yield "session 0, a piece", piece_from(1, [5], own=(OTHER_LIFE + 1, 0))
    for name in (0, ME, 3, 255):
        yield f"from {name}", beat_from(sender=name)
    for name in (0, OTHER, 3, 255):
        yield f"for {name}", beat_from(receiver=name)
    yield "from this end, for the other", beat_from(sender=ME, receiver=OTHER)
    yield "its check turned about in order", beat[:-4] + beat[:-5:-1]
    for bit in range(8 * len(piece)):
        changed = list(piece)
        changed[bit // 8] ^= 1 << (bit % 8)
        yield f"bit {bit} turned", changed
    for at in range(len(beat) - 4, len(beat)):
        changed = list(beat)
        changed[at] = (changed[at] + 1) % 256
        yield f"check byte {at} wrong", changed


class Check(unittest.TestCase):

    def test_known_values(self):
        self.assertEqual(check_of([]), 0)
        self.assertEqual(check_of(list(b"123456789")), 0xE3069283)
        self.assertEqual(check_of([0] * 32), 0x8A9136AA)
        self.assertEqual(check_of([255] * 32), 0x62A8AB43)
        self.assertEqual(check_of(list(range(32))), 0x46DD794E)
        self.assertEqual(check_of(list(range(31, -1, -1))), 0x113FDB5C)

    def test_each_byte_as_step_by_step(self):
        for number in range(256):
            self.assertEqual(check_of([number]), crc([number]))
            self.assertEqual(check_of([170, number, 3]), crc([170, number, 3]))


class Right(unittest.TestCase):

    def test_wrong_messages_do_nothing(self):
        for name, message in wrong_messages():
            with self.subTest(name):
                self.assertEqual(run(start(), heard(message), STATE), [(0, []), (-71, []), (0, [], [0, 1, 0, 0])])

    def test_wrong_messages_do_nothing_while_it_is_up(self):
        for name, message in wrong_messages():
            with self.subTest(name):
                answer = run(*BEGUN_UP, heard(message), STATE, TICK)[2:]
                self.assertEqual(answer, [(-71, []), (0, [], [1, 1, 0, OTHER_LIFE]), (0, [my_beat()])])

    def test_a_wrong_message_does_not_end_the_quiet(self):
        calls = BEGUN_UP + (TICK,) * 15 + (heard(beat_from()[:-1]), TICK)
        self.assertEqual(last(*calls), (0, [DOWN]))

    def test_a_piece_of_1_and_of_200_bytes(self):
        for piece in ([0], [255] * 200, list(range(200))):
            self.assertEqual(last(start(), heard(piece_from(1, piece))), (0, [UP, got(piece), my_beat(got=1)]))

    def test_all_it_holds_may_be_greatest(self):
        message = beat_from(own=(TOP, TOP), known=(TOP, TOP), got=TOP)
        self.assertEqual(last(start(), heard(message)), (0, []))
        self.assertEqual(state(start(), heard(message)), [0, 1, 0, TOP])

    def test_what_it_knows_may_be_0(self):
        for known in ((0, 0), (0, 1), (LIFE, 0)):
            self.assertEqual(run(start(), heard(beat_from(known=known)), STATE)[1:],
                             [(0, []), (0, [], [0, 1, 0, OTHER_LIFE])])

    def test_names_at_the_edges(self):
        message = beat_from(sender=0, receiver=255)
        self.assertEqual(last(start(255, 0), heard(message)), (0, [UP]))


class Written(unittest.TestCase):

    def test_a_beat_number_by_number(self):
        beat = last(start(1, 2, 0x01020304), TICK)[1][0][1]
        self.assertEqual(beat[:24], [1, 1, 2, 0, 4, 3, 2, 1, 1, 0, 0, 0] + [0] * 12)
        self.assertEqual(len(beat), 28)
        self.assertEqual(beat[24:], four(crc(beat[:24])))

    def test_a_beat_that_knows(self):
        message = beat_from(own=(0xA1B2C3D4, 0x05060708), known=(1, 1))
        beat = last(start(), heard(message), TICK)[1][0][1]
        self.assertEqual(beat[12:24], [0xD4, 0xC3, 0xB2, 0xA1, 8, 7, 6, 5, 0, 0, 0, 0])

    def test_a_beat_tells_0_got_when_it_is_not_up(self):
        calls = BEGUN_UP + (heard(piece_from(1, [5])), heard(beat_from(own=(OTHER_LIFE, 2))), TICK)
        self.assertEqual(last(*calls), (0, [my_beat(session=2, known=(OTHER_LIFE, 2), got=0)]))


if __name__ == "__main__":
    unittest.main()

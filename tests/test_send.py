"""Point 2: send."""

import unittest

from helper import (BEGUN_UP, DOWN, OTHER_LIFE, TICK, UP, beat_from, heard, last, my_beat, my_piece, piece_from, run,
                    send, split, start, state)
from nodeline.end import answers


def sends(count):
    return tuple(send([number]) for number in range(1, count + 1))


class Send(unittest.TestCase):

    def test_the_piece_is_sent_and_not_acknowledged(self):
        calls = BEGUN_UP + (send([10, 20, 30]),)
        self.assertEqual(last(*calls), (0, [my_piece(1, [10, 20, 30])]))
        self.assertEqual(state(*calls), [1, 1, 1, OTHER_LIFE])

    def test_pieces_are_numbered_from_1_on(self):
        self.assertEqual(run(*BEGUN_UP, *sends(3))[2:],
                         [(0, [my_piece(number, [number])]) for number in (1, 2, 3)])

    def test_numbers_go_on_behind_an_acknowledgement(self):
        calls = BEGUN_UP + sends(2) + (heard(beat_from(got=2)), send([7]))
        self.assertEqual(last(*calls), (0, [my_piece(3, [7])]))

    def test_it_tells_how_many_are_got(self):
        calls = BEGUN_UP + (heard(piece_from(1, [4])), heard(piece_from(2, [5])), send([6]))
        self.assertEqual(last(*calls), (0, [my_piece(1, [6], got=2)]))

    def test_length(self):
        for length in (1, 2, 199, 200):
            self.assertEqual(last(*BEGUN_UP, send([0] * length)), (0, [my_piece(1, [0] * length)]))
        for length in (0, 201, 232, 256, 1000):
            self.assertEqual(last(*BEGUN_UP, send([0] * length)), (-22, []))
            self.assertEqual(state(*BEGUN_UP, send([0] * length)), [1, 1, 0, OTHER_LIFE])

    def test_not_up(self):
        self.assertEqual(run(start(), send([1])), [(0, []), (-11, [])])
        self.assertEqual(state(start(), send([1])), [0, 1, 0, 0])

    def test_what_is_known_does_not_make_it_up(self):
        self.assertEqual(last(start(), heard(beat_from(known=(0, 0))), send([1])), (-11, []))

    def test_not_up_behind_a_cut(self):
        calls = BEGUN_UP + (heard(beat_from(own=(OTHER_LIFE, 2))), send([1]))
        self.assertEqual(last(*calls), (-11, []))

    def test_a_piece_that_was_refused_is_not_sent_later(self):
        self.assertEqual(run(start(), send([1]), heard(beat_from()), TICK)[2:],
                         [(0, [UP]), (0, [my_beat()])])

    def test_the_32nd_is_sent_and_the_33rd_cuts(self):
        calls = BEGUN_UP + sends(32)
        self.assertEqual(last(*calls), (0, [my_piece(32, [32])]))
        self.assertEqual(state(*calls), [1, 1, 32, OTHER_LIFE])
        calls = calls + (send([33]),)
        self.assertEqual(last(*calls), (-28, [DOWN]))
        self.assertEqual(split(answers([n for call in calls for n in call]))[-1], [-28, 1, 3])
        self.assertEqual(state(*calls), [0, 2, 0, OTHER_LIFE])
        self.assertEqual(last(*calls, TICK), (0, [my_beat(session=2)]))
        self.assertEqual(last(*calls, send([34])), (-11, []))

    def test_one_acknowledged_makes_room_for_one(self):
        calls = BEGUN_UP + sends(32) + (heard(beat_from(got=1)), send([33]))
        self.assertEqual(last(*calls), (0, [my_piece(33, [33])]))
        self.assertEqual(state(*calls), [1, 1, 32, OTHER_LIFE])
        self.assertEqual(last(*calls, send([34])), (-28, [DOWN]))

    def test_after_the_cut_it_begins_with_number_1(self):
        calls = BEGUN_UP + sends(33) + (heard(beat_from(known=(7, 2))), send([9]))
        self.assertEqual(run(*calls)[-2:], [(0, [UP]), (0, [my_piece(1, [9], session=2)])])

    def test_order_of_refusals(self):
        for wrong in ([], [0] * 201):
            self.assertEqual(last(start(), send(wrong)), (-22, []))
            full = BEGUN_UP + sends(32) + (send(wrong),)
            self.assertEqual(last(*full), (-22, []))
            self.assertEqual(state(*full), [1, 1, 32, OTHER_LIFE])
        self.assertEqual(last(*BEGUN_UP, *sends(34)), (-11, []))


if __name__ == "__main__":
    unittest.main()

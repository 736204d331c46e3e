"""Point 1: start."""

import unittest

from helper import (BEGUN_UP, DOWN, LIFE, OTHER_LIFE, STATE, TICK, TOP, beat_from, heard, last, my_beat, run, send,
                    split, start, state)
from nodeline.end import answers


class Start(unittest.TestCase):

    def test_begins_with_session_1_knowing_nothing(self):
        self.assertEqual(run(start(), STATE), [(0, []), (0, [], [0, 1, 0, 0])])

    def test_the_numbers_as_they_stand(self):
        self.assertEqual(answers([0, 1, 2, 7]), [2, 0, 0])
        self.assertEqual(answers([0, 1, 1, 7]), [2, -22, 0])
        self.assertEqual(answers([0, 1, 2, 7, 4]), [2, 0, 0, 6, 0, 0, 0, 1, 0, 0])

    def test_refusals(self):
        for me, other, life in ((256, 2, 7), (1, 256, 7), (TOP, 2, 7), (1, TOP, 7), (1, 1, 7), (0, 0, 7),
                                (1, 2, 0), (256, 256, 0), (257, 1, 7), (1, 258, 7)):
            with self.subTest(me=me, other=other, life=life):
                self.assertEqual(last(start(me, other, life)), (-22, []))

    def test_edges_that_are_right(self):
        for me, other, life in ((0, 255, 1), (255, 0, TOP), (254, 255, 1)):
            with self.subTest(me=me, other=other, life=life):
                self.assertEqual(run(start(me, other, life), STATE), [(0, []), (0, [], [0, 1, 0, 0])])

    def test_after_refusals_one_is_answered_0(self):
        self.assertEqual(run(start(1, 1, 7), start(1, 2, 0), start(), TICK),
                         [(-22, []), (-22, []), (0, []), (0, [my_beat(known=(0, 0))])])

    def test_again_begins_anew_and_tells_nothing(self):
        calls = BEGUN_UP + (send([5]), start(life=LIFE + 1))
        self.assertEqual(last(*calls), (0, []))
        self.assertEqual(state(*calls), [0, 1, 0, 0])
        self.assertEqual(last(*calls, TICK), (0, [my_beat(life=LIFE + 1, known=(0, 0))]))

    def test_again_takes_the_session_back_to_1(self):
        calls = BEGUN_UP + (heard(beat_from(own=(OTHER_LIFE, 2))),)
        self.assertEqual(last(*calls), (0, [DOWN]))
        self.assertEqual(state(*calls), [0, 2, 0, OTHER_LIFE])
        self.assertEqual(state(*calls, start(life=LIFE + 1)), [0, 1, 0, 0])

    def test_again_with_other_names(self):
        message = split(answers(start() + start(3, 4, 5) + TICK))[-1][4:]
        self.assertEqual(message[:12], [1, 3, 4, 0, 5, 0, 0, 0, 1, 0, 0, 0])

    def test_again_with_the_same_or_a_smaller_life(self):
        for life in (LIFE, LIFE - 1):
            self.assertEqual(state(*BEGUN_UP, start(life=life)), [0, 1, 0, 0])

    def test_a_refusal_changes_nothing(self):
        calls = BEGUN_UP + (send([5]),)
        for wrong in (start(256, 2, 8), start(3, 3, 8), start(3, 4, 0)):
            self.assertEqual(last(*calls, wrong), (-22, []))
            self.assertEqual(state(*calls, wrong), [1, 1, 1, OTHER_LIFE])
            self.assertEqual(last(*calls, wrong, TICK), last(*calls, TICK))


if __name__ == "__main__":
    unittest.main()

"""Points 4 and 5: tick and state."""

import unittest

from helper import (BEGUN_UP, DOWN, LIFE, OTHER_LIFE, STATE, TICK, UP, beat_from, heard, last, my_beat, my_piece,
                    piece_from, run, send, start, state)
from nodeline.end import answers


class Tick(unittest.TestCase):

    def test_not_up(self):
        self.assertEqual(run(start(), TICK, TICK)[1:], [(0, [my_beat(known=(0, 0))])] * 2)
        self.assertEqual(last(start(), heard(beat_from(own=(9, 3), known=(0, 0))), TICK), (0, [my_beat(known=(9, 3))]))

    def test_not_up_is_never_cut(self):
        calls = (start(),) + (TICK,) * 40
        self.assertEqual(run(*calls)[1:], [(0, [my_beat(known=(0, 0))])] * 40)
        self.assertEqual(state(*calls), [0, 1, 0, 0])

    def test_ticks_ahead_of_being_up_do_not_count(self):
        calls = (start(),) + (TICK,) * 20 + (heard(beat_from()),) + (TICK,) * 15
        self.assertEqual(last(*calls), (0, [my_beat()]))
        self.assertEqual(last(*calls, TICK), (0, [DOWN]))

    def test_up_with_nothing_to_send_again(self):
        self.assertEqual(last(*BEGUN_UP, TICK), (0, [my_beat()]))
        self.assertEqual(last(*BEGUN_UP, heard(piece_from(1, [5])), TICK), (0, [my_beat(got=1)]))

    def test_the_first_four_are_sent_again(self):
        for count in range(1, 8):
            calls = BEGUN_UP + tuple(send([number] * 3) for number in range(1, count + 1)) + (TICK,)
            again = [my_piece(number, [number] * 3) for number in range(1, min(count, 4) + 1)]
            self.assertEqual(run(*calls, TICK)[-2:], [(0, again)] * 2)

    def test_the_first_four_behind_an_acknowledgement(self):
        calls = BEGUN_UP + tuple(send([number]) for number in range(1, 9)) + (heard(beat_from(got=2)), TICK)
        self.assertEqual(last(*calls), (0, [my_piece(number, [number]) for number in (3, 4, 5, 6)]))

    def test_sent_again_with_what_is_got_now(self):
        calls = BEGUN_UP + (send([5]), heard(piece_from(1, [6])), TICK)
        self.assertEqual(last(*calls), (0, [my_piece(1, [5], got=1)]))

    def test_quiet_just_16_ticks(self):
        calls = BEGUN_UP + (TICK,) * 16
        self.assertEqual(run(*calls)[2:], [(0, [my_beat()])] * 15 + [(0, [DOWN])])
        self.assertEqual(state(*calls[:-1]), [1, 1, 0, OTHER_LIFE])
        self.assertEqual(state(*calls), [0, 2, 0, OTHER_LIFE])
        self.assertEqual(last(*calls, TICK), (0, [my_beat(session=2)]))

    def test_quiet_with_pieces_on_their_way(self):
        calls = BEGUN_UP + (send([5]),) + (TICK,) * 16
        self.assertEqual(run(*calls)[3:], [(0, [my_piece(1, [5])])] * 15 + [(0, [DOWN])])
        self.assertEqual(state(*calls), [0, 2, 0, OTHER_LIFE])
        again = calls + (heard(beat_from(known=(LIFE, 2))), TICK)
        self.assertEqual(run(*again)[-2:], [(0, [UP]), (0, [my_beat(session=2)])])

    def test_what_comes_ends_the_quiet(self):
        for message in (beat_from(), piece_from(1, [5]), piece_from(7, [5])):
            calls = BEGUN_UP + (TICK,) * 15 + (heard(message),) + (TICK,) * 15
            self.assertEqual(state(*calls), [1, 1, 0, OTHER_LIFE])
            self.assertEqual(last(*calls, TICK), (0, [DOWN]))

    def test_sends_and_states_do_not_end_the_quiet(self):
        calls = BEGUN_UP + (TICK,) * 15 + (send([5]), STATE, send([]), TICK)
        self.assertEqual(last(*calls), (0, [DOWN]))

    def test_quiet_begins_anew_behind_a_cut(self):
        calls = BEGUN_UP + (TICK,) * 16 + (heard(beat_from(known=(LIFE, 2))),) + (TICK,) * 15
        self.assertEqual(state(*calls), [1, 2, 0, OTHER_LIFE])
        self.assertEqual(state(*calls, TICK), [0, 3, 0, OTHER_LIFE])


class State(unittest.TestCase):

    def test_the_numbers_as_they_stand(self):
        calls = start() + STATE + heard(beat_from()) + STATE + STATE
        self.assertEqual(answers(calls), [2, 0, 0] + [6, 0, 0, 0, 1, 0, 0] + [4, 0, 1, 1, OTHER_LIFE]
                         + [6, 0, 0, 1, 1, 0, OTHER_LIFE] * 2)

    def test_what_is_known_stays_behind_a_cut(self):
        self.assertEqual(state(*BEGUN_UP, *((TICK,) * 16)), [0, 2, 0, OTHER_LIFE])

    def test_it_changes_nothing(self):
        calls = BEGUN_UP + (send([5]), TICK, TICK)
        between = [part for call in calls[1:] for part in (STATE, call)]
        self.assertEqual([answer for answer in run(calls[0], *between) if len(answer) == 2], run(*calls))


if __name__ == "__main__":
    unittest.main()

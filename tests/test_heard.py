"""Point 3: heard."""

import unittest

from helper import (BEGUN_UP, DOWN, LIFE, OTHER_LIFE, STATE, TICK, TOP, UP, beat_from, got, heard, last, my_beat,
                    my_piece, piece_from, run, send, start, state)


class Known(unittest.TestCase):

    def test_it_learns_from_one_that_knows_nothing(self):
        calls = (start(), heard(beat_from(known=(0, 0))))
        self.assertEqual(last(*calls), (0, []))
        self.assertEqual(state(*calls), [0, 1, 0, OTHER_LIFE])
        self.assertEqual(last(*calls, TICK), (0, [my_beat()]))

    def test_what_knows_another_session_or_life_does_not_bring_it_up(self):
        for known in ((LIFE, 2), (LIFE - 1, 1), (LIFE + 1, 1), (1, LIFE), (LIFE, 0), (0, 1)):
            self.assertEqual(run(start(), heard(beat_from(known=known)), STATE)[1:],
                             [(0, []), (0, [], [0, 1, 0, OTHER_LIFE])])
            self.assertEqual(last(start(), heard(piece_from(1, [5], known=known))), (0, []))

    def test_older_is_passed_over(self):
        calls = (start(), heard(beat_from(own=(9, 5), known=(0, 0))))
        for own in ((9, 4), (9, 1), (8, 5), (8, 6), (1, TOP)):
            for message in (beat_from(own=own), piece_from(1, [5], own=own)):
                self.assertEqual(last(*calls, heard(message)), (0, []))
                self.assertEqual(state(*calls, heard(message)), [0, 1, 0, 9])
                self.assertEqual(last(*calls, heard(message), TICK), (0, [my_beat(known=(9, 5))]))

    def test_newer_is_what_is_known(self):
        calls = (start(), heard(beat_from(own=(9, 5), known=(0, 0))))
        for own in ((9, 6), (9, TOP), (10, 1), (10, 5), (TOP, 1)):
            self.assertEqual(last(*calls, heard(beat_from(own=own))), (0, [("up", own[0])]))
            self.assertEqual(last(*calls, heard(beat_from(own=own, known=(0, 0))), TICK), (0, [my_beat(known=own)]))

    def test_the_same_again_brings_it_up(self):
        self.assertEqual(run(start(), heard(beat_from(known=(0, 0))), heard(beat_from()))[1:], [(0, []), (0, [UP])])

    def test_older_does_not_end_the_quiet(self):
        begun = (start(), heard(beat_from(own=(9, 5))))
        calls = begun + (TICK,) * 15 + (heard(beat_from(own=(9, 4))), TICK)
        self.assertEqual(last(*calls), (0, [DOWN]))

    def test_what_knows_another_session_does_not_end_the_quiet(self):
        calls = BEGUN_UP + (TICK,) * 15 + (heard(beat_from(known=(LIFE, 2))), TICK)
        self.assertEqual(last(*calls), (0, [DOWN]))

    def test_what_knows_another_session_acknowledges_nothing(self):
        calls = BEGUN_UP + (send([5]), heard(beat_from(known=(LIFE, 2), got=1)))
        self.assertEqual(last(*calls), (0, []))
        self.assertEqual(state(*calls), [1, 1, 1, OTHER_LIFE])

    def test_a_message_of_the_others_last_life(self):
        calls = (start(), heard(beat_from(own=(10, 1))))
        for message in (beat_from(own=(9, 1), got=1), piece_from(1, [5], own=(9, 8))):
            self.assertEqual(run(*calls, send([4]), heard(message), STATE)[-2:],
                             [(0, []), (0, [], [1, 1, 1, 10])])


class Up(unittest.TestCase):

    def test_told_once_with_the_others_life(self):
        self.assertEqual(run(*BEGUN_UP, heard(beat_from()), STATE)[1:],
                         [(0, [UP]), (0, []), (0, [], [1, 1, 0, OTHER_LIFE])])

    def test_greatest_lives(self):
        calls = (start(life=TOP), heard(beat_from(own=(TOP, 1), known=(TOP, 1))))
        self.assertEqual(last(*calls), (0, [("up", TOP)]))
        self.assertEqual(state(*calls), [1, 1, 0, TOP])
        self.assertEqual(last(*calls, TICK), (0, [my_beat(life=TOP, known=(TOP, 1))]))
        self.assertEqual(last(*calls, heard(beat_from(own=(1, TOP), known=(TOP, 1)))), (0, []))
        newer = heard(beat_from(own=(TOP, 2), known=(TOP, 1)))
        self.assertEqual(last(*calls, newer), (0, [DOWN]))
        self.assertEqual(state(*calls, newer), [0, 2, 0, TOP])

    def test_a_life_above_2_to_the_31_is_greater(self):
        calls = (start(), heard(beat_from(own=(2 ** 31 - 1, 1))), heard(beat_from(own=(2 ** 31, 1))))
        self.assertEqual(last(*calls), (0, [DOWN]))

    def test_a_piece_before_the_first_beat(self):
        calls = (start(), heard(piece_from(1, [5, 6])))
        self.assertEqual(last(*calls), (0, [UP, got([5, 6]), my_beat(got=1)]))
        self.assertEqual(state(*calls), [1, 1, 0, OTHER_LIFE])

    def test_a_later_piece_before_the_first_beat(self):
        self.assertEqual(last(start(), heard(piece_from(2, [5]))), (0, [UP, my_beat()]))

    def test_nothing_was_sent_yet_so_nothing_is_acknowledged(self):
        calls = (start(), heard(beat_from(got=3)), send([5]))
        self.assertEqual(state(*calls), [1, 1, 1, OTHER_LIFE])


class Cut(unittest.TestCase):

    def test_a_newer_session_cuts(self):
        calls = BEGUN_UP + (send([5]), heard(beat_from(own=(OTHER_LIFE, 2))))
        self.assertEqual(last(*calls), (0, [DOWN]))
        self.assertEqual(state(*calls), [0, 2, 0, OTHER_LIFE])
        self.assertEqual(last(*calls, TICK), (0, [my_beat(session=2, known=(OTHER_LIFE, 2))]))

    def test_a_newer_piece_cuts_and_is_not_got(self):
        calls = BEGUN_UP + (heard(piece_from(1, [5], own=(OTHER_LIFE, 2))),)
        self.assertEqual(last(*calls), (0, [DOWN]))

    def test_the_other_begins_anew_with_session_1(self):
        begun = (start(), heard(beat_from(own=(9, 5))), send([5]))
        calls = begun + (heard(beat_from(own=(10, 1), known=(0, 0))),)
        self.assertEqual(last(*calls), (0, [DOWN]))
        self.assertEqual(state(*calls), [0, 2, 0, 10])
        self.assertEqual(last(*calls, TICK), (0, [my_beat(session=2, known=(10, 1))]))
        self.assertEqual(last(*calls, heard(beat_from(own=(10, 1), known=(LIFE, 2)))), (0, [("up", 10)]))

    def test_newer_when_it_is_not_up_cuts_nothing(self):
        calls = (start(), heard(beat_from(known=(0, 0))), heard(beat_from(own=(10, 1), known=(0, 0))))
        self.assertEqual(last(*calls), (0, []))
        self.assertEqual(state(*calls), [0, 1, 0, 10])

    def test_newer_that_knows_the_session_behind_the_cut(self):
        message = piece_from(1, [5], own=(OTHER_LIFE, 2), known=(LIFE, 2))
        self.assertEqual(last(*BEGUN_UP, heard(message)),
                         (0, [DOWN, UP, got([5]), my_beat(session=2, known=(OTHER_LIFE, 2), got=1)]))

    def test_both_cut_at_once(self):
        calls = BEGUN_UP + (send([5]),) + (TICK,) * 16
        self.assertEqual(last(*calls), (0, [DOWN]))
        calls = calls + (heard(beat_from(own=(OTHER_LIFE, 2), known=(LIFE, 1))),)
        self.assertEqual(last(*calls), (0, []))
        self.assertEqual(state(*calls), [0, 2, 0, OTHER_LIFE])
        self.assertEqual(last(*calls, TICK), (0, [my_beat(session=2, known=(OTHER_LIFE, 2))]))
        calls = calls + (heard(beat_from(own=(OTHER_LIFE, 2), known=(LIFE, 2))),)
        self.assertEqual(last(*calls), (0, [UP]))
        self.assertEqual(state(*calls), [1, 2, 0, OTHER_LIFE])

    def test_a_piece_that_comes_again_behind_a_cut(self):
        piece = piece_from(1, [5])
        calls = BEGUN_UP + (heard(piece), heard(beat_from(own=(OTHER_LIFE, 2))))
        self.assertEqual(run(*calls, heard(piece), STATE)[-2:], [(0, []), (0, [], [0, 2, 0, OTHER_LIFE])])
        calls = calls + (heard(beat_from(own=(OTHER_LIFE, 2), known=(LIFE, 2))), heard(piece))
        self.assertEqual(run(*calls)[-2:], [(0, [UP]), (0, [])])

    def test_a_piece_for_the_session_of_before_when_this_end_alone_was_cut(self):
        calls = BEGUN_UP + (TICK,) * 16 + (heard(piece_from(1, [5])),)
        self.assertEqual(last(*calls), (0, []))
        self.assertEqual(state(*calls), [0, 2, 0, OTHER_LIFE])

    def test_nothing_was_got_yet_behind_a_cut(self):
        calls = BEGUN_UP + (heard(piece_from(1, [5])), heard(piece_from(2, [6]))) + (TICK,) * 16
        self.assertEqual(last(*calls, heard(piece_from(1, [7], known=(LIFE, 2)))),
                         (0, [UP, got([7]), my_beat(session=2, got=1)]))


class Acknowledged(unittest.TestCase):

    def setUp(self):
        self.calls = BEGUN_UP + tuple(send([number]) for number in range(1, 6))

    def test_up_to_the_number_that_the_other_has_got(self):
        for count in range(6):
            calls = self.calls + (heard(beat_from(got=count)),)
            self.assertEqual(last(*calls), (0, []))
            self.assertEqual(state(*calls), [1, 1, 5 - count, OTHER_LIFE])

    def test_the_first_go(self):
        self.assertEqual(last(*self.calls, heard(beat_from(got=3)), TICK), (0, [my_piece(4, [4]), my_piece(5, [5])]))

    def test_twice(self):
        calls = self.calls + (heard(beat_from(got=2)), heard(beat_from(got=2)))
        self.assertEqual(state(*calls), [1, 1, 3, OTHER_LIFE])
        self.assertEqual(state(*calls, heard(beat_from(got=3))), [1, 1, 2, OTHER_LIFE])

    def test_less_than_before(self):
        calls = self.calls + (heard(beat_from(got=4)), heard(beat_from(got=1)))
        self.assertEqual(state(*calls), [1, 1, 1, OTHER_LIFE])
        self.assertEqual(last(*calls, TICK), (0, [my_piece(5, [5])]))

    def test_less_than_before_with_more_on_their_way(self):
        for count in (0, 1):
            calls = self.calls + (heard(beat_from(got=2)), heard(beat_from(got=count)))
            self.assertEqual(state(*calls), [1, 1, 3, OTHER_LIFE])
            self.assertEqual(last(*calls, TICK), (0, [my_piece(number, [number]) for number in (3, 4, 5)]))

    def test_more_than_were_sent(self):
        for count in (6, 7, TOP):
            calls = self.calls + (heard(beat_from(got=count)),)
            self.assertEqual(last(*calls), (0, []))
            self.assertEqual(state(*calls), [1, 1, 5, OTHER_LIFE])

    def test_more_than_were_sent_still_ends_the_quiet(self):
        calls = self.calls + (TICK,) * 15 + (heard(beat_from(got=6)), TICK)
        self.assertEqual(last(*calls)[1][0], my_piece(1, [1]))

    def test_by_a_piece(self):
        calls = self.calls + (heard(piece_from(1, [50], got=5)),)
        self.assertEqual(last(*calls), (0, [got([50]), my_beat(got=1)]))
        self.assertEqual(state(*calls), [1, 1, 0, OTHER_LIFE])

    def test_by_a_piece_that_is_not_got(self):
        calls = self.calls + (heard(piece_from(2, [50], got=5)),)
        self.assertEqual(last(*calls), (0, [my_beat()]))
        self.assertEqual(state(*calls), [1, 1, 0, OTHER_LIFE])


class Pieces(unittest.TestCase):

    def test_in_order(self):
        calls = [heard(piece_from(number, [number, 0])) for number in (1, 2, 3)]
        self.assertEqual(run(*BEGUN_UP, *calls)[2:],
                         [(0, [got([number, 0]), my_beat(got=number)]) for number in (1, 2, 3)])

    def test_again(self):
        calls = BEGUN_UP + (heard(piece_from(1, [5])), heard(piece_from(1, [5])))
        self.assertEqual(last(*calls), (0, [my_beat(got=1)]))

    def test_one_too_early(self):
        calls = BEGUN_UP + (heard(piece_from(2, [6])), heard(piece_from(1, [5])), heard(piece_from(2, [6])))
        self.assertEqual(run(*calls)[2:],
                         [(0, [my_beat()]), (0, [got([5]), my_beat(got=1)]), (0, [got([6]), my_beat(got=2)])])

    def test_far_off_numbers(self):
        for number in (0, 3, 257, 65537, TOP):
            self.assertEqual(last(*BEGUN_UP, heard(piece_from(number, [5]))), (0, [my_beat()]))

    def test_a_beat_is_not_answered(self):
        self.assertEqual(last(*BEGUN_UP, heard(beat_from())), (0, []))

    def test_more_than_32_and_than_255_are_got(self):
        calls = [heard(piece_from(number, [number % 256])) for number in range(1, 301)]
        self.assertEqual(run(*BEGUN_UP, *calls)[2:],
                         [(0, [got([number % 256]), my_beat(got=number)]) for number in range(1, 301)])


if __name__ == "__main__":
    unittest.main()

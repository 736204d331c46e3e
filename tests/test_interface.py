"""The interface: what is handed in, what is given back, and long lists."""

import unittest

from helper import (BEGUN_UP, LIFE, STATE, TICK, beat_from, heard, joined, last, piece_from, run, send, split, start,
                    state)
from nodeline.end import answers

LONGEST = 30000
MOST_CALLS = 1000


def refuse(*given, **named):
    raise AssertionError("what was handed in is changed")


class Unchanged(list):
    """A list that won't be changed, not for a while either."""

    append = extend = insert = pop = remove = clear = sort = reverse = refuse
    __setitem__ = __delitem__ = __iadd__ = __imul__ = refuse


def some_calls():
    return joined(BEGUN_UP + (send([1, 2]), TICK, STATE, heard(piece_from(1, [3])), send([]), heard([1]), start(1, 1),
                              heard(beat_from(got=1)), STATE) + (TICK,) * 17 + (start(), TICK))


def much_sent_again():
    """Long pieces, of which four are sent again at each tick."""
    calls = list(BEGUN_UP) + [send([number] * 200) for number in range(32)]
    while len(calls) < MOST_CALLS:
        calls.append(heard(beat_from()) if len(calls) % 15 == 0 else TICK)
    return calls


def much_heard():
    """As many long pieces as a list holds."""
    calls = list(BEGUN_UP)
    for number in range(1, 128):
        calls.append(heard(piece_from(number, [number] * 200)))
    return calls


class Interface(unittest.TestCase):

    def test_what_is_handed_in_stays(self):
        calls = some_calls()
        copy = list(calls)
        answers(calls)
        self.assertEqual(calls, copy)
        self.assertEqual(answers(Unchanged(copy)), answers(copy))

    def test_twice_answers_the_same(self):
        first = answers(some_calls())
        answers(start() + heard(beat_from()))
        self.assertEqual(answers(some_calls()), first)

    def test_what_was_given_back_may_be_changed(self):
        calls = some_calls()
        first = answers(calls)
        kept = list(first)
        first.clear()
        self.assertEqual(answers(calls), kept)

    def test_nothing_is_kept_of_another_list(self):
        answers(joined(BEGUN_UP))
        self.assertEqual(last(start(), send([1])), (-11, []))
        self.assertEqual(state(start()), [0, 1, 0, 0])

    def test_plain_lists_of_whole_numbers(self):
        given = answers(some_calls())
        self.assertIs(type(given), list)
        self.assertEqual({type(number) for number in given}, {int})

    def test_one_answer_for_each_call(self):
        self.assertEqual(len(split(answers(some_calls()))), 11 + 17 + 2)

    def test_pieces_that_look_like_calls(self):
        self.assertEqual(run(*BEGUN_UP, send([4, 3, 0, 1, 1]), STATE)[3], (0, [], [1, 1, 1, 9]))

    def test_rows_of_1000(self):
        self.assertEqual(run(start(), send([0] * 1000), heard([0] * 1000), STATE)[1:],
                         [(-22, []), (-71, []), (0, [], [0, 1, 0, 0])])


class Long(unittest.TestCase):

    def test_1000_ticks(self):
        self.assertEqual(len(split(answers(start() + TICK * 999))), MOST_CALLS)

    def test_1000_starts(self):
        self.assertEqual(answers(start() * MOST_CALLS), [2, 0, 0] * MOST_CALLS)

    def test_much_sent_again(self):
        calls = much_sent_again()
        self.assertLessEqual(len(joined(calls)), LONGEST)
        told = run(*calls)
        self.assertEqual(len(told), MOST_CALLS)
        self.assertEqual(state(*calls[:-1]), [1, 1, 32, 9])
        self.assertEqual(len(told[-1][1]), 4)

    def test_much_heard(self):
        calls = much_heard()
        self.assertLessEqual(len(joined(calls)), LONGEST)
        self.assertGreater(len(joined(calls)), LONGEST - 500)
        self.assertEqual(len([1 for answer in run(*calls) if ("got" in [thing[0] for thing in answer[1]])]), 127)

    def test_many_sessions(self):
        calls = [start()]
        for session in range(1, 500):
            calls += [heard(beat_from(own=(9, session), known=(LIFE, session))), heard(beat_from(own=(9, session + 1)))]
        self.assertEqual(state(*calls), [0, 500, 0, 9])


if __name__ == "__main__":
    unittest.main()

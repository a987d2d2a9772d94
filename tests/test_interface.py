"""The interface: how calls and answers are laid, and what is left as it was."""

import contextlib
import inspect
import io
import unittest

from tests.helper import BEGIN, END, ask, chunk, event, length, load, render, song, taken_apart, tempo, time, track
from songsamples import song as song_module
from songsamples.song import answers

CALLS = (
    event(0) + load(song(track([0, 0x90, 60, 100], [5, 62, 1])))
    + event(1) + load([1, 2]) + event(0) + BEGIN + load(song(track(), track([1, 0xC0, 3])))
    + event(2) + event(4) + event(-1)
    + time(1) + length(8000) + load(song(track([0, 0x90, 60, 100], tempo(2, 1000000), [6, 0x80, 60, 0]), quarter=4000))
    + time(0) + time(2) + time(4294967295) + length(8000) + length(48001) + render(8000, 0, 2) + render(8000, 0, 0)
    + render(8000, -1, 1) + render(8000, 2147483647, 1) + BEGIN + time(0) + length(8000) + render(8000, 0, 2)
)
TOLD = [
    1, -9, 1, 3,
    6, 0x90, 5, 0, 2, 62, 1, 1, -1, 1, -9, 1, 0, 1, 3,
    6, 0xFF, 1, 1, 1, 0x2F, 0, 1, -1, 1, -8,
    2, 0, 5208, 1, 41, 1, 4,
    2, 0, 0, 2, 0, 250, 2, 0, 1073741823500, 1, 14, 1, -8, 5, 2, 1230, 1249, 1230, 1249, 1, 0,
    1, -8, 3, 1, 0, 0, 1, 0, 1, -9, 1, -9, 1, -9,
]


class Unchanging(list):
    """A list that no call may change, not for a while either."""

    def refuse(self, *numbers):
        raise AssertionError("what is handed in was changed")

    __setitem__ = __delitem__ = __iadd__ = __imul__ = refuse
    append = extend = insert = pop = remove = clear = reverse = sort = refuse


class Laid(unittest.TestCase):
    def test_names(self):
        self.assertEqual(list(inspect.signature(answers).parameters), ["calls"])
        self.assertIs(song_module.answers, answers)

    def test_several_calls_one_behind_another(self):
        told = answers(list(CALLS))
        # The second song's events: track 0 ends at 0, then track 1's message at 1, then its end.
        self.assertEqual(told, TOLD)

    def test_plain_lists_of_plain_whole_numbers(self):
        told = answers(list(CALLS))
        self.assertIs(type(told), list)
        self.assertEqual({type(value) for value in told}, {int})

    def test_a_hundred_calls(self):
        told = ask(load(song(track([2, 0xC1, 9]))), *[event(0)] * 99)
        self.assertEqual(told, [[2]] + [[0xC1, 2, 0, 1, 9, 0]] * 99)

    def test_a_hundred_loads(self):
        file = song(track([0, 0xF0, 0x81, 0x48] + [1] * 200))
        told = ask(*[load(file)] * 99, event(0))
        self.assertEqual(told, [[2]] * 99 + [[0xF0, 0, 0, 200, 1, 1]])

    def test_a_file_whose_bytes_look_like_calls(self):
        file = [0, 1, 2, 3, 4, 5, 0, 0]
        self.assertEqual(ask(load(file), BEGIN, load([]), event(0)), [[-1], [0], [-1], [-9]])

    def test_a_file_as_long_as_can_be(self):
        body = [0, 0xC0, 1] + [0, 1] * 14934 + [0, 0xF0, 0] + END
        file = song(chunk(body))
        self.assertEqual(len(file), 29900)
        told = ask(load(file), event(14934), event(14935), event(14936))
        self.assertEqual(told, [[14937], [0xC0, 0, 0, 1, 1, 0], [0xF0, 0, 0, 0, 0, 0], [0xFF, 0, 0, 1, 0x2F, 0]])


class LeftAsItWas(unittest.TestCase):
    def test_the_list_is_the_same_afterwards(self):
        calls = list(CALLS)
        answers(calls)
        self.assertEqual(calls, CALLS)

    def test_the_list_is_not_changed_for_a_while_either(self):
        self.assertEqual(answers(Unchanging(CALLS)), TOLD)

    def test_the_answer_is_a_list_of_its_own(self):
        calls = list(CALLS)
        told = answers(calls)
        told.clear()
        self.assertEqual(answers(calls), TOLD)
        self.assertEqual(calls, CALLS)

    def test_the_same_list_twice(self):
        calls = list(CALLS)
        self.assertEqual(answers(calls), answers(calls))

    def test_nothing_is_kept_from_one_time_to_the_next(self):
        self.assertEqual(ask(load(song(track()))), [[1]])
        self.assertEqual(ask(event(0)), [[-9]])
        self.assertEqual(taken_apart(answers([2, -1])), [[-9]])

    def test_nothing_is_printed(self):
        out = io.StringIO()
        with contextlib.redirect_stdout(out), contextlib.redirect_stderr(out):
            answers(list(CALLS))
        self.assertEqual(out.getvalue(), "")


if __name__ == "__main__":
    unittest.main()

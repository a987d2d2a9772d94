"""Promise 1: begin, and what is refused without a song."""

import unittest

from tests.helper import BEGIN, END, ask, chunk, event, header, load, song, track
from songsamples.song import answers

NOTE = [0, 0x90, 60, 100]
GOOD = song(track(NOTE))
TIME = [3, 0]
LENGTH = [4, 8000]
RENDER = [5, 8000, 0, 1]
NO_SONG = [-9]

REFUSED = {
    -1: GOOD[:13],
    -2: song(track(), kind=2),
    -3: song(track(), quarter=0),
    -4: GOOD + [0],
    -5: song(chunk([0, 0xC0, 1] + [0, 1] * 32767 + END)),
}


class Begin(unittest.TestCase):
    def test_answers_0(self):
        self.assertEqual(answers([0]), [1, 0])
        self.assertEqual(answers([0, 0, 0]), [1, 0, 1, 0, 1, 0])

    def test_takes_the_song_away(self):
        told = ask(load(GOOD), event(0), BEGIN, event(0))
        self.assertEqual(told, [[2], [0x90, 0, 0, 2, 60, 100], [0], NO_SONG])

    def test_a_song_can_be_loaded_behind_it(self):
        self.assertEqual(ask(BEGIN, load(GOOD), event(2)), [[0], [2], [-1]])


class WithoutASong(unittest.TestCase):
    def test_at_the_beginning(self):
        self.assertEqual(answers([2, 0]), [1, -9])
        self.assertEqual(ask(event(0), TIME, LENGTH, RENDER), [NO_SONG] * 4)

    def test_behind_begin(self):
        told = ask(load(GOOD), BEGIN, event(0), TIME, LENGTH, RENDER)
        self.assertEqual(told, [[2], [0]] + [NO_SONG] * 4)

    def test_goes_ahead_of_the_other_refusals(self):
        told = ask(event(-1), event(-2147483648), event(2147483647), [4, 0], [5, 7999, -1, 4097])
        self.assertEqual(told, [NO_SONG] * 5)

    def test_behind_each_refused_load(self):
        for answer, file in REFUSED.items():
            with self.subTest(answer=answer):
                told = ask(load(file), event(0), event(-1), TIME, LENGTH, RENDER)
                self.assertEqual(told, [[answer]] + [NO_SONG] * 5)

    def test_a_refused_load_takes_the_song_before_it_away(self):
        for answer, file in REFUSED.items():
            with self.subTest(answer=answer):
                told = ask(load(GOOD), load(file), event(0), event(-1), load(GOOD), event(1))
                wanted = [[2], [answer], NO_SONG, NO_SONG, [2], [0xFF, 0, 0, 1, 0x2F, 0]]
                self.assertEqual(told, wanted)

    def test_each_call_takes_its_own_numbers(self):
        told = ask(TIME, BEGIN, LENGTH, BEGIN, RENDER, BEGIN, event(0), BEGIN, load(header()), BEGIN)
        self.assertEqual(told, [NO_SONG, [0]] * 4 + [[-4], [0]])


if __name__ == "__main__":
    unittest.main()

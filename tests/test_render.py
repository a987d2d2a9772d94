"""Promise 12: render, how it is laid, where it begins and ends, and its refusal."""

import unittest

from tests.helper import BEGIN, END, Note, after, ask, chunk, event, heard, length, load, render, rendered, song, time
from tests.helper import track

# With this quarter and the first tempo a tick is a sample at 8000, and six at 48000.
QUARTER = 4000
NOTES = [(0, 60, 100, 0, 50), (0, 64, 90, 20, 200), (1, 48, 127, 30, 120), (9, 38, 80, 60, 70)]
FILE = song(
    track([0, 0x90, 60, 100], [20, 64, 90], [30, 60, 0], after(150, [0x80, 64, 0]), after(200, [0xFF, 1, 0])),
    track([30, 0x91, 48, 127], [90, 0x81, 48, 1]),
    track([60, 0x99, 38, 80], [10, 0x99, 38, 0]),
    quarter=QUARTER,
)


def notes_at(rate):
    rows = []
    for channel, key, hard, begin, end in NOTES:
        rows.append(Note(channel, key, hard, 0, begin * rate // 8000, end * rate // 8000))
    return rows


def laid(pairs):
    return [len(pairs)] + [value for pair in pairs for value in pair]


class Stretches(unittest.TestCase):
    def check(self, rate, first, n):
        told = ask(load(FILE), render(rate, first, n))
        self.assertEqual(told, [[12], laid(heard(notes_at(rate), rate, first, n))])

    def test_from_the_beginning(self):
        self.check(8000, 0, 2500)

    def test_written_samples(self):
        # 100 100 256 32767 times 63 and times 64, by 2^32.
        self.assertEqual(ask(load(FILE), render(8000, 0, 2))[1], [2, 1230, 1249, 1230, 1249])

    def test_from_within(self):
        for first in (1, 19, 20, 21, 49, 50, 51, 199, 200, 201, 399, 400, 401, 1000, 2199, 2200):
            with self.subTest(first=first):
                self.check(8000, first, 60)

    def test_from_behind_the_end(self):
        told = ask(load(FILE), length(8000), render(8000, 400, 3), render(8000, 2300, 3), render(8000, 5000, 2))
        self.assertEqual(told[1], [400])
        self.assertNotEqual(told[2], [3, 0, 0, 0, 0, 0, 0])
        self.assertEqual(told[3:], [[3, 0, 0, 0, 0, 0, 0], [2, 0, 0, 0, 0]])

    def test_at_several_rates(self):
        for rate in (8000, 8001, 11025, 22050, 44100, 47999, 48000):
            with self.subTest(rate=rate):
                self.check(rate, 0, 700)

    def test_pieces_make_the_whole(self):
        whole = rendered(FILE, 11025, 0, 900)
        for size in (1, 7, 100, 299):
            pairs = []
            for first in range(0, 900, size):
                pairs += rendered(FILE, 11025, first, min(size, 900 - first))
            self.assertEqual(pairs, whole)

    def test_a_song_without_notes(self):
        self.assertEqual(ask(load(song(track())), render(8000, 0, 3)), [[1], [3, 0, 0, 0, 0, 0, 0]])

    def test_each_sample_is_left_then_right(self):
        file = song(track([0, 0xB0, 10, 0], [0, 0x90, 60, 100], after(100, [0xFF, 1, 0])), quarter=QUARTER)
        self.assertEqual(ask(load(file), render(8000, 0, 3))[1], [3, 2480, 0, 2480, 0, 2480, 0])


class HowMany(unittest.TestCase):
    def test_0(self):
        self.assertEqual(ask(load(FILE), render(8000, 0, 0), render(8000, 2147483647, 0)), [[12], [0], [0]])

    def test_1(self):
        self.assertEqual(ask(load(FILE), render(8000, 1, 1)), [[12], [1, 1230, 1249]])

    def test_4096(self):
        told = ask(load(FILE), render(48000, 0, 4096))
        self.assertEqual(told[1], laid(heard(notes_at(48000), 48000, 0, 4096)))
        self.assertEqual(len(told[1]), 8193)


class From(unittest.TestCase):
    def test_as_far_as_can_be(self):
        self.assertEqual(ask(load(FILE), render(8000, 2147483647, 2)), [[12], [2, 0, 0, 0, 0]])

    def test_a_note_that_sounds_there(self):
        body = [0, 0x90, 60, 100] + after(2 ** 31 - 1, [0x80, 60, 0]) + END
        file = song(chunk(body), quarter=2000)
        told = ask(load(file), length(8000), render(8000, 2147483647, 30), render(8000, 2147483640, 9))
        notes = [Note(0, 60, 100, 0, 0, 2 ** 32 - 2)]
        self.assertEqual(told[1], [-7])
        self.assertEqual(told[2], laid(heard(notes, 8000, 2147483647, 30)))
        self.assertEqual(told[3], laid(heard(notes, 8000, 2147483640, 9)))

    def test_phases_that_are_greater_than_2_to_the_63(self):
        for program in range(4):
            body = [0, 0xC0, program, 0, 0x90, 127, 100] + after(2 ** 31 - 1, [0x80, 127, 0]) + END
            notes = [Note(0, 127, 100, program, 0, 2 ** 32 - 2)]
            self.assertEqual(rendered(song(chunk(body), quarter=2000), 8000, 2147483647, 30),
                             heard(notes, 8000, 2147483647, 30))

    def test_a_note_that_begins_and_ends_there(self):
        body = after(2 ** 31 - 2, [0x90, 60, 100]) + [1, 0x80, 60, 0] + END
        file = song(chunk(body), quarter=QUARTER)
        told = ask(load(file), length(8000), render(8000, 2147483640, 40))
        self.assertEqual(told[1], [2147483647])
        self.assertEqual(told[2], laid(heard([Note(0, 60, 100, 0, 2147483646, 2147483647)], 8000, 2147483640, 40)))


class Refused(unittest.TestCase):
    GOOD = [1, 1230, 1249]

    def check(self, *calls):
        for call in calls:
            with self.subTest(call=call):
                told = ask(load(FILE), render(8000, 0, 1), call, render(8000, 0, 1), length(8000), event(0), time(96))
                wanted = [[12], self.GOOD, [-8], self.GOOD, [400], [0x90, 0, 0, 2, 60, 100], [0, 12000]]
                self.assertEqual(told, wanted)

    def test_rate(self):
        self.check(*[render(rate, 0, 1) for rate in (-2147483648, -8000, -1, 0, 7999, 48001, 2147483647)])
        self.check(render(7999, 0, 0), render(48001, 0, 0))

    def test_rates_that_are_not_refused(self):
        self.assertEqual(ask(load(FILE), render(8000, 0, 1), render(48000, 0, 1)), [[12], self.GOOD, self.GOOD])

    def test_from(self):
        self.check(*[render(8000, first, 1) for first in (-1, -2, -2147483648)])
        self.check(render(8000, -1, 0))

    def test_n(self):
        self.check(*[render(8000, 0, n) for n in (-1, -2147483648, 4097, 2147483647)])

    def test_several_at_once(self):
        self.check(render(0, -1, 1), render(0, 0, 4097), render(8000, -1, -1), render(7999, -1, 4097))

    def test_without_a_song_goes_ahead(self):
        told = ask(render(8000, 0, 1), render(0, 0, 1), render(8000, -1, 1), render(8000, 0, 4097), BEGIN,
                   render(8000, 0, 0))
        self.assertEqual(told, [[-9]] * 4 + [[0], [-9]])

    def test_a_song_that_is_too_long_is_not(self):
        body = [0, 0x90, 60, 100] + after(2 ** 31 - 1, END[1:])
        self.assertEqual(ask(load(song(chunk(body), quarter=1)), length(8000), render(8000, 0, 1)),
                         [[10], [-7], self.GOOD])


class OneBehindAnother(unittest.TestCase):
    def test_twice_the_same_answer(self):
        told = ask(load(FILE), render(8000, 10, 300), render(8000, 10, 300), render(48000, 5, 9), render(8000, 10, 300))
        self.assertEqual(told[2], told[1])
        self.assertEqual(told[4], told[1])

    def test_another_song_in_its_place(self):
        other = song(track([0, 0xB0, 10, 0], [0, 0x90, 60, 100], after(100, [0xFF, 1, 0])), quarter=QUARTER)
        told = ask(load(FILE), render(8000, 0, 1), load(other), render(8000, 0, 1), length(8000), load(FILE),
                   render(8000, 0, 1), load([]), render(8000, 0, 1), load(song(track())), render(8000, 0, 1))
        wanted = [[12], [1, 1230, 1249], [4], [1, 2480, 0], [100], [12], [1, 1230, 1249], [-1], [-9], [1], [1, 0, 0]]
        self.assertEqual(told, wanted)

    def test_ninety_nine_of_4096(self):
        told = ask(load(FILE), *[render(48000, 4096 * number, 4096) for number in range(99)])
        self.assertEqual([row[0] for row in told[1:]], [4096] * 99)
        self.assertEqual(told[1], laid(heard(notes_at(48000), 48000, 0, 4096)))
        self.assertEqual(told[50:], [[4096] + [0] * 8192] * 50)


class Crowds(unittest.TestCase):
    def test_thousands_of_notes_at_one_tick(self):
        count = 9000
        body = [0, 0xB0, 7, 1, 0, 0xB0, 10, 1, 0, 0x90, 60, 2] + [0, 60, 2] * (count - 1)
        file = song(chunk(body + after(100, END[1:])), quarter=QUARTER)
        pairs = rendered(file, 8000, 0, 4096)
        for k in (0, 1, 14, 15, 99, 100, 101, 1999, 2000, 2099, 2100, 4095):
            first = Note(0, 60, 2, 0, 0, 0)
            last = Note(0, 60, 2, 0, 0, 100)
            settings = [(0, 0, 7, 1), (0, 0, 10, 1)]
            with self.subTest(k=k):
                self.assertEqual(pairs[k:k + 1], heard([first] * (count - 1) + [last], 8000, k, 1, settings))


if __name__ == "__main__":
    unittest.main()

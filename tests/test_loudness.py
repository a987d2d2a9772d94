"""Promise 9: how loud a note is, k samples behind its beginning and from its end on."""

import unittest

from tests.helper import END, Note, after, ask, chunk, heard, load, loud, render, song, wave

# With this quarter and the first tempo a tick is a sample at 8000, and six at 48000.
QUARTER = 4000
ALL_RIGHT = [0, 0xB0, 7, 127, 0, 0xB0, 10, 127]


def song_of_note(size, key=0):
    """A note as hard and as loud as can be, on the right alone, for so many ticks."""
    body = ALL_RIGHT + [0, 0x90, key, 127] + after(size, [0x80, key, 0]) + END
    return song(chunk(body), quarter=QUARTER)


def rights(file, rate, *samples):
    rows = ask(load(file), *[render(rate, sample, 1) for sample in samples])[1:]
    return [row[2] for row in rows]


def of_loud(value, rate, k, key=0):
    """The sample on the right where the note is so loud."""
    return 127 * 127 * value * wave(0, key, 0, k, rate) * 127 // 2 ** 32


class Held(unittest.TestCase):
    def check(self, rate, ticks, expected):
        file = song_of_note(ticks)
        samples = [k for k, value in expected]
        wanted = [of_loud(value, rate, k) for k, value in expected]
        self.assertEqual(rights(file, rate, *samples), wanted)

    def test_at_the_beginning(self):
        self.assertEqual(rights(song_of_note(20000), 8000, 0), [4000])

    def test_falls_by_one_in_62_and_a_half_samples(self):
        self.check(8000, 20000, [
            (0, 256), (1, 256), (62, 256), (63, 255), (124, 255), (125, 254), (187, 254), (188, 253), (250, 252),
        ])

    def test_falls_by_one_in_375_samples(self):
        self.check(48000, 20000, [(0, 256), (374, 256), (375, 255), (749, 255), (750, 254), (48000, 128)])

    def test_where_64_is_reached(self):
        self.check(8000, 20000, [(8000, 128), (11937, 66), (11938, 65), (11999, 65), (12000, 64), (12001, 64)])
        self.check(48000, 20000, [(71624, 66), (71625, 65), (71999, 65), (72000, 64), (72001, 64), (119999, 64)])

    def test_64_at_least(self):
        self.check(8000, 20000, [(12062, 64), (12063, 64), (12125, 64), (15999, 64), (16000, 64), (19999, 64)])

    def test_a_rate_that_is_no_multiple(self):
        # 128 times 66150 by 44100 is 192; a sample before it's cut to 191.
        file = song_of_note(20000)
        wanted = [of_loud(value, 44100, k) for k, value in ((344, 256), (345, 255), (66149, 65), (66150, 64))]
        self.assertEqual(rights(file, 44100, 344, 345, 66149, 66150), wanted)

    def test_very_long(self):
        ticks = 2 ** 31 - 1
        self.check(8000, ticks, [(2147483646, 64), (1073741824, 64)])


class FromItsEnd(unittest.TestCase):
    def check(self, rate, ticks, expected):
        end = ticks * rate // 8000
        file = song_of_note(ticks)
        samples = [end + behind for behind, value in expected]
        wanted = [of_loud(value, rate, end + behind) for behind, value in expected]
        self.assertEqual(rights(file, rate, *samples), wanted)

    def test_as_loud_as_at_the_end_then_less(self):
        # 1024 by 8000: one less after 7.8125 samples.
        self.check(8000, 100, [(-1, 255), (0, 255), (1, 255), (7, 255), (8, 254), (15, 254), (16, 253), (1000, 127)])

    def test_where_0_is_reached(self):
        self.check(8000, 0, [(0, 256), (7, 256), (8, 255), (1992, 2), (1993, 1), (1999, 1), (2000, 0), (2001, 0)])
        self.check(8000, 100, [(1992, 1), (1993, 0), (1994, 0), (2500, 0)])

    def test_0_at_least(self):
        self.check(8000, 0, [(2008, 0), (2100, 0), (4000, 0), (100000, 0), (2000000000, 0)])

    def test_from_64(self):
        self.check(8000, 12000, [(-1, 65), (0, 64), (7, 64), (8, 63), (499, 1), (500, 0), (501, 0)])
        self.check(8000, 30000, [(-1, 64), (0, 64), (7, 64), (8, 63), (499, 1), (500, 0), (501, 0)])

    def test_from_one_before_and_at_a_fall(self):
        self.check(8000, 62, [(-1, 256), (0, 256), (7, 256), (8, 255)])
        self.check(8000, 63, [(-1, 256), (0, 255), (7, 255), (8, 254)])

    def test_it_does_not_fall_by_the_held_fall_too(self):
        self.check(8000, 60, [(0, 256), (3, 256), (7, 256), (65, 248), (625, 176)])

    def test_at_48000(self):
        # 1024 by 48000: one less after 46.875 samples.
        self.check(48000, 1000, [(-1, 241), (0, 240), (46, 240), (47, 239), (93, 239), (94, 238), (11249, 1),
                                 (11250, 0)])

    def test_behind_the_last_tick(self):
        body = ALL_RIGHT + [0, 0x90, 0, 127] + after(100, END[1:])
        file = song(chunk(body), quarter=QUARTER)
        samples = (99, 100, 107, 108, 2092, 2093)
        wanted = [of_loud(value, 8000, k) for k, value in zip(samples, (255, 255, 255, 254, 1, 0))]
        self.assertEqual(rights(file, 8000, *samples), wanted)


class WholeStretches(unittest.TestCase):
    def check(self, ticks, rate, first, n):
        settings = [(0, 0, 7, 127), (0, 0, 10, 127)]
        note = Note(0, 57, 127, 0, 0, ticks * rate // 8000)
        told = ask(load(song_of_note(ticks, 57)), render(rate, first, n))[1]
        self.assertEqual(list(zip(told[1::2], told[2::2])), heard([note], rate, first, n, settings))

    def test_over_the_end(self):
        for ticks in (0, 1, 7, 8, 62, 63, 500):
            for rate in (8000, 8001, 11025, 48000):
                with self.subTest(ticks=ticks, rate=rate):
                    self.check(ticks, rate, 0, 1000)

    def test_over_the_reach_of_64(self):
        for rate in (8000, 9999, 47999, 48000):
            first = 3 * rate // 2 - 300
            self.check(30000, rate, first, 600)
            self.check(12001, rate, first, 600)
            self.check(11999, rate, first, 600)

    def test_over_the_reach_of_0(self):
        for rate in (8000, 8001, 44100, 48000):
            for ticks in (0, 100, 13000):
                end = ticks * rate // 8000
                reach = end + -(-loud(end, end, rate) * rate // 1024)
                self.check(ticks, rate, reach - 200, 400)

    def test_from_within(self):
        for first in (0, 1, 61, 62, 63, 99, 100, 101, 107, 108, 2091, 2092, 2093):
            self.check(100, 8000, first, 30)


if __name__ == "__main__":
    unittest.main()

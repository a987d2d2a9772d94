"""Promise 7: a tick's sample, length and its refusals."""

import unittest

from tests.helper import BEGIN, after, ask, chunk, length, load, number, song, tempo, time, track

END_OF_TRACK = [0xFF, 0x2F, 0]
RATES = (8000, 8001, 11025, 22050, 44100, 47999, 48000)


def lengths(file, *rates):
    rows = ask(load(file), *[length(rate) for rate in rates])[1:]
    if any(len(row) != 1 for row in rows):
        raise AssertionError(rows)
    return [row[0] for row in rows]


def song_of_ticks(ticks, quarter):
    return song(chunk(after(ticks, END_OF_TRACK)), quarter=quarter)


class Lengths(unittest.TestCase):
    def test_no_ticks(self):
        self.assertEqual(lengths(song(track()), *RATES), [0] * 7)

    def test_a_quarter_is_half_a_second(self):
        self.assertEqual(lengths(song_of_ticks(96, 96), *RATES), [4000, 4000, 5512, 11025, 22050, 23999, 24000])

    def test_rounded_once_and_down(self):
        # A tick's time of 5208 microseconds would make 249.
        self.assertEqual(lengths(song_of_ticks(1, 96), 48000, 8000, 44100), [250, 41, 229])

    def test_rounded_down_to_the_last_part(self):
        file = song(track(tempo(0, 3), tempo(41, 1)), quarter=1)
        # 123 times these rates: 984000, 999990 and 1000113 millionths of a sample.
        self.assertEqual(lengths(file, 8000, 8130, 8131), [0, 0, 1])

    def test_the_last_event_is_the_end_of_a_track(self):
        file = song(chunk([5, 0x90, 60, 100, 7] + END_OF_TRACK), quarter=4000)
        self.assertEqual(lengths(file, 8000, 48000), [12, 72])

    def test_the_last_event_of_all_tracks(self):
        long_track = chunk([50] + END_OF_TRACK)
        short_track = chunk([20, 0x90, 60, 100, 7] + END_OF_TRACK)
        self.assertEqual(lengths(song(long_track, short_track, quarter=4000), 8000), [50])
        self.assertEqual(lengths(song(short_track, long_track, short_track, quarter=4000), 8000), [50])

    def test_tempos_of_any_track(self):
        file = song(chunk([100] + END_OF_TRACK), track(tempo(40, 1000000)), track(tempo(90, 125000)), quarter=4000)
        # 40 ticks of 1 sample, 50 of 2, 10 of a quarter.
        self.assertEqual(lengths(file, 8000), [142])

    def test_a_tempo_at_the_last_tick_counts_for_nothing(self):
        self.assertEqual(lengths(song(track(tempo(40, 16777215)), quarter=4000), 8000), [40])

    def test_asked_again_and_at_other_rates(self):
        self.assertEqual(lengths(song_of_ticks(10, 4000), 8000, 48000, 8000, 16000, 48000), [10, 60, 10, 20, 60])


class OutOfRange(unittest.TestCase):
    def test_rates(self):
        rates = (-2147483648, -8000, -1, 0, 1, 7999, 8000, 48000, 48001, 96000, 2147483647)
        answered = [-8, -8, -8, -8, -8, -8, 10, 60, -8, -8, -8]
        self.assertEqual(lengths(song_of_ticks(10, 4000), *rates), answered)

    def test_nothing_changes(self):
        file = song_of_ticks(10, 4000)
        told = ask(load(file), length(7999), length(8000), length(48001), time(8))
        self.assertEqual(told, [[1], [-8], [10], [-8], [0, 1000]])


class TooLong(unittest.TestCase):
    def test_2_to_the_31_less_1(self):
        file = song_of_ticks(2 ** 31 - 1, 4000)
        self.assertEqual(lengths(file, 8000, 8001, 16000, 48000), [2147483647, -7, -7, -7])

    def test_2_to_the_31(self):
        self.assertEqual(lengths(song_of_ticks(2 ** 30, 2000), 8000), [-7])
        self.assertEqual(lengths(song_of_ticks(2 ** 30 - 1, 2000), 8000), [2147483646])

    def test_between_the_two(self):
        # 2^31 - 16 samples, then ticks of a quarter of a sample each.
        for last, answer in ((59, 2147483646), (60, 2147483647), (63, 2147483647), (64, -7), (65, -7)):
            with self.subTest(last=last):
                body = after(2 ** 30 - 8, [0xFF, 0x51, 3] + number(62500, 3)) + after(last, END_OF_TRACK)
                self.assertEqual(lengths(song(chunk(body), quarter=2000), 8000), [answer])

    def test_as_long_as_can_be(self):
        body = [0, 0xFF, 0x51, 3, 255, 255, 255] + after(2 ** 31 - 1, END_OF_TRACK)
        self.assertEqual(lengths(song(chunk(body), quarter=1), 8000, 48000), [-7, -7])

    def test_a_wrong_rate_goes_ahead(self):
        file = song_of_ticks(2 ** 31 - 1, 1)
        self.assertEqual(lengths(file, 7999, 48001, 0, -1, 8000), [-8, -8, -8, -8, -7])

    def test_nothing_changes(self):
        file = song_of_ticks(2 ** 31 - 1, 1)
        told = ask(load(file), length(8000), time(2), length(8000), BEGIN, length(8000), length(0))
        self.assertEqual(told, [[9], [-7], [0, 1000000], [-7], [0], [-9], [-9]])


if __name__ == "__main__":
    unittest.main()

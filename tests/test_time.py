"""Promise 7: the tempos, and the time of a tick."""

import unittest

from tests.helper import END, ask, chunk, load, loaded, render, length, song, tempo, time, track

NOTE = [0, 0x90, 60, 100]
LAST_TICK = 2 ** 32 - 1


def times(file, *ticks):
    rows = ask(load(file), *[time(tick) for tick in ticks])[1:]
    if any(len(row) != 2 or row[0] != 0 for row in rows):
        raise AssertionError(rows)
    return [row[1] for row in rows]


class WithoutATempo(unittest.TestCase):
    def test_500000(self):
        file = song(track(NOTE), quarter=96)
        self.assertEqual(times(file, 0, 1, 2, 95, 96, 97, 960), [0, 5208, 10416, 494791, 500000, 505208, 5000000])

    def test_the_division(self):
        for quarter in (1, 2, 3, 7, 255, 256, 480, 32767):
            with self.subTest(quarter=quarter):
                wanted = [tick * 500000 // quarter for tick in (1, 2, 3, 1000, LAST_TICK)]
                self.assertEqual(times(song(track(), quarter=quarter), 1, 2, 3, 1000, LAST_TICK), wanted)

    def test_the_first_and_the_last_tick(self):
        file = song(track(), quarter=96)
        self.assertEqual(times(file, 0, LAST_TICK - 1, LAST_TICK), [0, 22369621322916, 22369621328125])

    def test_laid_as_0_and_the_time(self):
        self.assertEqual(ask(load(song(track())), time(0), time(96)), [[1], [0, 0], [0, 500000]])


class OneTempo(unittest.TestCase):
    def test_before_at_and_behind_its_tick(self):
        file = song(track(tempo(10, 96000)), quarter=96)
        self.assertEqual(times(file, 0, 9, 10, 11, 12, 100),
                         [0, 46875, 52083, 53083, 54083, 52083 + 90000])

    def test_at_the_beginning(self):
        self.assertEqual(times(song(track(tempo(0, 192)), quarter=96), 0, 1, 2, 1000), [0, 2, 4, 2000])

    def test_it_holds_behind_the_last_event(self):
        file = song(track(tempo(0, 1000), tempo(5, 3000)), quarter=1)
        self.assertEqual(times(file, 5, 6, 7, LAST_TICK), [5000, 8000, 11000, 5000 + (LAST_TICK - 5) * 3000])

    def test_the_last_tempo_may_stand_before_the_last_event(self):
        file = song(track(tempo(2, 7), [9, 0x90, 60, 1], [9, 0x80, 60, 1]), quarter=1)
        self.assertEqual(times(file, 2, 3, 10, 11, 12, 20, 21), [1000000 + 7 * k for k in (0, 1, 8, 9, 10, 18, 19)])

    def test_the_least_and_the_greatest(self):
        self.assertEqual(times(song(track(tempo(0, 1)), quarter=32767), 32766, 32767, LAST_TICK), [0, 1, 131076])
        file = song(track(tempo(0, 16777215)), quarter=1)
        self.assertEqual(times(file, 1, LAST_TICK), [16777215, 16777215 * LAST_TICK])

    def test_all_three_bytes_count(self):
        for value in (0x010000, 0x000100, 0x000001, 0x123456, 0x800000, 0x0080FF):
            with self.subTest(value=value):
                self.assertEqual(times(song(track(tempo(0, value)), quarter=1), 1, 3), [value, 3 * value])


class SeveralTempos(unittest.TestCase):
    def test_the_sum_is_divided_once(self):
        file = song(track(tempo(0, 3), tempo(1, 5), tempo(1, 4)), quarter=7)
        # The sums: 0, 3, 8, 12, 16, 20, 24, 28.
        self.assertEqual(times(file, 0, 1, 2, 3, 4, 5, 6, 7), [0, 0, 1, 1, 2, 2, 3, 4])

    def test_at_one_tick_in_one_track(self):
        file = song(track(tempo(4, 10), tempo(0, 30), tempo(0, 20)), quarter=1)
        self.assertEqual(times(file, 4, 5, 6), [2000000, 2000020, 2000040])

    def test_at_one_tick_at_the_beginning(self):
        file = song(track(tempo(0, 10), NOTE, tempo(0, 30)), quarter=1)
        self.assertEqual(times(file, 0, 1, 2), [0, 30, 60])

    def test_at_one_tick_in_several_tracks(self):
        file = song(track(tempo(4, 10)), track(tempo(4, 30)), track(tempo(1, 5), tempo(3, 20)), quarter=1)
        self.assertEqual(times(file, 1, 2, 4, 5, 6), [500000, 500005, 500015, 500035, 500055])

    def test_an_earlier_track_with_two_at_the_tick(self):
        file = song(track(), track(tempo(3, 8), tempo(0, 9)), track(tempo(2, 7), tempo(1, 6)), quarter=1)
        self.assertEqual(times(file, 2, 3, 4, 5), [1000000, 1000007, 1000013, 1000019])

    def test_told_in_any_track(self):
        file = song(track(tempo(10, 100)), track(tempo(5, 1), tempo(10, 3)), track(NOTE), quarter=1)
        wanted = [2500000, 2500001, 2500005, 2500105, 2500505, 2500508, 2500520]
        self.assertEqual(times(file, 5, 6, 10, 11, 15, 16, 20), wanted)

    def test_many(self):
        events = [tempo(1, 1 + number) for number in range(3000)]
        file = song(track(*events), quarter=1)
        for tick in (0, 1, 2, 3, 1499, 1500, 1501, 2999, 3000, 3001, 5000):
            with self.subTest(tick=tick):
                wanted = sum(500000 if k == 0 else min(k, 3000) for k in range(tick))
                self.assertEqual(times(file, tick), [wanted])

    def test_other_events_tell_none(self):
        body = [0, 0xF0, 4, 0x51, 0, 0, 1] + [0, 0xF7, 4, 0x51, 0, 0, 1] + [0, 0xFF, 0x50, 3, 0, 0, 1]
        body += [0, 0xFF, 0x52, 3, 0, 0, 1] + [0, 0xFF, 1, 4, 0x51, 0, 0, 1] + [0, 0xB0, 0x51, 3] + [0, 0xC0, 0x51]
        file = song(chunk(body + END), quarter=1)
        self.assertEqual(loaded(file), 8)
        self.assertEqual(times(file, 1, 2), [500000, 1000000])


class Asked(unittest.TestCase):
    def test_in_any_order_and_twice(self):
        file = song(track(tempo(10, 1)), quarter=1)
        self.assertEqual(times(file, 12, 3, 12, 0, 3), [5000002, 1500000, 5000002, 0, 1500000])

    def test_between_other_calls(self):
        file = song(track(tempo(10, 1)), quarter=1)
        told = ask(load(file), time(11), length(7999), time(11), render(8000, -1, 0), time(11), render(8000, 0, 0),
                   time(11))
        self.assertEqual(told, [[2], [0, 5000001], [-8], [0, 5000001], [-8], [0, 5000001], [0], [0, 5000001]])

    def test_another_song_in_its_place(self):
        first = song(track(tempo(0, 7)), quarter=1)
        second = song(track(), quarter=2)
        told = ask(time(1), load(first), time(1), load(second), time(1), load([]), time(1))
        self.assertEqual(told, [[-9], [2], [0, 7], [1], [0, 250000], [-1], [-9]])


if __name__ == "__main__":
    unittest.main()

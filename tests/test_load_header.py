"""Promise 2: load's answer, its refusals by the header, and their order."""

import unittest

from tests.helper import BEGIN, END, ask, chunk, event, header, load, loaded, number, song, track
from songsamples.song import answers

NOTE = [0, 0x90, 60, 100]


def song_of_events(count):
    """One track of so many events, the end of track among them, two bytes for most of them."""
    return song(chunk([0, 0xC0, 1] + [0, 1] * (count - 2) + END))


def changed(file, place, values):
    return file[:place] + values + file[place + len(values):]


class LoadAnswers(unittest.TestCase):
    def test_kind_0(self):
        self.assertEqual(loaded(song(track())), 1)
        self.assertEqual(loaded(song(track(NOTE, NOTE))), 3)

    def test_kind_1_counts_all_tracks(self):
        self.assertEqual(loaded(song(track(NOTE), track(), track(NOTE, NOTE))), 6)

    def test_the_later_song_is_kept(self):
        told = ask(load(song(track(NOTE))), load(song(track())), event(0), event(1))
        self.assertEqual(told, [[2], [1], [0xFF, 0, 0, 1, 0x2F, 0], [-1]])


class TheBeginning(unittest.TestCase):
    def test_fewer_than_14_bytes(self):
        whole = song(track())
        for size in range(14):
            with self.subTest(size=size):
                self.assertEqual(loaded(whole[:size]), -1)

    def test_14_bytes_are_a_header(self):
        self.assertEqual(loaded(header()), -4)

    def test_each_byte_of_the_mark_and_of_the_6(self):
        whole = song(track())
        for place in range(8):
            for value in (whole[place] ^ 1, whole[place] ^ 32, whole[place] ^ 128):
                with self.subTest(place=place, value=value):
                    self.assertEqual(loaded(changed(whole, place, [value])), -1)

    def test_a_longer_header_is_none(self):
        self.assertEqual(loaded(changed(song(track()), 4, number(7, 4))), -1)


class KindAndTracks(unittest.TestCase):
    def test_kinds(self):
        for kind, answer in ((0, 1), (1, 1), (2, -2), (3, -2), (256, -2), (257, -2), (65535, -2)):
            with self.subTest(kind=kind):
                self.assertEqual(loaded(song(track(), kind=kind)), answer)

    def test_kind_1_has_1_to_64_tracks(self):
        for count, answer in ((0, -2), (1, 1), (2, 2), (63, 63), (64, 64), (65, -2), (256, -2)):
            with self.subTest(count=count):
                self.assertEqual(loaded(song(*[track()] * count, kind=1)), answer)

    def test_the_count_has_16_bits(self):
        for count in (257, 320, 32769, 65535):
            with self.subTest(count=count):
                self.assertEqual(loaded(header(1, count) + track()), -2)

    def test_kind_0_has_1_track(self):
        for count, answer in ((0, -2), (1, 1), (2, -2), (64, -2), (65, -2)):
            with self.subTest(count=count):
                self.assertEqual(loaded(song(*[track()] * count, kind=0)), answer)


class Quarter(unittest.TestCase):
    def test_ticks_of_a_quarter(self):
        cases = ((0, -3), (1, 1), (255, 1), (256, 1), (32767, 1), (32768, -3), (32769, -3), (65535, -3))
        for quarter, answer in cases:
            with self.subTest(quarter=quarter):
                self.assertEqual(loaded(song(track(), quarter=quarter)), answer)


class HowManyEvents(unittest.TestCase):
    def test_as_many_as_a_list_of_the_interface_holds(self):
        file = song_of_events(14936)
        self.assertLessEqual(len(file), 29900)
        self.assertEqual(ask(load(file), event(14935), event(14936)),
                         [[14936], [0xFF, 0, 0, 1, 0x2F, 0], [-1]])

    def test_32768_and_more(self):
        self.assertEqual(loaded(song_of_events(32767)), 32767)
        self.assertEqual(loaded(song_of_events(32768)), 32768)
        self.assertEqual(loaded(song_of_events(32769)), -5)
        self.assertEqual(loaded(song_of_events(40000)), -5)

    def test_all_tracks_are_counted_together(self):
        half = chunk([0, 0xC0, 1] + [0, 1] * 16382 + END)
        self.assertEqual(loaded(song(half, half)), 32768)
        self.assertEqual(loaded(song(half, half, track())), -5)


class TheFirstThatHolds(unittest.TestCase):
    def test_two_at_once(self):
        many = song_of_events(32769)
        cases = (
            ("-1 and -2", changed(header(2, 0, 0), 3, [0]) + track(), -1),
            ("-1 by its size and -2", header(2, 0, 0)[:13], -1),
            ("-1 and -4", changed(header(), 7, [7]), -1),
            ("-2 and -3", header(2, 1, 0) + track(), -2),
            ("-2 by the tracks and -3", header(1, 65, 32768) + track(), -2),
            ("-2 and -4", header(0, 2) + track(), -2),
            ("-3 and -4", header(1, 1, 0) + [1], -3),
            ("-3 and -5", changed(many, 12, [128, 0]), -3),
            ("-4 and -5, a byte behind", many + [0], -4),
            ("-4 and -5, in the last event", many[:-1] + [1], -4),
        )
        for name, file, answer in cases:
            with self.subTest(name):
                self.assertEqual(loaded(file), answer)


class HowManyBytes(unittest.TestCase):
    def test_262144_bytes_are_read(self):
        size = 262144 - 14 - 8 - len(END) - 5
        file = song(chunk([0, 0xF0, 0x80 + (size >> 14), 0x80 + (size >> 7) % 128, size % 128]
                          + [5] * size + END))
        self.assertEqual(len(file), 262144)
        self.assertEqual(ask(load(file), event(0)), [[2], [0xF0, 0, 0, size, 5, 5]])

    def test_out_of_range_there_is_no_file_and_nothing_changes(self):
        for size in (-1, -2147483648, 262145, 2147483647):
            with self.subTest(size=size):
                told = ask(load(song(track(NOTE))), [1, size], event(0), BEGIN, [1, size], event(0))
                self.assertEqual(told, [[2], [-8], [0x90, 0, 0, 2, 60, 100], [0], [-8], [-9]])

    def test_no_bytes(self):
        self.assertEqual(answers([1, 0]), [1, -1])


if __name__ == "__main__":
    unittest.main()

"""Promises 3 and 5: the chunks of a file, where a track ends, long numbers and ticks."""

import unittest

from tests.helper import END, ask, chunk, event, header, load, loaded, loaded_track, long_number, number, song, track

NOTE = [0, 0x90, 60, 100]
END_OF_TRACK = [0xFF, 0x2F, 0]
LONGEST = [0xFF, 0xFF, 0xFF, 0x7F]


class Chunks(unittest.TestCase):
    def test_a_byte_behind_the_last_track(self):
        for behind in ([0], [255], list(b"MTrk"), track(), list(b"XFIH") + number(0, 4)):
            with self.subTest(behind=behind):
                self.assertEqual(loaded(song(track(NOTE)) + behind), -4)

    def test_fewer_tracks_than_told(self):
        self.assertEqual(loaded(header(1, 1)), -4)
        self.assertEqual(loaded(header(1, 3) + track() * 2), -4)
        self.assertEqual(loaded(header(1, 3) + track() * 3), 3)

    def test_each_byte_of_the_mark(self):
        for first in (14, 14 + len(track())):
            for place in range(first, first + 4):
                with self.subTest(place=place):
                    file = song(track(), track())
                    file[place] ^= 32
                    self.assertEqual(loaded(file), -4)

    def test_nothing_stands_between_two_tracks(self):
        self.assertEqual(loaded(header(1, 2) + track() + [0] + track()), -4)
        self.assertEqual(loaded(header(1, 2) + track() + list(b"XFIH") + number(0, 4) + track()), -4)
        self.assertEqual(loaded(header(1, 2) + [0] + track() + track()), -4)

    def test_a_file_cut_anywhere(self):
        file = song(track(NOTE), track([0, 0xFF, 1, 2, 65, 66], [0, 0xF0, 1, 0xF7]))
        self.assertEqual(loaded(file), 5)
        for size in range(14, len(file)):
            with self.subTest(size=size):
                self.assertEqual(loaded(file[:size]), -4)

    def test_a_size_that_is_too_small_or_too_large(self):
        body = NOTE + END
        for size in (0, 4, len(body) - 1, len(body) + 1, len(body) + 65536, 2 ** 31, 2 ** 32 - 1):
            with self.subTest(size=size):
                self.assertEqual(loaded(header() + list(b"MTrk") + number(size, 4) + body), -4)

    def test_the_size_has_32_bits(self):
        for size, answer in ((300, 2), (20000, 2)):
            with self.subTest(size=size):
                body = [0, 0xF0] + long_number(size) + [1] * size + END
                self.assertEqual(loaded_track(body), answer)

    def test_a_track_does_not_read_on_into_the_next(self):
        last = track()
        short = list(b"MTrk") + number(len(NOTE), 4) + NOTE
        self.assertEqual(loaded(header(1, 2) + short + END + last), -4)
        # The first track's last event takes in the whole of the second.
        body = [0, 0xFF, 1, len(last)]
        self.assertEqual(loaded(header(1, 2) + chunk(body) + last), -4)


class WhereATrackEnds(unittest.TestCase):
    def test_an_end_of_track_alone(self):
        self.assertEqual(loaded_track(END), 1)

    def test_too_early(self):
        for body in ([], NOTE, NOTE + [0], NOTE + END[:1], NOTE + END[:2], NOTE + END[:3]):
            with self.subTest(body=body):
                self.assertEqual(loaded_track(body), -4)

    def test_too_late(self):
        for behind in ([0], NOTE, END, [0x2F], END + NOTE):
            with self.subTest(behind=behind):
                self.assertEqual(loaded_track(NOTE + END + behind), -4)

    def test_none_stands_before_the_last_event(self):
        self.assertEqual(loaded_track(END + END), -4)
        self.assertEqual(loaded_track(END + NOTE + END), -4)

    def test_the_end_has_a_tick_of_its_own(self):
        told = ask(load(song(chunk(NOTE + [7] + END_OF_TRACK))), event(1))
        self.assertEqual(told, [[2], [0xFF, 7, 0, 1, 0x2F, 0]])


class LongNumbers(unittest.TestCase):
    def test_their_values(self):
        cases = (
            ([0], 0), ([0x40], 64), ([0x7F], 127),
            ([0x81, 0], 128), ([0xC0, 0], 8192), ([0xFF, 0x7F], 16383),
            ([0x81, 0x80, 0], 16384), ([0xFF, 0xFF, 0x7F], 2097151),
            ([0x81, 0x80, 0x80, 0], 2097152), ([0x92, 0xB4, 0xD6, 0x78], 0x12 << 21 | 0x34 << 14 | 0x56 << 7 | 0x78),
            (LONGEST, 268435455),
            ([0x80, 0], 0), ([0x80, 0x80, 0x80, 0], 0), ([0x80, 0x80, 0x80, 1], 1),
        )
        for written, value in cases:
            with self.subTest(written=written):
                told = ask(load(song(chunk(written + END_OF_TRACK))), event(0))
                self.assertEqual(told, [[1], [0xFF, value, 0, 1, 0x2F, 0]])

    def test_four_bytes_at_the_most(self):
        for written in ([0x80, 0x80, 0x80, 0x80, 0], [0xFF, 0xFF, 0xFF, 0xFF, 0x7F], [0x81, 0x80, 0x80, 0x80, 0]):
            with self.subTest(written=written):
                self.assertEqual(loaded_track(written + END_OF_TRACK), -4)

    def test_those_that_count_bytes_too(self):
        for before in ([0, 0xFF, 1], [0, 0xF0], [0, 0xF7]):
            with self.subTest(before=before):
                self.assertEqual(loaded_track(before + [0x80, 0x80, 0x80, 1, 9] + END), 2)
                self.assertEqual(loaded_track(before + [0x80, 0x80, 0x80, 0x80, 1, 9] + END), -4)
                self.assertEqual(loaded_track(before + [0x81, 0] + [9] * 128 + END), 2)
                self.assertEqual(loaded_track(before + [0x81, 0] + [9] * 127 + END), -4)
                self.assertEqual(loaded_track(before + LONGEST + END), -4)

    def test_one_that_the_track_cuts(self):
        for body in ([0x80], [0x81, 0x80], [0x81, 0x80, 0x80], [0, 0xFF, 1, 0x80], [0, 0xF0], [0, 0xF7, 0x81]):
            with self.subTest(body=body):
                self.assertEqual(loaded_track(body), -4)
                self.assertEqual(loaded_track(NOTE + body), -4)


class Ticks(unittest.TestCase):
    def far_track(self, last):
        """Eight notes as far from one another as can be, at 2^31 - 8 the last; then the end of track."""
        return chunk((LONGEST + NOTE[1:]) * 8 + [last] + END_OF_TRACK)

    def test_up_to_2_to_the_31_less_1(self):
        told = ask(load(song(self.far_track(7))), event(7), event(8))
        self.assertEqual(told, [[9], [0x90, 2 ** 31 - 8, 0, 2, 60, 100], [0xFF, 2 ** 31 - 1, 0, 1, 0x2F, 0]])

    def test_2_to_the_31_and_more(self):
        for last in (8, 9, 127):
            with self.subTest(last=last):
                self.assertEqual(loaded(song(self.far_track(last))), -4)

    def test_of_a_message_too(self):
        self.assertEqual(loaded_track((LONGEST + NOTE[1:]) * 8 + [7] + NOTE[1:] + END), 10)
        self.assertEqual(loaded_track((LONGEST + NOTE[1:]) * 8 + [8] + NOTE[1:] + END), -4)

    def test_each_track_counts_its_own(self):
        told = ask(load(song(self.far_track(7), self.far_track(7))), event(17))
        self.assertEqual(told, [[18], [0xFF, 2 ** 31 - 1, 1, 1, 0x2F, 0]])
        self.assertEqual(loaded(song(track(), self.far_track(8))), -4)


if __name__ == "__main__":
    unittest.main()

"""Promise 4: the events of a track, as load takes them or refuses them."""

import unittest

from tests.helper import END, ask, chunk, event, load, loaded, loaded_track, song, track

NOTE = [0, 0x90, 60, 100]
OTHER_KINDS = ([0, 0xFF, 1, 0], [0, 0xFF, 0x51, 3, 7, 161, 32], [0, 0xF0, 1, 0xF7], [0, 0xF7, 0])


def first_event(body):
    told = ask(load(song(chunk(body + END))), event(0))
    return told[1]


class Messages(unittest.TestCase):
    def test_each_status_and_how_many_bytes_it_has(self):
        for status in range(0x80, 0xF0):
            with self.subTest(status=status):
                if 0xC0 <= status <= 0xDF:
                    self.assertEqual(first_event([0, status, 5]), [status, 0, 0, 1, 5, 0])
                    self.assertEqual(loaded_track([0, status] + END), -4)
                else:
                    self.assertEqual(first_event([0, status, 5, 6]), [status, 0, 0, 2, 5, 6])
                    self.assertEqual(loaded_track([0, status, 5] + END), -4)

    def test_bytes_of_127_and_of_128(self):
        for status in (0x80, 0x9F, 0xA1, 0xB2, 0xE3, 0xEF):
            with self.subTest(status=status):
                self.assertEqual(loaded_track([0, status, 127, 127] + END), 2)
                for high in (128, 200, 255):
                    self.assertEqual(loaded_track([0, status, high, 0] + END), -4)
                    self.assertEqual(loaded_track([0, status, 0, high] + END), -4)
        for status in (0xC0, 0xCF, 0xD0, 0xDF):
            with self.subTest(status=status):
                self.assertEqual(loaded_track([0, status, 127] + END), 2)
                self.assertEqual(loaded_track([0, status, 128] + END), -4)
                self.assertEqual(loaded_track([0, status, 255] + END), -4)

    def test_a_message_that_the_track_cuts(self):
        for body in ([0, 0x90], [0, 0x90, 60], [0, 0xC0], NOTE + [0, 60]):
            with self.subTest(body=body):
                self.assertEqual(loaded_track(body), -4)

    def test_other_statuses_are_no_events(self):
        for status in list(range(0xF1, 0xF7)) + list(range(0xF8, 0xFF)):
            for behind in ([], [0], [1, 1], [0x2F, 0]):
                with self.subTest(status=status, behind=behind):
                    self.assertEqual(loaded_track([0, status] + behind + END), -4)


class StatusLeftOut(unittest.TestCase):
    def test_behind_a_message(self):
        told = ask(load(song(track(NOTE, [1, 62, 0], [2, 64, 127]))), event(1), event(2))
        self.assertEqual(told, [[4], [0x90, 1, 0, 2, 62, 0], [0x90, 3, 0, 2, 64, 127]])

    def test_behind_a_message_of_one_byte(self):
        told = ask(load(song(track([0, 0xC3, 7], [1, 8], [1, 0]))), event(1), event(2))
        self.assertEqual(told, [[4], [0xC3, 1, 0, 1, 8, 0], [0xC3, 2, 0, 1, 0, 0]])

    def test_it_is_the_last_message_s(self):
        told = ask(load(song(track(NOTE, [0, 61, 1], [0, 0xD1, 5], [0, 6]))), event(1), event(3))
        self.assertEqual(told, [[5], [0x90, 0, 0, 2, 61, 1], [0xD1, 0, 0, 1, 6, 0]])

    def test_any_byte_below_128_stands_in_its_place(self):
        for first in range(128):
            with self.subTest(first=first):
                told = ask(load(song(track(NOTE, [0, first, 5]))), event(1))
                self.assertEqual(told, [[3], [0x90, 0, 0, 2, first, 5]])

    def test_its_second_byte_is_below_128_too(self):
        self.assertEqual(loaded_track(NOTE + [0, 61, 127] + END), 3)
        self.assertEqual(loaded_track(NOTE + [0, 61, 128] + END), -4)

    def test_not_over_an_event_of_another_kind(self):
        for other in OTHER_KINDS:
            with self.subTest(other=other):
                self.assertEqual(loaded_track(NOTE + other + NOTE + END), 4)
                self.assertEqual(loaded_track(NOTE + other + [0, 61, 1] + END), -4)
                self.assertEqual(loaded_track(NOTE + other + NOTE + [0, 61, 1] + END), 5)

    def test_an_event_of_another_kind_lends_no_status(self):
        for other in OTHER_KINDS:
            for behind in ([0, 0], [0, 1, 9], [0, 1, 0], [0, 2, 9, 9], [0, 1, 1, 9]):
                with self.subTest(other=other, behind=behind):
                    self.assertEqual(loaded_track(other + behind + END), -4)
                    self.assertEqual(loaded_track(NOTE + other + behind + END), -4)

    def test_not_behind_an_event_of_another_kind_alone(self):
        for other in OTHER_KINDS:
            with self.subTest(other=other):
                self.assertEqual(loaded_track(other + [0, 61, 1] + END), -4)

    def test_not_at_the_beginning(self):
        self.assertEqual(loaded_track([0, 60, 100] + END), -4)
        self.assertEqual(loaded_track([0, 0] + END), -4)

    def test_not_at_the_beginning_of_a_later_track(self):
        self.assertEqual(loaded(song(track(NOTE), track([0, 60, 100]))), -4)
        self.assertEqual(loaded(song(track(NOTE), track(NOTE, [0, 60, 100]))), 5)


class OtherEvents(unittest.TestCase):
    def test_a_meta_event_s_kind_is_below_128(self):
        for kind in range(128):
            if kind not in (0x2F, 0x51):
                with self.subTest(kind=kind):
                    self.assertEqual(first_event([0, 0xFF, kind, 0]), [0xFF, 0, 0, 1, kind, 0])
                    self.assertEqual(first_event([0, 0xFF, kind, 3, 200, 255, 0]), [0xFF, 0, 0, 4, kind, 200])
        for kind in (128, 0xAF, 0xD1, 255):
            with self.subTest(kind=kind):
                self.assertEqual(loaded_track([0, 0xFF, kind, 0] + END), -4)
                self.assertEqual(loaded_track([0, 0xFF, kind, 3, 1, 1, 1] + END), -4)

    def test_events_with_a_long_number(self):
        for status in (0xF0, 0xF7):
            with self.subTest(status=status):
                self.assertEqual(first_event([0, status, 0]), [status, 0, 0, 0, 0, 0])
                self.assertEqual(first_event([0, status, 1, 255]), [status, 0, 0, 1, 255, 0])
                self.assertEqual(first_event([0, status, 3, 255, 254, 1]), [status, 0, 0, 3, 255, 254])

    def test_one_byte_too_many_or_too_few(self):
        for before in ([0, 0xFF, 1], [0, 0xF0], [0, 0xF7]):
            with self.subTest(before=before):
                self.assertEqual(loaded_track(before + [2, 9, 9] + END), 2)
                self.assertEqual(loaded_track(before + [2, 9] + END), -4)
                self.assertEqual(loaded_track(before + [2, 9, 9, 9] + END), -4)

    def test_more_bytes_than_the_track_has(self):
        for before in ([0, 0xFF, 1], [0, 0xF0], [0, 0xF7]):
            with self.subTest(before=before):
                self.assertEqual(loaded_track(before + [3, 9, 9]), -4)
                self.assertEqual(loaded_track(before), -4)
        self.assertEqual(loaded_track([0, 0xFF]), -4)

    def test_end_of_track_has_no_bytes(self):
        for size in range(1, 8):
            with self.subTest(size=size):
                self.assertEqual(loaded_track([0, 0xFF, 0x2F, size] + [0] * size), -4)
                self.assertEqual(loaded_track([0, 0xFF, 0x2F, size] + [0] * size + END), -4)

    def test_a_size_of_0_in_several_bytes(self):
        self.assertEqual(loaded_track([0, 0xFF, 0x2F, 0x80, 0]), 1)
        self.assertEqual(loaded_track([0, 0xFF, 0x2F, 0x80, 0x80, 0x80, 0]), 1)

    def test_the_bytes_of_an_end_of_track_within_another_event(self):
        self.assertEqual(loaded_track([0, 0xFF, 1, 4] + END + END), 2)
        self.assertEqual(loaded_track([0, 0xF0, 4] + END + END), 2)
        self.assertEqual(loaded_track([0, 0xFF, 1, 1, 0x2F] + END), 2)
        self.assertEqual(loaded_track([0, 0xF0, 1, 0x2F] + END), 2)
        self.assertEqual(loaded_track([0, 0xF7, 1, 0x2F] + [0, 0x90, 0x2F, 0] + [0, 0xC0, 0x2F] + END), 4)


class Tempo(unittest.TestCase):
    def test_three_bytes(self):
        for size in range(8):
            with self.subTest(size=size):
                answer = 2 if size == 3 else -4
                self.assertEqual(loaded_track([0, 0xFF, 0x51, size] + [1] * size + END), answer)

    def test_not_all_0(self):
        self.assertEqual(loaded_track([0, 0xFF, 0x51, 3, 0, 0, 0] + END), -4)
        for tempo in ([1, 0, 0], [0, 1, 0], [0, 0, 1], [128, 0, 0], [255, 255, 255]):
            with self.subTest(tempo=tempo):
                self.assertEqual(first_event([0, 0xFF, 0x51, 3] + tempo), [0xFF, 0, 0, 4, 0x51, tempo[0]])

    def test_in_any_track(self):
        self.assertEqual(loaded(song(track(), track([0, 0xFF, 0x51, 3, 0, 0, 0]))), -4)
        self.assertEqual(loaded(song(track(), track([0, 0xFF, 0x51, 3, 0, 0, 2]))), 3)


if __name__ == "__main__":
    unittest.main()

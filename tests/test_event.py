"""Promise 6: the order of the events, what event answers of each, and its refusals."""

import unittest

from tests.helper import END, ask, chunk, event, events_of, load, long_number, song, track

META_END = [0xFF, 0x2F, 0]


class Order(unittest.TestCase):
    def test_kind_0_as_they_stand(self):
        file = song(track([0, 0xC0, 5], [0, 0x90, 60, 100], [96, 0x80, 60, 64], [0, 0x90, 62, 1]))
        self.assertEqual(events_of(file, 5), [
            [0xC0, 0, 0, 1, 5, 0],
            [0x90, 0, 0, 2, 60, 100],
            [0x80, 96, 0, 2, 60, 64],
            [0x90, 96, 0, 2, 62, 1],
            [0xFF, 96, 0, 1, 0x2F, 0],
        ])

    def test_kind_1_by_their_ticks(self):
        file = song(
            chunk([10, 0x90, 1, 1, 10, 0x90, 2, 2, 10] + META_END),
            chunk([5, 0x91, 3, 3, 10, 0x91, 4, 4, 10] + META_END),
            chunk([1] + META_END),
        )
        self.assertEqual(events_of(file, 7), [
            [0xFF, 1, 2, 1, 0x2F, 0],
            [0x91, 5, 1, 2, 3, 3],
            [0x90, 10, 0, 2, 1, 1],
            [0x91, 15, 1, 2, 4, 4],
            [0x90, 20, 0, 2, 2, 2],
            [0xFF, 25, 1, 1, 0x2F, 0],
            [0xFF, 30, 0, 1, 0x2F, 0],
        ])

    def test_the_same_tick_in_several_tracks(self):
        file = song(
            chunk([4, 0x9F, 9, 9, 0, 0x80, 8, 8, 3] + META_END),
            chunk([2, 0x90, 7, 7, 2, 0x90, 6, 6, 0, 0x90, 5, 5, 0] + META_END),
            chunk([4, 0x80, 4, 4, 0] + META_END),
        )
        self.assertEqual(events_of(file, 9), [
            [0x90, 2, 1, 2, 7, 7],
            [0x9F, 4, 0, 2, 9, 9],
            [0x80, 4, 0, 2, 8, 8],
            [0x90, 4, 1, 2, 6, 6],
            [0x90, 4, 1, 2, 5, 5],
            [0xFF, 4, 1, 1, 0x2F, 0],
            [0x80, 4, 2, 2, 4, 4],
            [0xFF, 4, 2, 1, 0x2F, 0],
            [0xFF, 7, 0, 1, 0x2F, 0],
        ])

    def test_64_tracks_at_one_tick(self):
        file = song(*[track([0, 0x90, 63 - number, 64]) for number in range(64)])
        wanted = []
        for number in range(64):
            wanted.append([0x90, 0, number, 2, 63 - number, 64])
            wanted.append([0xFF, 0, number, 1, 0x2F, 0])
        self.assertEqual(events_of(file, 128), wanted)

    def test_many_events_in_many_tracks(self):
        rows = []
        tracks = []
        step = 1
        for number in range(40):
            body = []
            tick = 0
            for place in range(30):
                step = (step * 75 + 74) % 65537
                ticks = (0, 0, 1, 2, 130, 20000)[step % 6]
                tick += ticks
                status = 0x80 + step % 0x40
                body += long_number(ticks) + [status, place, step % 128]
                rows.append((tick, number, place, [status, tick, number, 2, place, step % 128]))
            rows.append((tick, number, 30, [0xFF, tick, number, 1, 0x2F, 0]))
            tracks.append(chunk(body + END))
        wanted = [row[3] for row in sorted(rows)]
        self.assertEqual(events_of(song(*tracks), len(wanted)), wanted)


class SixNumbers(unittest.TestCase):
    def check(self, body, wanted):
        told = ask(load(song(track(), track([3, 0x90, 1, 1], [4] + body))), event(2))
        self.assertEqual(told, [[4], [wanted[0], 7, 1] + wanted[1:]])

    def test_messages(self):
        self.check([0x85, 60, 64], [0x85, 2, 60, 64])
        self.check([0x90, 127, 0], [0x90, 2, 127, 0])
        self.check([0xA1, 0, 127], [0xA1, 2, 0, 127])
        self.check([0xBF, 7, 100], [0xBF, 2, 7, 100])
        self.check([0xC9, 12], [0xC9, 1, 12, 0])
        self.check([0xD0, 127], [0xD0, 1, 127, 0])
        self.check([0xE2, 1, 2], [0xE2, 2, 1, 2])

    def test_a_message_whose_status_is_left_out(self):
        self.check([61, 99], [0x90, 2, 61, 99])

    def test_meta_events_count_their_kind(self):
        self.check([0xFF, 3, 0], [0xFF, 1, 3, 0])
        self.check([0xFF, 0x20, 1, 9], [0xFF, 2, 0x20, 9])
        self.check([0xFF, 0, 2, 8, 9], [0xFF, 3, 0, 8])
        self.check([0xFF, 0x51, 3, 7, 161, 32], [0xFF, 4, 0x51, 7])
        self.check([0xFF, 0x7F, 0x81, 0] + [200] * 128, [0xFF, 129, 0x7F, 200])

    def test_events_with_a_long_number(self):
        self.check([0xF0, 0], [0xF0, 0, 0, 0])
        self.check([0xF0, 1, 0xF7], [0xF0, 1, 0xF7, 0])
        self.check([0xF0, 3, 0x43, 0x12, 0xF7], [0xF0, 3, 0x43, 0x12])
        self.check([0xF7, 2, 0xF3, 1], [0xF7, 2, 0xF3, 1])
        self.check([0xF7, 0x82, 0x2C] + [5] * 300, [0xF7, 300, 5, 5])

    def test_the_end_of_track(self):
        told = ask(load(song(chunk([0x83, 0x60] + META_END))), event(0))
        self.assertEqual(told, [[1], [0xFF, 480, 0, 1, 0x2F, 0]])


class Refusals(unittest.TestCase):
    def test_no_such_event(self):
        file = song(track([0, 0x90, 1, 1]), track())
        told = ask(load(file), event(2), event(3), event(4), event(2147483647))
        self.assertEqual(told, [[3], [0xFF, 0, 1, 1, 0x2F, 0], [-1], [-1], [-1]])

    def test_below_0(self):
        file = song(track([0, 0x90, 1, 1]))
        told = ask(load(file), event(-1), event(-2), event(-3), event(-2147483648))
        self.assertEqual(told, [[2], [-8], [-8], [-8], [-8]])

    def test_nothing_changes(self):
        file = song(track([0, 0x90, 1, 1]))
        told = ask(load(file), event(-1), event(0), event(2), event(0))
        self.assertEqual(told, [[2], [-8], [0x90, 0, 0, 2, 1, 1], [-1], [0x90, 0, 0, 2, 1, 1]])

    def test_without_a_song_goes_ahead(self):
        self.assertEqual(ask(event(-1), event(0), event(9)), [[-9], [-9], [-9]])


if __name__ == "__main__":
    unittest.main()

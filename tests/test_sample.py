"""Promise 11: a sample: the notes put together, left and right, the controllers 7 and 10, rounding and bounds."""

import unittest

from tests.helper import END, Note, after, chunk, heard, rendered, song, tempo, track

# With this quarter, the first tempo and this rate a tick is a sample.
QUARTER = 4000
RATE = 8000
VOLUME = 7
SIDE = 10


def setting(ticks, number, value, channel=0):
    return after(ticks, [0xB0 + channel, number, value])


def on(ticks, key, hard=127, channel=0):
    return after(ticks, [0x90 + channel, key, hard])


def pause(ticks):
    return after(ticks, [0xFF, 1, 0])


class Case(unittest.TestCase):
    def check(self, tracks, notes, settings=(), n=700):
        wanted = heard([Note(*row) for row in notes], RATE, 0, n, settings)
        self.assertEqual(rendered(song(*tracks, quarter=QUARTER), RATE, 0, n), wanted)

    def check_track(self, events, notes, settings=(), n=700):
        self.check([track(*events)], notes, settings, n)


class Sides(unittest.TestCase):
    """The first sample of a note that begins at 0 is as loud as can be, its wave 32767."""

    def first(self, *events, hard=100):
        return rendered(song(track(*events, on(0, 60, hard), pause(100)), quarter=QUARTER), RATE, 0, 1)[0]

    def test_before_any_controller(self):
        # 100 100 256 32767 times 63 and 64, by 2^32.
        self.assertEqual(self.first(), (1230, 1249))

    def test_controller_10(self):
        self.assertEqual(self.first(setting(0, SIDE, 0)), (2480, 0))
        self.assertEqual(self.first(setting(0, SIDE, 1)), (2460, 19))
        self.assertEqual(self.first(setting(0, SIDE, 63)), (1249, 1230))
        self.assertEqual(self.first(setting(0, SIDE, 64)), (1230, 1249))
        self.assertEqual(self.first(setting(0, SIDE, 126)), (19, 2460))
        self.assertEqual(self.first(setting(0, SIDE, 127)), (0, 2480))

    def test_controller_7(self):
        self.assertEqual(self.first(setting(0, VOLUME, 0)), (0, 0))
        self.assertEqual(self.first(setting(0, VOLUME, 1)), (12, 12))
        self.assertEqual(self.first(setting(0, VOLUME, 100)), (1230, 1249))
        self.assertEqual(self.first(setting(0, VOLUME, 127)), (1562, 1587))

    def test_how_hard(self):
        self.assertEqual(self.first(hard=1), (12, 12))
        self.assertEqual(self.first(hard=127), (1562, 1587))

    def test_all_at_once(self):
        self.assertEqual(self.first(setting(0, VOLUME, 127), setting(0, SIDE, 127), hard=127), (0, 4000))
        self.assertEqual(self.first(setting(0, VOLUME, 1), setting(0, SIDE, 127), hard=1), (0, 0))


class Rounding(unittest.TestCase):
    """The program 2 begins at -32768."""

    def first(self, *notes, side=127):
        body = [0, 0xC0, 2] + setting(0, VOLUME, 1) + setting(0, SIDE, side)
        for key, hard in notes:
            body += on(0, key, hard)
        return rendered(song(chunk(body + pause(100) + END), quarter=QUARTER), RATE, 0, 1)[0]

    def test_a_sum_below_0_is_rounded_down(self):
        # 256 times -32768 is -2^23: 127 of it are no whole multiple of 2^32.
        self.assertEqual(self.first((60, 1)), (0, -1))
        self.assertEqual(self.first((60, 1), side=0), (-1, 0))
        self.assertEqual(self.first((60, 1), side=64), (-1, -1))

    def test_a_whole_multiple(self):
        # 2^23 times 64 times 8 is 2^32; one more is rounded down to the next.
        self.assertEqual(self.first((60, 8), side=64), (-1, -1))
        self.assertEqual(self.first((60, 16), side=64), (-2, -2))
        self.assertEqual(self.first((60, 17), side=64), (-3, -3))
        self.assertEqual(self.first((60, 24), side=64), (-3, -3))
        self.assertEqual(self.first((60, 24), side=63), (-3, -3))
        self.assertEqual(self.first((60, 25), side=64), (-4, -4))

    def test_the_sum_is_rounded_not_each_note(self):
        self.assertEqual(self.first((60, 1), (61, 1), (62, 1)), (0, -1))
        self.assertEqual(self.first((60, 4), (61, 3), (62, 1), side=64), (-1, -1))
        self.assertEqual(self.first((60, 4), (61, 3), (62, 2), side=64), (-2, -2))

    def test_above_0_too(self):
        body = setting(0, VOLUME, 1) + setting(0, SIDE, 127) + on(0, 60, 4)
        self.assertEqual(rendered(song(chunk(body + END)), RATE, 0, 1), [(0, 0)])
        body = setting(0, VOLUME, 1) + setting(0, SIDE, 127) + on(0, 60, 4) + on(0, 61, 1)
        self.assertEqual(rendered(song(chunk(body + END)), RATE, 0, 1), [(0, 1)])

    def test_over_channels(self):
        body = []
        for channel in range(3):
            body += [0, 0xC0 + channel, 2] + setting(0, VOLUME, 1, channel) + on(0, 60, 1, channel)
        self.assertEqual(rendered(song(chunk(body + END)), RATE, 0, 1), [(-1, -1)])


class Bounds(unittest.TestCase):
    def crowd(self, side, program, channels):
        body = []
        for channel in channels:
            body += [0, 0xC0 + channel, program] + setting(0, VOLUME, 127, channel) + setting(0, SIDE, side, channel)
            body += on(0, 69, 127, channel)
        return song(chunk(body + pause(1000) + END), quarter=QUARTER)

    def test_the_greatest(self):
        channels = (0, 1, 2, 3, 4, 5, 6, 7, 8, 10, 11, 12, 13, 14, 15)
        pairs = rendered(self.crowd(127, 0, channels), 11000, 0, 26)
        self.assertEqual(pairs, [(0, 32767)] * 13 + [(0, -32768)] * 13)
        pairs = rendered(self.crowd(0, 0, channels), 11000, 0, 26)
        self.assertEqual(pairs, [(32767, 0)] * 13 + [(-32768, 0)] * 13)

    def test_below_them_nothing_is_cut(self):
        # Eight are 32005, and -32006 below; nine are over.
        self.assertEqual(rendered(self.crowd(127, 0, range(8)), 11000, 12, 2), [(0, 32005), (0, -32006)])
        self.assertEqual(rendered(self.crowd(127, 0, range(9)), 11000, 12, 2), [(0, 32767), (0, -32768)])

    def test_the_sum_is_kept_not_each_step(self):
        # Nine at 32767 and nine at -32768: -9 times 127^3 times 256 by 2^32, though either nine alone is out of bounds.
        body = []
        for channel in (0, 1, 2, 3, 4, 5, 6, 7, 8):
            body += setting(0, VOLUME, 127, channel) + setting(0, SIDE, 127, channel)
            body += on(0, 69, 127, channel)
        for channel in (0, 1, 2, 3, 4, 5, 6, 7, 8):
            body += [0, 0xC0 + channel, 2] + on(0, 70, 127, channel)
        self.assertEqual(rendered(song(chunk(body + pause(100) + END), quarter=QUARTER), RATE, 0, 1), [(0, -2)])

    def test_just_at_the_bounds(self):
        # Sums of 32767, 32768, -32768 and -32769 and a little, made by the last voice's hardness.
        for program, wanted in ((0, 32767), (2, -32768)):
            seen = []
            for hard in range(0, 64):
                body = []
                for channel in range(8):
                    body += [0, 0xC0 + channel, program] + setting(0, VOLUME, 127, channel)
                    body += setting(0, SIDE, 127, channel) + on(0, 69, 127, channel)
                body += [0, 0xCA, program] + setting(0, VOLUME, 127, 10) + setting(0, SIDE, 127, 10)
                body += on(0, 69, hard, 10)
                seen.append(rendered(song(chunk(body + END)), RATE, 0, 1)[0][1])
            wave = 32767 if program == 0 else -32768
            sums = [(8 * 127 + hard) * 127 * 256 * wave * 127 // 2 ** 32 for hard in range(64)]
            self.assertEqual(seen, [max(-32768, min(32767, value)) for value in sums])
            self.assertIn(wanted, seen)
            self.assertTrue(any(abs(value) < 32700 for value in sums) and any(abs(value) > 32800 for value in sums))


class Together(Case):
    def test_several_notes_in_one_channel(self):
        self.check_track([on(0, 60, 90), on(5, 64, 80), on(5, 67, 70), pause(300)],
                         [(0, 60, 90, 0, 0, 310), (0, 64, 80, 0, 5, 310), (0, 67, 70, 0, 10, 310)])

    def test_alike_notes_of_several_hardnesses(self):
        self.check_track([on(0, 60, 90), on(0, 60, 80), on(0, 60, 70), on(0, 60, 3), pause(300)],
                         [(0, 60, 90, 0, 0, 0), (0, 60, 80, 0, 0, 0), (0, 60, 70, 0, 0, 0), (0, 60, 3, 0, 0, 300)])

    def test_alike_notes_of_several_programs(self):
        self.check_track([on(0, 60, 90), [0, 0xC0, 1], on(0, 60, 80), [0, 0xC0, 5], on(0, 60, 70), [0, 0xC0, 2],
                          on(0, 60, 3), pause(300)],
                         [(0, 60, 90, 0, 0, 0), (0, 60, 80, 1, 0, 0), (0, 60, 70, 5, 0, 0), (0, 60, 3, 2, 0, 300)])

    def test_on_several_channels_with_their_own_sides(self):
        events = [setting(0, SIDE, 0, 1), setting(0, SIDE, 127, 2), setting(0, VOLUME, 50, 3), setting(0, SIDE, 30, 9),
                  [0, 0xC1, 1], [0, 0xC2, 2], [0, 0xC3, 3]]
        notes = []
        for channel in (0, 1, 2, 3, 9):
            events.append(on(2, 60 + channel, 70 + channel, channel))
        events.append(pause(300))
        for place, channel in enumerate((0, 1, 2, 3, 9)):
            program = channel if channel < 4 else 0
            notes.append((channel, 60 + channel, 70 + channel, program, 2 + 2 * place, 310))
        settings = [(0, 1, 10, 0), (0, 2, 10, 127), (0, 3, 7, 50), (0, 9, 10, 30)]
        self.check_track(events, notes, settings)

    def test_a_note_begun_later_adds_nothing_before(self):
        self.check_track([on(0, 60, 90), on(200, 64, 80), pause(300)],
                         [(0, 60, 90, 0, 0, 500), (0, 64, 80, 0, 200, 500)])


class Controllers(Case):
    NOTE = [(0, 60, 127, 0, 10, 310)]

    def test_between_two_samples_of_one_note(self):
        for number in (VOLUME, SIDE):
            for value in (0, 1, 33, 127):
                with self.subTest(number=number, value=value):
                    self.check_track([on(10, 60), setting(50, number, value), pause(250)], self.NOTE,
                                     [(60, 0, number, value)])

    def test_from_its_sample_on(self):
        file = song(track(on(0, 60), setting(50, VOLUME, 0), setting(1, VOLUME, 100), pause(250)), quarter=QUARTER)
        pairs = rendered(file, RATE, 0, 60)
        self.assertEqual([place for place in range(60) if pairs[place] == (0, 0)], [50])

    def test_several_times_at_one_tick(self):
        self.check_track([on(10, 60), setting(50, VOLUME, 3), setting(0, VOLUME, 90), setting(0, VOLUME, 20),
                          setting(0, SIDE, 3), setting(0, SIDE, 90), setting(0, SIDE, 20), pause(250)], self.NOTE,
                         [(60, 0, VOLUME, 20), (60, 0, SIDE, 20)])

    def test_several_times_at_one_tick_in_several_tracks(self):
        self.check([track(on(10, 60), pause(300)), track(setting(60, VOLUME, 30), setting(0, VOLUME, 40)),
                    track(setting(20, VOLUME, 50), setting(40, VOLUME, 60)), track(setting(60, SIDE, 2))], self.NOTE,
                   [(20, 0, VOLUME, 50), (60, 0, VOLUME, 60), (60, 0, SIDE, 2)])

    def test_at_several_ticks_of_one_sample(self):
        # A tick is an eighth of a sample: the ticks 24 to 31 are in sample 3.
        events = [tempo(0, 62500), on(0, 60), setting(24, VOLUME, 30), setting(3, VOLUME, 60), setting(4, VOLUME, 10),
                  setting(1, VOLUME, 90), pause(2368)]
        self.check_track(events, [(0, 60, 127, 0, 0, 300)], [(3, 0, VOLUME, 10), (4, 0, VOLUME, 90)])

    def test_before_the_note(self):
        self.check_track([setting(0, VOLUME, 9), setting(2, VOLUME, 80), setting(1, SIDE, 12), on(7, 60), pause(300)],
                         self.NOTE, [(2, 0, VOLUME, 80), (3, 0, SIDE, 12)])

    def test_at_the_notes_tick_but_behind_it(self):
        self.check_track([on(10, 60), setting(0, VOLUME, 80), setting(0, SIDE, 12), pause(300)], self.NOTE,
                         [(10, 0, VOLUME, 80), (10, 0, SIDE, 12)])

    def test_behind_the_last_note(self):
        self.check_track([on(10, 60), after(300, [0x80, 60, 0]), setting(50, VOLUME, 127), setting(70, SIDE, 0),
                          pause(300)], self.NOTE, [(360, 0, VOLUME, 127), (430, 0, SIDE, 0)])

    def test_at_the_last_tick(self):
        self.check_track([on(10, 60), setting(300, VOLUME, 127), setting(0, SIDE, 127)], self.NOTE,
                         [(310, 0, VOLUME, 127), (310, 0, SIDE, 127)])

    def test_of_another_channel(self):
        for channel in (1, 9, 15):
            self.check_track([setting(0, VOLUME, 1, channel), on(10, 60), setting(20, SIDE, 3, channel),
                              setting(20, VOLUME, 0, channel), pause(260)], self.NOTE)

    def test_of_another_number(self):
        events = [on(10, 60)]
        for number in (0, 1, 6, 8, 9, 11, 39, 42, 64, 119, 121, 122, 127):
            events.append(setting(5, number, 1))
        self.check_track(events + [pause(235)], self.NOTE)

    def test_nothing_sets_them_back(self):
        self.check_track([setting(0, VOLUME, 33), setting(0, SIDE, 3), setting(1, 121, 0), [1, 0xC0, 0], on(8, 60),
                          pause(300)], self.NOTE, [(0, 0, VOLUME, 33), (0, 0, SIDE, 3)])

    def test_an_end_of_all_leaves_them(self):
        self.check_track([setting(0, VOLUME, 33), setting(0, SIDE, 3), on(10, 60), setting(300, 120, 0), pause(30)],
                         self.NOTE, [(0, 0, VOLUME, 33), (0, 0, SIDE, 3)])

    def test_no_other_message_sets_them(self):
        events = [[0, 0xA0, 7, 0], [0, 0xE0, 7, 0], [0, 0x80, 7, 0], [0, 0xF0, 2, 7, 0], [0, 0xFF, 7, 2, 10, 0],
                  on(10, 60), pause(300)]
        self.check_track(events, self.NOTE)

    def test_the_whole_way_through(self):
        events = [on(10, 60)]
        settings = []
        for step in range(1, 251):
            number = VOLUME if step % 2 else SIDE
            value = step * 37 % 128
            events.append(setting(1, number, value))
            settings.append((10 + step, 0, number, value))
        self.check_track(events + [pause(50)], self.NOTE, settings)

    def test_a_stretch_that_begins_behind_them(self):
        file = song(track(on(10, 60), setting(20, VOLUME, 40), setting(10, SIDE, 5), setting(10, VOLUME, 80),
                          setting(100, SIDE, 90), pause(150)), quarter=QUARTER)
        settings = [(30, 0, VOLUME, 40), (40, 0, SIDE, 5), (50, 0, VOLUME, 80), (150, 0, SIDE, 90)]
        notes = [Note(0, 60, 127, 0, 10, 300)]
        for first in (0, 29, 30, 31, 39, 40, 41, 49, 50, 51, 100, 149, 150, 151, 299, 300):
            for n in (1, 2, 30):
                with self.subTest(first=first, n=n):
                    self.assertEqual(rendered(file, RATE, first, n), heard(notes, RATE, first, n, settings))


if __name__ == "__main__":
    unittest.main()

"""Promise 10: the wave, its step, the four programs, and channel 9."""

import unittest

from tests.helper import END, after, ask, chunk, heard, load, Note, render, rendered, song, wave

QUARTER = 4000
KEYS = (0, 11, 12, 60, 119, 120, 127)
# So many channels with one note each fill the right side but for little: the least change of a wave is heard.
CHORUS = (0, 1, 2, 3, 4, 5, 6, 7)


def chorus(key, program, size=4000, channels=CHORUS):
    body = []
    for channel in channels:
        body += [0, 0xB0 + channel, 7, 127, 0, 0xB0 + channel, 10, 127, 0, 0xC0 + channel, program]
        body += [0, 0x90 + channel, key, 127]
    return song(chunk(body + after(size, END[1:])), quarter=QUARTER)


def chorus_right(value, loud=256, voices=8):
    """The sample on the right where each of the voices' waves has this value."""
    return voices * 127 * 127 * loud * value * 127 // 2 ** 32


class Values(unittest.TestCase):
    """Waves at written places. The note 69 at 11000 has the step 171798691 (of 4294967296), so 25 samples a time."""

    def check(self, program, expected, key=69, rate=11000):
        pairs = rendered(chorus(key, program), rate, 0, 1 + max(k for k, value in expected))
        for k, value in expected:
            with self.subTest(k=k):
                self.assertEqual(pairs[k], (0, chorus_right(value)))

    def test_program_0(self):
        self.check(0, [(0, 32767), (1, 32767), (12, 32767), (13, -32768), (24, -32768), (25, -32768), (26, 32767)])

    def test_program_1(self):
        self.check(1, [(0, -32768), (1, -27526), (12, 30146), (13, 30147), (24, -27525), (25, -32767),
                       (26, -27526)])

    def test_program_2(self):
        self.check(2, [(0, -32768), (1, -30147), (12, -1311), (13, 1310), (24, 30146), (25, 32767), (26, -30147)])

    def test_program_3(self):
        self.check(3, [(0, 32767), (1, 32767), (6, 32767), (7, -32768), (24, -32768), (25, -32768), (26, 32767)])

    def test_the_samples_of_one_period(self):
        self.assertEqual([pair[1] for pair in rendered(chorus(69, 2), 11000, 0, 6)],
                         [-32006, -29446, -26886, -24325, -21765, -19204])


class Edges(unittest.TestCase):
    """Waves of written steps."""

    def check(self, key, rate, step):
        for program in range(4):
            with self.subTest(key=key, rate=rate, program=program):
                pairs = rendered(chorus(key, program), rate, 0, 60)
                self.assertEqual(pairs, [(0, chorus_right(self.value(program, k * step % 2 ** 32))) for k in range(60)])

    def value(self, program, p):
        q = p // 65536
        if program == 0:
            return 32767 if p < 2 ** 31 else -32768
        if program == 1:
            return 2 * q - 32768 if q < 32768 else 98303 - 2 * q
        if program == 2:
            return q - 32768
        return 32767 if p < 2 ** 30 else -32768

    def test_written_steps(self):
        self.check(69, 44100, 42852281)
        self.check(0, 8000, 4389348)
        self.check(0, 48000, 731558)
        self.check(11, 8000, 8285986)
        self.check(12, 8000, 8778697)
        self.check(60, 8000, 140459155)
        self.check(119, 8000, 4242425253)
        self.check(120, 8000, 4494692990)
        self.check(127, 8000, 6734430314)
        self.check(127, 48000, 1122405052)

    def test_a_phase_of_2_to_the_31_and_2_to_the_30(self):
        # Of A the number is 14080 times 65536, so at 14080 the note 105 goes by 2^30 and the note 117 by 2^31.
        self.check(105, 14080, 2 ** 30)
        self.check(117, 14080, 2 ** 31)
        self.check(93, 14080, 2 ** 29)
        self.check(81, 14080, 2 ** 28)

    def test_the_top_of_the_triangle(self):
        # At q 32768 it is 32767; with one voice a little less hard 32768 would be another sample.
        body = []
        for channel in CHORUS:
            body += [0, 0xB0 + channel, 7, 127, 0, 0xB0 + channel, 10, 127, 0, 0xC0 + channel, 1]
            body += [0, 0x90 + channel, 105, 126 if channel == 0 else 127]
        pairs = rendered(song(chunk(body + after(4000, END[1:])), quarter=QUARTER), 14080, 2, 1)
        wanted = [(7 * 127 + 126) * 127 * 256 * value * 127 // 2 ** 32 for value in (32767, 32768)]
        self.assertNotEqual(wanted[0], wanted[1])
        self.assertEqual(pairs, [(0, wanted[0])])

    def test_steps_are_rounded_down(self):
        for key, rate in ((61, 44100), (13, 47999), (127, 8001), (0, 8009)):
            pairs = rendered(chorus(key, 2), rate, 0, 60)
            step = self.step(key, rate)
            self.assertEqual(pairs, [(0, chorus_right(self.value(2, k * step % 2 ** 32))) for k in range(60)])

    def step(self, key, rate):
        numbers = (548668578, 581294109, 615859655, 652480576, 691279090, 732384684, 775934544, 822074013, 870957077,
                   922746880, 977616265, 1035748353)
        down = 1
        for octave in range(key // 12, 10):
            down *= 2
        return numbers[key % 12] * 65536 // (rate * down)


class AllNotes(unittest.TestCase):
    def test_the_notes_that_the_edges_have(self):
        for key in KEYS:
            for program in range(4):
                for rate in (8000, 44100, 48000):
                    with self.subTest(key=key, program=program, rate=rate):
                        self.check(key, program, rate, 0, 40)

    def test_each_note(self):
        for key in range(128):
            with self.subTest(key=key):
                self.check(key, 2, 22050, 1000, 4)

    def test_far_behind_the_beginning(self):
        for program in range(4):
            for key in (0, 60, 127):
                with self.subTest(key=key, program=program):
                    self.check(key, program, 8000, 12345678, 30, 20000000)

    def test_each_of_the_twelve_numbers_to_its_last_digit(self):
        # A number that is off by one makes the phase be off by four for each sample at the notes 108 to 119.
        for key in range(108, 120):
            with self.subTest(key=key):
                self.check(key, 2, 8000, 19999000, 10, 20000000)

    def check(self, key, program, rate, first, n, size=4000):
        end = size * rate // 8000
        notes = [Note(channel, key, 127, program, 0, end) for channel in CHORUS]
        settings = [(0, channel, number, 127) for channel in CHORUS for number in (7, 10)]
        self.assertEqual(rendered(chorus(key, program, size), rate, first, n), heard(notes, rate, first, n, settings))


class TheBeginningCounts(unittest.TestCase):
    def test_k_is_counted_from_the_notes_own_beginning(self):
        body = [0, 0xC0, 2] + [7, 0x90, 60, 127] + [4, 0x90, 67, 127] + after(500, END[1:])
        notes = [Note(0, 60, 127, 2, 7, 511), Note(0, 67, 127, 2, 11, 511)]
        self.assertEqual(rendered(song(chunk(body), quarter=QUARTER), 8000, 0, 300), heard(notes, 8000, 0, 300))

    def test_the_wave_goes_on_behind_the_end(self):
        body = [0, 0xC0, 2] + [7, 0x90, 60, 127] + [33, 0x80, 60, 127] + after(500, END[1:])
        notes = [Note(0, 60, 127, 2, 7, 40)]
        self.assertEqual(rendered(song(chunk(body), quarter=QUARTER), 8000, 0, 300), heard(notes, 8000, 0, 300))


class ChannelNine(unittest.TestCase):
    def song_of(self, key, program=0, channel=9, size=4000):
        return chorus(key, program, size, [channel])

    def test_written_values(self):
        # 60 times 2654435761 modulo 2^32 is 352355708, by 65536 5376; less 32768.
        for key, values in ((60, (-27392, 13111, 3550, 9459)), (0, (-32768, 7735, -1827, 4083)),
                            (127, (-635, -25668, 30307, -29320))):
            with self.subTest(key=key):
                self.assertEqual([wave(9, key, 0, k, 8000) for k in range(4)], list(values))
                pairs = rendered(self.song_of(key), 8000, 0, 4)
                self.assertEqual(pairs, [(0, chorus_right(value, voices=1)) for value in values])

    def test_each_note_of_the_edges_at_several_rates(self):
        for key in KEYS:
            for rate in (8000, 48000):
                with self.subTest(key=key, rate=rate):
                    settings = [(0, 9, 7, 127), (0, 9, 10, 127)]
                    wanted = heard([Note(9, key, 127, 0, 0, rate // 2)], rate, 100, 200, settings)
                    self.assertEqual(rendered(self.song_of(key), rate, 100, 200), wanted)

    def test_the_program_does_not_count(self):
        told = [ask(load(self.song_of(64, program)), render(8000, 0, 100))[1] for program in (0, 1, 2, 3, 127)]
        self.assertEqual(told[1:], told[:1] * 4)

    def test_no_other_channel_is_so(self):
        for channel in (0, 8, 10, 15):
            with self.subTest(channel=channel):
                pairs = rendered(self.song_of(69, 0, channel), 11000, 0, 26)
                wanted = [32767 if k < 13 else -32768 for k in range(26)]
                self.assertEqual(pairs, [(0, chorus_right(value, voices=1)) for value in wanted])

    def test_far_behind_the_beginning(self):
        settings = [(0, 9, 7, 127), (0, 9, 10, 127)]
        wanted = heard([Note(9, 38, 127, 0, 0, 20000000)], 8000, 12345678, 30, settings)
        self.assertEqual(rendered(self.song_of(38, size=20000000), 8000, 12345678, 30), wanted)


if __name__ == "__main__":
    unittest.main()

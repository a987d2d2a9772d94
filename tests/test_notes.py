"""Promise 8: how notes begin and end, and the program they have."""

import unittest

from tests.helper import END, Note, ask, chunk, heard, load, render, rendered, song, tempo, track

# With this quarter, the first tempo and this rate a tick is a sample.
QUARTER = 4000
RATE = 8000
STRETCH = 2600


def on(ticks, key, hard=127, channel=0):
    return [ticks, 0x90 + channel, key, hard]


def off(ticks, key, channel=0, hard=64):
    return [ticks, 0x80 + channel, key, hard]


def pause(ticks):
    return [ticks // 128 + 128, ticks % 128, 0xFF, 1, 0]


class Case(unittest.TestCase):
    def check(self, tracks, notes, settings=()):
        file = song(*tracks, quarter=QUARTER)
        wanted = heard([Note(*row) for row in notes], RATE, 0, STRETCH, settings)
        self.assertTrue(any(pair != (0, 0) for pair in wanted) or not notes)
        self.assertEqual(rendered(file, RATE, 0, STRETCH), wanted)

    def check_track(self, events, notes, settings=()):
        self.check([track(*events)], notes, settings)


class Ends(Case):
    def test_by_8x(self):
        self.check_track([on(3, 60), off(40, 60), pause(300)], [(0, 60, 127, 0, 3, 43)])

    def test_by_8x_of_any_hardness(self):
        for hard in (0, 127):
            self.check_track([on(3, 60), off(40, 60, hard=hard), pause(300)], [(0, 60, 127, 0, 3, 43)])

    def test_by_9x_with_0(self):
        self.check_track([on(3, 60), on(40, 60, 0), pause(300)], [(0, 60, 127, 0, 3, 43)])

    def test_by_9x_with_0_whose_status_is_left_out(self):
        self.check_track([on(3, 60), [40, 60, 0], pause(300)], [(0, 60, 127, 0, 3, 43)])

    def test_by_bx_120_and_123(self):
        for number in (120, 123):
            for value in (0, 1, 127):
                with self.subTest(number=number, value=value):
                    events = [on(3, 60), on(1, 64, 99), [40, 0xB0, number, value], pause(300)]
                    self.check_track(events, [(0, 60, 127, 0, 3, 44), (0, 64, 99, 0, 4, 44)])

    def test_no_other_controller_ends_one(self):
        for number in (0, 1, 6, 8, 9, 11, 64, 119, 121, 122, 124, 125, 126, 127):
            with self.subTest(number=number):
                events = [on(3, 60), [40, 0xB0, number, 0], pause(300)]
                self.check_track(events, [(0, 60, 127, 0, 3, 343)])

    def test_no_other_message_ends_one(self):
        events = [on(3, 60), [9, 0xA0, 60, 0], [9, 0xD0, 60], [9, 0xE0, 60, 0], [9, 0xF0, 2, 60, 0],
                  [9, 0xFF, 1, 2, 60, 0], pause(200)]
        self.check_track(events, [(0, 60, 127, 0, 3, 248)])

    def test_by_the_last_tick(self):
        self.check_track([on(3, 60), on(2, 70, 50), pause(200)], [(0, 60, 127, 0, 3, 205), (0, 70, 50, 0, 5, 205)])

    def test_by_the_last_tick_of_another_track(self):
        self.check([track(on(3, 60)), track(pause(300)), track(pause(200))], [(0, 60, 127, 0, 3, 300)])

    def test_begun_at_the_last_tick(self):
        self.check_track([pause(200), on(0, 60)], [(0, 60, 127, 0, 200, 200)])

    def test_not_of_another_channel(self):
        for ending in ([40, 0x81, 60, 0], [40, 0x91, 60, 0], [40, 0xB1, 120, 0], [40, 0xB1, 123, 0]):
            with self.subTest(ending=ending):
                events = [on(3, 60), on(0, 62, 80, 1), ending, pause(300)]
                end = 43 if ending[1] == 0xB1 else 343
                self.check_track(events, [(0, 60, 127, 0, 3, 343), (1, 62, 80, 0, 3, end)])

    def test_not_another_note(self):
        for ending in (off(40, 61), on(40, 61, 0), off(40, 48), off(40, 72)):
            with self.subTest(ending=ending):
                self.check_track([on(3, 60), ending, pause(300)], [(0, 60, 127, 0, 3, 343)])

    def test_one_that_is_not_held(self):
        events = [off(1, 60), on(1, 60, 0), [1, 0xB0, 123, 0], on(0, 60), off(40, 60), off(5, 60), on(5, 60, 0),
                  [5, 0xB0, 120, 0], pause(300)]
        self.check_track(events, [(0, 60, 127, 0, 3, 43)])

    def test_from_another_track(self):
        self.check([track(on(3, 60), pause(300)), track(off(50, 60)), track([80, 0xB0, 123, 0])],
                   [(0, 60, 127, 0, 3, 50)])

    def test_only_those_begun_before_in_order(self):
        # At the tick 50 the second track's note is begun behind the end of all in the first.
        self.check([track(on(3, 60), [47, 0xB0, 123, 0], pause(300)), track(on(50, 62, 90))],
                   [(0, 60, 127, 0, 3, 50), (0, 62, 90, 0, 50, 350)])
        self.check([track(on(50, 62, 90)), track(on(3, 60), [47, 0xB0, 123, 0], pause(300))],
                   [(0, 62, 90, 0, 50, 50), (0, 60, 127, 0, 3, 50)])

    def test_each_channel(self):
        for channel in range(16):
            with self.subTest(channel=channel):
                events = [on(3, 60, 127, channel), off(40, 60, channel), pause(300)]
                self.check_track(events, [(channel, 60, 127, 0, 3, 43)])


class BegunAgain(Case):
    def test_while_it_is_held(self):
        self.check_track([on(3, 60, 100), on(40, 60, 50), off(40, 60), pause(300)],
                         [(0, 60, 100, 0, 3, 43), (0, 60, 50, 0, 43, 83)])

    def test_several_times(self):
        self.check_track([on(3, 60, 100), on(40, 60, 50), on(30, 60, 25), on(20, 60, 0), off(9, 60), pause(300)],
                         [(0, 60, 100, 0, 3, 43), (0, 60, 50, 0, 43, 73), (0, 60, 25, 0, 73, 93)])

    def test_at_one_tick(self):
        self.check_track([on(3, 60, 100), on(0, 60, 50), off(40, 60), pause(300)],
                         [(0, 60, 100, 0, 3, 3), (0, 60, 50, 0, 3, 43)])

    def test_behind_its_end_while_it_falls_off(self):
        self.check_track([on(3, 60, 100), off(40, 60), on(10, 60, 50), off(40, 60), pause(300)],
                         [(0, 60, 100, 0, 3, 43), (0, 60, 50, 0, 53, 93)])

    def test_in_another_channel_both_are_held(self):
        self.check_track([on(3, 60, 100), on(40, 60, 50, 1), off(40, 60), off(20, 60, 1), pause(300)],
                         [(0, 60, 100, 0, 3, 83), (1, 60, 50, 0, 43, 103)])

    def test_another_note_is_held_on(self):
        self.check_track([on(3, 60, 100), on(40, 72, 50), off(40, 60), off(20, 72), pause(300)],
                         [(0, 60, 100, 0, 3, 83), (0, 72, 50, 0, 43, 103)])


class OneSample(Case):
    def test_begun_and_ended_at_one_tick(self):
        self.check_track([on(3, 60), off(0, 60), pause(300)], [(0, 60, 127, 0, 3, 3)])

    def test_begun_and_ended_at_ticks_of_one_sample(self):
        # A tick is an eighth of a sample.
        events = [tempo(0, 62500), on(25, 60), off(6, 60), pause(300)]
        self.check_track(events, [(0, 60, 127, 0, 3, 3)])

    def test_the_end_a_tick_later_is_the_next_sample(self):
        events = [tempo(0, 62500), on(25, 60), off(7, 60), pause(300)]
        self.check_track(events, [(0, 60, 127, 0, 3, 4)])

    def test_a_note_of_one_sample_is_not_a_note_of_none(self):
        notes = [Note(0, 60, 127, 0, 3, end) for end in (3, 4)]
        self.assertNotEqual(heard(notes[:1], RATE, 0, STRETCH), heard(notes[1:], RATE, 0, STRETCH))


class Programs(Case):
    def test_0_at_first(self):
        for channel in (0, 1, 8, 10, 15):
            self.check_track([on(3, 60, 127, channel), pause(300)], [(channel, 60, 127, 0, 3, 303)])

    def test_each_of_the_four_modulo_4(self):
        for program in (0, 1, 2, 3, 4, 5, 6, 7, 64, 125, 126, 127):
            with self.subTest(program=program):
                self.check_track([[0, 0xC0, program], on(3, 60), pause(300)], [(0, 60, 127, program, 3, 303)])

    def test_of_its_own_channel(self):
        events = [[0, 0xC1, 1], [0, 0xC0, 2], [0, 0xC2, 3], on(3, 60, 60), on(0, 60, 70, 1), on(0, 60, 80, 2),
                  on(0, 60, 90, 3), pause(300)]
        self.check_track(events, [(0, 60, 60, 2, 3, 303), (1, 60, 70, 1, 3, 303), (2, 60, 80, 3, 3, 303),
                                  (3, 60, 90, 0, 3, 303)])

    def test_the_note_keeps_it(self):
        events = [[0, 0xC0, 2], on(3, 60), [40, 0xC0, 1], on(10, 64), off(50, 60), [5, 0xC0, 3], pause(300)]
        self.check_track(events, [(0, 60, 127, 2, 3, 103), (0, 64, 127, 1, 53, 408)])

    def test_the_last_one_before_the_note(self):
        events = [[0, 0xC0, 2], [1, 0xC0, 3], [0, 0xC0, 1], on(2, 60), pause(300)]
        self.check_track(events, [(0, 60, 127, 1, 3, 303)])

    def test_at_the_tick_of_the_note_by_the_order(self):
        self.check_track([[3, 0xC0, 2], on(0, 60), pause(300)], [(0, 60, 127, 2, 3, 303)])
        self.check_track([on(3, 60), [0, 0xC0, 2], pause(300)], [(0, 60, 127, 0, 3, 303)])
        self.check([track([3, 0xC0, 2]), track(on(3, 60), pause(300))], [(0, 60, 127, 2, 3, 303)])
        self.check([track(on(3, 60), pause(300)), track([3, 0xC0, 2])], [(0, 60, 127, 0, 3, 303)])

    def test_begun_again_it_has_the_new_one(self):
        events = [on(3, 60), [20, 0xC0, 2], on(20, 60), pause(300)]
        self.check_track(events, [(0, 60, 127, 0, 3, 43), (0, 60, 127, 2, 43, 343)])

    def test_no_other_message_sets_it(self):
        events = [[0, 0xD0, 2], [0, 0xB0, 0, 2], [0, 0xA0, 2, 2], [0, 0xE0, 2, 2], [0, 0xFF, 1, 1, 2], on(3, 60),
                  pause(300)]
        self.check_track(events, [(0, 60, 127, 0, 3, 303)])


class HowHard(Case):
    def test_its_second_byte(self):
        for hard in (1, 2, 64, 126, 127):
            with self.subTest(hard=hard):
                self.check_track([on(3, 60, hard), pause(300)], [(0, 60, hard, 0, 3, 303)])

    def test_no_notes(self):
        self.check_track([[0, 0xC0, 2], off(3, 60), on(3, 60, 0), pause(300)], [])

    def test_nothing_before_its_beginning(self):
        pairs = rendered(song(track(on(3, 60), pause(300)), quarter=QUARTER), RATE, 0, 5)
        self.assertEqual(pairs[:3], [(0, 0)] * 3)
        self.assertNotEqual(pairs[3], (0, 0))


class Tempos(Case):
    def test_notes_begin_and_end_at_their_ticks_samples(self):
        # Ticks of 1, then of 2, then of half a sample; the tempos stand in a track of their own.
        tempos = track(tempo(10, 1000000), tempo(10, 250000), pause(300))
        notes = track(on(5, 60, 90), on(10, 64, 80), off(10, 60), off(15, 64))
        self.check([tempos, notes], [(0, 60, 90, 0, 5, 32), (0, 64, 80, 0, 20, 40)])

    def test_many_notes_in_a_song(self):
        body = []
        notes = []
        for number in range(60):
            key = 30 + number * 7 % 80
            body += on(number % 3, key, 1 + number) + off(9, key)
        begin = 0
        for number in range(60):
            begin += number % 3
            notes.append((0, 30 + number * 7 % 80, 1 + number, 0, begin, begin + 9))
            begin += 9
        self.check([chunk(body + END)], notes)


class LongAgo(Case):
    def test_a_note_that_has_fallen_off_is_heard_no_more(self):
        file = song(track(on(0, 60), off(10, 60), pause(300)), quarter=QUARTER)
        told = ask(load(file), render(RATE, 2009, 3), render(RATE, 2010, 4096))
        self.assertNotEqual(told[1][1:3], [0, 0])
        self.assertEqual(told[2], [4096] + [0] * 8192)


if __name__ == "__main__":
    unittest.main()

"""Promises 7 to 12 over made-up songs: what a slow reading of the document's words, event by event, tells of each."""

import unittest

from tests.helper import Note, ask, chunk, heard, length, load, long_number, number, render, song, time

RATES = (8000, 8001, 11025, 22050, 44100, 48000)


class Numbers:
    """Made-up numbers, the same at each run."""

    def __init__(self, seed):
        self.state = seed * 2654435761 % 2 ** 32 + 1

    def below(self, limit):
        self.state = (self.state * 1664525 + 1013904223) % 2 ** 32
        return (self.state >> 8) % limit

    def one_of(self, row):
        return row[self.below(len(row))]


def message(numbers, channels, keys):
    channel = numbers.one_of(channels)
    kind = numbers.below(12)
    if kind < 5:
        return [0x90 + channel, numbers.one_of(keys), numbers.one_of((1, 40, 100, 127))]
    if kind < 7:
        return [numbers.one_of((0x80, 0x90)) + channel, numbers.one_of(keys), 0]
    if kind == 7:
        return [0xC0 + channel, numbers.below(128)]
    if kind == 8:
        return [0xB0 + channel, 7, numbers.one_of((0, 1, 64, 100, 127))]
    if kind == 9:
        return [0xB0 + channel, 10, numbers.one_of((0, 1, 64, 100, 127))]
    if kind == 10:
        return [0xB0 + channel, numbers.one_of((120, 121, 123, 7, 10)), numbers.below(128)]
    return [0xFF, 0x51, 3] + number(numbers.one_of((1, 5000, 62500, 499999, 500000, 750001, 2000000)), 3)


def made_up(seed):
    """A song's quarter, and the tracks, each a list of (ticks behind the one before, the event's bytes)."""
    numbers = Numbers(seed)
    quarter = numbers.one_of((1, 24, 96, 480, 1000, 4000, 32767))
    channels = [numbers.below(16) for count in range(1 + numbers.below(3))] + [9]
    keys = [numbers.below(128) for count in range(3)]
    steps = (0, 0, 1, 2, numbers.below(quarter // 20 + 3))
    tracks = []
    for track_number in range(1 + numbers.below(3)):
        rows = [(numbers.one_of(steps), message(numbers, channels, keys)) for place in range(12)]
        tracks.append(rows + [(numbers.one_of(steps), [0xFF, 0x2F, 0])])
    return quarter, tracks


def file_of(quarter, tracks):
    chunks = []
    for rows in tracks:
        chunks.append(chunk(sum([long_number(ticks) + body for ticks, body in rows], [])))
    return song(*chunks, quarter=quarter)


def in_order(tracks):
    """All events as (tick, bytes)."""
    rows = []
    for track_number, events in enumerate(tracks):
        tick = 0
        for place, (ticks, body) in enumerate(events):
            tick += ticks
            rows.append((tick, track_number, place, body))
    return [(row[0], row[3]) for row in sorted(rows)]


class Slow:
    def __init__(self, quarter, tracks):
        self.quarter = quarter
        self.events = in_order(tracks)

    def tempo(self, tick):
        told = 500000
        for when, body in self.events:
            if when <= tick and body[:2] == [0xFF, 0x51]:
                told = body[3] * 65536 + body[4] * 256 + body[5]
        return told

    def total(self, tick):
        return sum(self.tempo(before) for before in range(tick))

    def time(self, tick):
        return self.total(tick) // self.quarter

    def sample(self, tick, rate):
        return self.total(tick) * rate // (self.quarter * 1000000)

    def length(self, rate):
        return self.sample(self.events[-1][0], rate)

    def program(self, place, channel):
        told = 0
        for tick, body in self.events[:place]:
            if body[0] == 0xC0 + channel:
                told = body[1]
        return told

    def end(self, place, channel, key):
        for tick, body in self.events[place + 1:]:
            if body[0] in (0x80 + channel, 0x90 + channel) and body[1] == key:
                return tick
            if body[0] == 0xB0 + channel and body[1] in (120, 123):
                return tick
        return self.events[-1][0]

    def notes(self, rate):
        rows = []
        for place, (tick, body) in enumerate(self.events):
            if 0x90 <= body[0] <= 0x9F and body[2] != 0:
                channel = body[0] - 0x90
                end = self.end(place, channel, body[1])
                rows.append(Note(channel, body[1], body[2], self.program(place, channel), self.sample(tick, rate),
                                 self.sample(end, rate)))
        return rows

    def settings(self, rate):
        return [(self.sample(tick, rate), body[0] - 0xB0, body[1], body[2]) for tick, body in self.events
                if 0xB0 <= body[0] <= 0xBF]


class MadeUp(unittest.TestCase):
    def test_times_and_lengths(self):
        for seed in range(60):
            with self.subTest(seed=seed):
                quarter, tracks = made_up(seed)
                slow = Slow(quarter, tracks)
                ticks = sorted({0, 1, 2, 50} | {tick + more for tick, body in slow.events for more in (0, 1)})[:60]
                told = ask(load(file_of(quarter, tracks)), *[time(tick) for tick in ticks],
                           *[length(rate) for rate in RATES])
                wanted = [[len(slow.events)]] + [[0, slow.time(tick)] for tick in ticks]
                self.assertEqual(told, wanted + [[slow.length(rate)] for rate in RATES])

    def test_samples(self):
        sounding = 0
        for seed in range(150):
            with self.subTest(seed=seed):
                quarter, tracks = made_up(seed)
                slow = Slow(quarter, tracks)
                rate = RATES[seed % len(RATES)]
                notes = slow.notes(rate)
                settings = slow.settings(rate)
                end = slow.length(rate)
                firsts = [0, end // 2, max(0, end - 10), end + rate // 20]
                told = ask(load(file_of(quarter, tracks)), *[render(rate, first, 25) for first in firsts])
                for first, row in zip(firsts, told[1:]):
                    pairs = heard(notes, rate, first, 25, settings)
                    self.assertEqual(row, [25] + [value for pair in pairs for value in pair])
                    sounding += any(value != 0 for value in row[1:])
        self.assertGreater(sounding, 200)


if __name__ == "__main__":
    unittest.main()

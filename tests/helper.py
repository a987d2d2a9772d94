"""Builds song files and lists of calls, takes lists of answers apart, and reckons samples sample by sample."""

import collections

from songsamples.song import answers

BEGIN = [0]
END = [0, 0xFF, 0x2F, 0]


def number(value, size):
    return [(value >> (8 * (size - 1 - place))) & 255 for place in range(size)]


def long_number(value):
    parts = [value & 127]
    while value >= 128:
        value >>= 7
        parts.insert(0, 128 + (value & 127))
    return parts


def header(kind=0, tracks=1, quarter=96):
    return list(b"MThd") + number(6, 4) + number(kind, 2) + number(tracks, 2) + number(quarter, 2)


def chunk(body):
    return list(b"MTrk") + number(len(body), 4) + body


def track(*events):
    """A track of these events, each with its ticks before it, and an end of track at once behind."""
    return chunk(sum(events, []) + END)


def song(*tracks, kind=None, quarter=96):
    if kind is None:
        kind = 0 if len(tracks) == 1 else 1
    return header(kind, len(tracks), quarter) + sum(tracks, [])


def load(file):
    return [1, len(file)] + file


def event(k):
    return [2, k]


def taken_apart(told):
    rows = []
    place = 0
    while place < len(told):
        end = place + 1 + told[place]
        rows.append(told[place + 1:end])
        place = end
    return rows


def ask(*calls):
    """What each of the calls answers, made one behind another on one object."""
    return taken_apart(answers(sum(calls, [])))


def loaded(file):
    """The number that load of the file answers."""
    (row,) = ask(load(file))
    (answer,) = row
    return answer


def loaded_track(body):
    """The number that load answers of a song whose only track has these bytes."""
    return loaded(song(chunk(body)))


def events_of(file, count):
    """The answers of event from 0 on, asked in lists of at most 100 calls."""
    rows = []
    for start in range(0, count, 99):
        calls = [event(k) for k in range(start, min(start + 99, count))]
        rows.extend(ask(load(file), *calls)[1:])
    return rows


def time(tick):
    return [3, tick]


def length(rate):
    return [4, rate]


def render(rate, first, n):
    return [5, rate, first, n]


def tempo(ticks, microseconds):
    return after(ticks, [0xFF, 0x51, 3] + number(microseconds, 3))


def after(ticks, body):
    """An event so many ticks behind the one before; empty texts lie between if they are too many for one number."""
    before = []
    while ticks > 268435455:
        before += long_number(268435455) + [0xFF, 1, 0]
        ticks -= 268435455
    return before + long_number(ticks) + body


def rendered(file, rate, first, n):
    """The samples of the song, each a pair of its left and right."""
    row = ask(load(file), render(rate, first, n))[1]
    if row[0] != n or len(row) != 1 + 2 * n:
        raise AssertionError(f"render answered {row[:1]} and {len(row) - 1} samples for {n}")
    return list(zip(row[1::2], row[2::2]))


# From here on the samples as the document's words say them, sample by sample, of notes that a test lists itself.

Note = collections.namedtuple("Note", "channel key hard program begin end")

PITCHES = (548668578, 581294109, 615859655, 652480576, 691279090, 732384684,
           775934544, 822074013, 870957077, 922746880, 977616265, 1035748353)


def loud(k, end, rate):
    if k < end:
        return max(256 - (128 * k) // rate, 64)
    return max(max(256 - (128 * end) // rate, 64) - (1024 * (k - end)) // rate, 0)


def wave(channel, key, program, k, rate):
    if channel == 9:
        return ((k * k + key) * 2654435761 % 2 ** 32) // 65536 - 32768
    step = (PITCHES[key % 12] * 65536) // (rate * 2 ** (10 - key // 12))
    p = k * step % 2 ** 32
    q = p // 65536
    return (
        32767 if p < 2 ** 31 else -32768,
        2 * q - 32768 if q < 32768 else 98303 - 2 * q,
        q - 32768,
        32767 if p < 2 ** 30 else -32768,
    )[program % 4]


def control(settings, channel, number, sample):
    """Settings are rows (sample, channel, number, value) in the song's order."""
    value = {7: 100, 10: 64}[number]
    for row in settings:
        if row[0] <= sample and row[1:3] == (channel, number):
            value = row[3]
    return value


def heard(notes, rate, first, n, settings=()):
    pairs = []
    for sample in range(first, first + n):
        left = right = 0
        for note in notes:
            k = sample - note.begin
            if k >= 0:
                value = note.hard * control(settings, note.channel, 7, sample)
                value *= loud(k, note.end - note.begin, rate) * wave(note.channel, note.key, note.program, k, rate)
                side = control(settings, note.channel, 10, sample)
                left += value * (127 - side)
                right += value * side
        pairs.append((kept(left // 2 ** 32), kept(right // 2 ** 32)))
    return pairs


def kept(value):
    return max(-32768, min(32767, value))

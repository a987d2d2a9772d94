"""Builds song files and lists of calls, and takes lists of answers apart."""

from songsamples.song import answers

BEGIN = [0]
END = [0, 0xFF, 0x2F, 0]


def number(value, size):
    return [(value >> (8 * (size - 1 - place))) & 255 for place in range(size)]


def long_number(value):
    parts = [value & 127]
    while value >= 128:
        value >>= 7
        parts.insert(0, 128 + (value & 127))
    return parts


def header(kind=0, tracks=1, quarter=96):
    return list(b"MThd") + number(6, 4) + number(kind, 2) + number(tracks, 2) + number(quarter, 2)


def chunk(body):
    return list(b"MTrk") + number(len(body), 4) + body


def track(*events):
    """A track of these events, each with its ticks before it, and an end of track at once behind."""
    return chunk(sum(events, []) + END)


def song(*tracks, kind=None, quarter=96):
    if kind is None:
        kind = 0 if len(tracks) == 1 else 1
    return header(kind, len(tracks), quarter) + sum(tracks, [])


def load(file):
    return [1, len(file)] + file


def event(k):
    return [2, k]


def taken_apart(told):
    rows = []
    place = 0
    while place < len(told):
        end = place + 1 + told[place]
        rows.append(told[place + 1:end])
        place = end
    return rows


def ask(*calls):
    """What each of the calls answers, made one behind another on one object."""
    return taken_apart(answers(sum(calls, [])))


def loaded(file):
    """The number that load of the file answers."""
    (row,) = ask(load(file))
    (answer,) = row
    return answer


def loaded_track(body):
    """The number that load answers of a song whose only track has these bytes."""
    return loaded(song(chunk(body)))


def events_of(file, count):
    """The answers of event from 0 on, asked in lists of at most 100 calls."""
    rows = []
    for start in range(0, count, 99):
        calls = [event(k) for k in range(start, min(start + 99, count))]
        rows.extend(ask(load(file), *calls)[1:])
    return rows

"""A stretch of a song's samples: its notes put together, on the left and on the right."""

from songsamples.loudness import fade_size, loud_row
from songsamples.waves import SHAPES, wave_row

FIRST_VOLUME = 100
FIRST_SIDE = 64
MOST_SIDE = 127

SUM_PART = 0x100000000
LEAST_SAMPLE = -32768
MOST_SAMPLE = 32767


# The samples from first to stop, stop left out, at a rate.
class Stretch:
    def __init__(self, rate, first, stop):
        self.rate = rate
        self.first = first
        self.stop = stop

    def size(self):
        return self.stop - self.first


# What is heard of notes at a rate: begin, end and silent are samples, and from silent on there's nothing.
class Voice:
    def __init__(self, note, begin, end, silent):
        self.channel = note.channel
        self.key = note.key
        self.shape = note.program % SHAPES
        self.begin = begin
        self.end = end
        self.silent = silent
        self.hard = 0

    def likeness(self):
        return (self.channel, self.key, self.shape, self.begin, self.end)


def mixed_samples(song, rate, first, n):
    stretch = Stretch(rate, first, first + n)
    lefts = [0] * n
    rights = [0] * n
    rows = channel_rows(voices_of(song, stretch), stretch)
    for channel, row in rows.items():
        volumes = setting_row(song.timeline, song.score.volumes[channel], FIRST_VOLUME, stretch)
        sides = setting_row(song.timeline, song.score.sides[channel], FIRST_SIDE, stretch)
        loud = [value * volume for value, volume in zip(row, volumes)]
        lefts = [left + value * (MOST_SIDE - side) for left, value, side in zip(lefts, loud, sides)]
        rights = [right + value * side for right, value, side in zip(rights, loud, sides)]
    return side_by_side(lefts, rights)


def side_by_side(lefts, rights):
    told = []
    for left, right in zip(lefts, rights):
        told.append(kept_sample(left))
        told.append(kept_sample(right))
    return told


def kept_sample(value):
    return max(LEAST_SAMPLE, min(MOST_SAMPLE, value // SUM_PART))


# Notes that differ in nothing but how hard they are make one voice: a file may begin thousands at one sample.
def voices_of(song, stretch):
    voices = {}
    for note in song.score.notes:
        begin = song.timeline.sample_of(note.begin, stretch.rate)
        if begin >= stretch.stop:
            break
        end = song.timeline.sample_of(note.end, stretch.rate)
        silent = end + fade_size(end - begin, stretch.rate)
        if silent > stretch.first:
            fresh = Voice(note, begin, end, silent)
            voice = voices.setdefault(fresh.likeness(), fresh)
            voice.hard = voice.hard + note.hard
    return list(voices.values())


# By channel, for those that are heard: of each sample how hard times how loud times the wave, put together.
def channel_rows(voices, stretch):
    rows = {}
    for voice in voices:
        row = rows.get(voice.channel, [0] * stretch.size())
        rows[voice.channel] = row_with_voice(row, voice, stretch)
    return rows


def row_with_voice(row, voice, stretch):
    start = max(voice.begin - stretch.first, 0)
    stop = min(voice.silent - stretch.first, stretch.size())
    age = stretch.first - voice.begin
    louds = loud_row(age + start, age + stop, voice.end - voice.begin, stretch.rate)
    waves = wave_row(voice.channel, voice.key, voice.shape, stretch.rate, age + start, age + stop)
    hard = voice.hard
    mixed = [value + hard * loud * wave for value, loud, wave in zip(row[start:stop], louds, waves)]
    return row[:start] + mixed + row[stop:]


# What a controller is at each sample of the stretch; a list times a number below 0 has nothing.
def setting_row(timeline, settings, value, stretch):
    row = []
    for setting in settings:
        sample = timeline.sample_of(setting.total, stretch.rate)
        if sample >= stretch.stop:
            break
        row.extend([value] * (sample - stretch.first - len(row)))
        value = setting.value
    row.extend([value] * (stretch.size() - len(row)))
    return row

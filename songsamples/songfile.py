"""A song's file: what load keeps of it, or why there's no song."""

from songsamples.bytereader import BrokenTracks, number_of
from songsamples.score import play
from songsamples.timeline import Timeline
from songsamples.tracks import read_tracks

HEADER_MARK = (0x4D, 0x54, 0x68, 0x64, 0, 0, 0, 6)
HEADER_SIZE = 14
MOST_TRACKS = 64
QUARTER_LIMIT = 32768
MOST_EVENTS = 32768

NO_HEADER = -1
WRONG_TRACK_COUNT = -2
WRONG_QUARTER = -3
WRONG_TRACKS = -4
TOO_MANY_EVENTS = -5


# The quarter is how many ticks it has; the events stand in the order of their numbers.
class Song:
    def __init__(self, quarter, events):
        self.events = events
        self.timeline = Timeline(quarter, events)
        self.score = play(events, self.timeline)

    def last_tick(self):
        return self.events[-1].tick


# Gives the number that load answers, and the song, or None where that number is a refusal.
def read_song(file):
    refusal = header_refusal(file)
    if refusal is not None:
        return (refusal, None)
    try:
        events = read_tracks(file, HEADER_SIZE, number_of(file[10:12]))
    except BrokenTracks:
        return (WRONG_TRACKS, None)
    if len(events) > MOST_EVENTS:
        return (TOO_MANY_EVENTS, None)
    return (len(events), Song(number_of(file[12:14]), in_order(events)))


def header_refusal(file):
    if len(file) < HEADER_SIZE or tuple(file[0:8]) != HEADER_MARK:
        return NO_HEADER
    if not is_track_count(number_of(file[8:10]), number_of(file[10:12])):
        return WRONG_TRACK_COUNT
    quarter = number_of(file[12:14])
    if quarter == 0 or quarter >= QUARTER_LIMIT:
        return WRONG_QUARTER
    return None


def is_track_count(kind, count):
    if kind == 0:
        return count == 1
    return kind == 1 and 1 <= count <= MOST_TRACKS


# The events come track by track, and sorted leaves those of one tick as they came.
def in_order(events):
    return sorted(events, key=tick_of)


def tick_of(found):
    return found.tick

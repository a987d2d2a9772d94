"""The calls on one new object, one behind another, and what each of them answers."""

from songsamples.mixer import mixed_samples
from songsamples.songfile import read_song

BEGIN = 0
LOAD = 1
EVENT = 2
TIME = 3
LENGTH = 4

# How many numbers stand behind each call's own; of load the file's size alone is counted here.
NUMBERS_BEHIND = (0, 1, 1, 1, 1, 3)

MOST_BYTES = 262144
LEAST_RATE = 8000
MOST_RATE = 48000
SAMPLE_LIMIT = 0x80000000
MOST_SAMPLES = 4096

NO_SUCH_EVENT = -1
TOO_LONG = -7
OUT_OF_RANGE = -8
NO_SONG = -9


# What the object keeps from one call to the next; None stands for no song.
class Keeper:
    def __init__(self):
        self.song = None


def answers(calls):
    keeper = Keeper()
    told = []
    place = 0
    while place < len(calls):
        end = end_of_call(calls, place)
        answer = answer_call(keeper, calls[place], calls[place + 1:end])
        told.append(len(answer))
        told.extend(answer)
        place = end
    return told


# Behind a size that is out of range no file stands.
def end_of_call(calls, place):
    call = calls[place]
    end = place + 1 + NUMBERS_BEHIND[call]
    if call == LOAD and is_file_size(calls[place + 1]):
        return end + calls[place + 1]
    return end


def is_file_size(size):
    return 0 <= size <= MOST_BYTES


def answer_call(keeper, call, numbers):
    if call == BEGIN:
        return answer_begin(keeper)
    if call == LOAD:
        return answer_load(keeper, numbers[0], numbers[1:])
    if keeper.song is None:
        return [NO_SONG]
    if call == EVENT:
        return answer_event(keeper.song, numbers[0])
    if call == TIME:
        return answer_time(keeper.song, numbers[0])
    if call == LENGTH:
        return answer_length(keeper.song, numbers[0])
    return answer_render(keeper.song, numbers[0], numbers[1], numbers[2])


def answer_begin(keeper):
    keeper.song = None
    return [0]


def answer_load(keeper, size, file):
    if not is_file_size(size):
        return [OUT_OF_RANGE]
    result = read_song(file)
    keeper.song = result[1]
    return [result[0]]


def answer_event(song, k):
    if k < 0:
        return [OUT_OF_RANGE]
    if k >= len(song.events):
        return [NO_SUCH_EVENT]
    found = song.events[k]
    first_two = (found.data[0:2] + [0, 0])[0:2]
    return [found.status, found.tick, found.track, len(found.data)] + first_two


def answer_time(song, tick):
    return [0, song.timeline.microseconds(tick)]


def answer_length(song, rate):
    if not is_rate(rate):
        return [OUT_OF_RANGE]
    sample = song.timeline.sample_of(song.timeline.total_before(song.last_tick()), rate)
    if sample >= SAMPLE_LIMIT:
        return [TOO_LONG]
    return [sample]


def answer_render(song, rate, first, n):
    if not is_rate(rate) or first < 0 or n < 0 or n > MOST_SAMPLES:
        return [OUT_OF_RANGE]
    return [n] + mixed_samples(song, rate, first, n)


def is_rate(rate):
    return LEAST_RATE <= rate <= MOST_RATE

"""The calls on one new object, one behind another, and what each of them answers."""

from songsamples.songfile import read_song

BEGIN = 0
LOAD = 1
EVENT = 2

# How many numbers stand behind each call's own; of load the file's size alone is counted here.
NUMBERS_BEHIND = (0, 1, 1, 1, 1, 3)

MOST_BYTES = 262144

NO_SUCH_EVENT = -1
OUT_OF_RANGE = -8
NO_SONG = -9


# What the object keeps from one call to the next; None stands for no song.
class Keeper:
    def __init__(self):
        self.song = None


def answers(calls):
    keeper = Keeper()
    told = []
    place = 0
    while place < len(calls):
        end = end_of_call(calls, place)
        answer = answer_call(keeper, calls[place], calls[place + 1:end])
        told.append(len(answer))
        told.extend(answer)
        place = end
    return told


# Behind a size that is out of range no file stands.
def end_of_call(calls, place):
    call = calls[place]
    end = place + 1 + NUMBERS_BEHIND[call]
    if call == LOAD and is_file_size(calls[place + 1]):
        return end + calls[place + 1]
    return end


def is_file_size(size):
    return 0 <= size <= MOST_BYTES


def answer_call(keeper, call, numbers):
    if call == BEGIN:
        return answer_begin(keeper)
    if call == LOAD:
        return answer_load(keeper, numbers[0], numbers[1:])
    if keeper.song is None:
        return [NO_SONG]
    if call == EVENT:
        return answer_event(keeper.song, numbers[0])
    raise NotImplementedError("time, length and render of a song are not there yet")


def answer_begin(keeper):
    keeper.song = None
    return [0]


def answer_load(keeper, size, file):
    if not is_file_size(size):
        return [OUT_OF_RANGE]
    result = read_song(file)
    keeper.song = result[1]
    return [result[0]]


def answer_event(song, k):
    if k < 0:
        return [OUT_OF_RANGE]
    if k >= len(song.events):
        return [NO_SUCH_EVENT]
    found = song.events[k]
    first_two = (found.data[0:2] + [0, 0])[0:2]
    return [found.status, found.tick, found.track, len(found.data)] + first_two

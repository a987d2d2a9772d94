"""A file's tracks: the chunks, and the events within each."""

from songsamples.bytereader import BrokenTracks, ByteReader, number_of

TRACK_MARK = (0x4D, 0x54, 0x72, 0x6B)
TICK_LIMIT = 0x80000000

FIRST_OTHER_STATUS = 0xF0
EXCLUSIVE = 0xF0
ESCAPE = 0xF7
META = 0xFF

END_OF_TRACK = 0x2F
TEMPO = 0x51
TEMPO_SIZE = 3


# The data are the bytes behind the status; of a meta event its kind is the first of them.
class Event:
    def __init__(self, tick, track, status, data):
        self.tick = tick
        self.track = track
        self.status = status
        self.data = data

    def is_message(self):
        return self.status < FIRST_OTHER_STATUS

    def is_end_of_track(self):
        return self.status == META and self.data[0] == END_OF_TRACK

    # The microseconds of a quarter that the event tells; None where it tells none.
    def told_tempo(self):
        if self.status == META and self.data[0] == TEMPO:
            return number_of(self.data[1:])
        return None


# The events stand track by track, in each as in the file.
def read_tracks(file, start, count):
    reader = ByteReader(file, start, len(file))
    events = []
    for track in range(count):
        events.extend(read_track(next_chunk(reader), track))
    if not reader.at_end():
        raise BrokenTracks()
    return events


def next_chunk(reader):
    if tuple(reader.take(4)) != TRACK_MARK:
        raise BrokenTracks()
    size = number_of(reader.take(4))
    start = reader.place
    reader.place = reader.end_behind(size)
    return ByteReader(reader.file, start, reader.place)


def read_track(reader, track):
    events = []
    tick = 0
    last_message = None
    ended = False
    while not ended:
        tick = tick + reader.long_number()
        if tick >= TICK_LIMIT:
            raise BrokenTracks()
        status = read_status(reader, last_message)
        found = Event(tick, track, status, read_data(reader, status))
        events.append(found)
        last_message = status if found.is_message() else None
        ended = found.is_end_of_track()
    if not reader.at_end():
        raise BrokenTracks()
    return events


# Where the status is left out, the byte in its place is the message's own and is not taken here.
def read_status(reader, last_message):
    if reader.peek() >= 128:
        return reader.next_byte()
    if last_message is None:
        raise BrokenTracks()
    return last_message


def read_data(reader, status):
    if status < FIRST_OTHER_STATUS:
        return read_message(reader, status)
    if status == META:
        return read_meta(reader)
    if status == EXCLUSIVE or status == ESCAPE:
        return reader.take(reader.long_number())
    raise BrokenTracks()


def read_message(reader, status):
    if 0xC0 <= status <= 0xDF:
        return [reader.low_byte()]
    first = reader.low_byte()
    return [first, reader.low_byte()]


def read_meta(reader):
    kind = reader.low_byte()
    data = reader.take(reader.long_number())
    if kind == END_OF_TRACK and len(data) != 0:
        raise BrokenTracks()
    if kind == TEMPO and not is_tempo(data):
        raise BrokenTracks()
    return [kind] + data


def is_tempo(data):
    return len(data) == TEMPO_SIZE and number_of(data) != 0

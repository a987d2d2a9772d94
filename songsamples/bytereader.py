"""Reading a stretch of a file's bytes strictly: whatever is missing or misshapen breaks the tracks."""

MOST_LONG_BYTES = 4


# Raised wherever a file's tracks aren't as the document says.
class BrokenTracks(Exception):
    pass


class ByteReader:
    # The end is the stretch's own, so that a track can't read on into what stands behind it.
    def __init__(self, file, place, end):
        self.file = file
        self.place = place
        self.end = end

    def at_end(self):
        return self.place == self.end

    def peek(self):
        if self.at_end():
            raise BrokenTracks()
        return self.file[self.place]

    def next_byte(self):
        value = self.peek()
        self.place = self.place + 1
        return value

    def low_byte(self):
        value = self.next_byte()
        if value >= 128:
            raise BrokenTracks()
        return value

    # The place where the next so many bytes end; a size in a file may be far more than the file has.
    def end_behind(self, size):
        if size > self.end - self.place:
            raise BrokenTracks()
        return self.place + size

    def take(self, size):
        start = self.place
        self.place = self.end_behind(size)
        return self.file[start:self.place]

    def long_number(self):
        value = 0
        for index in range(MOST_LONG_BYTES):
            part = self.next_byte()
            value = value * 128 + part % 128
            if part < 128:
                return value
        raise BrokenTracks()


# A number of a file has its high byte first.
def number_of(row):
    value = 0
    for part in row:
        value = value * 256 + part
    return value

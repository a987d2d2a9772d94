"""What a song plays: its notes, and how its controllers are set."""

CHANNELS = 16

END_NOTE = 0x8
BEGIN_NOTE = 0x9
CONTROLLER = 0xB
PROGRAM = 0xC

VOLUME = 7
SIDE = 10
ENDS_ALL = (120, 123)


# The begin and the end are totals of the timeline, so that a song is played once for all rates.
class Note:
    def __init__(self, channel, key, hard, program, begin):
        self.channel = channel
        self.key = key
        self.hard = hard
        self.program = program
        self.begin = begin
        self.end = None


class Setting:
    def __init__(self, total, value):
        self.total = total
        self.value = value


# Of each channel: its program, its notes that are held, by their keys, and how the two controllers are set.
class Score:
    def __init__(self):
        self.notes = []
        self.programs = [0] * CHANNELS
        self.held = [{} for channel in range(CHANNELS)]
        self.volumes = [[] for channel in range(CHANNELS)]
        self.sides = [[] for channel in range(CHANNELS)]

    def take_message(self, status, data, total):
        kind = status // 16
        channel = status % 16
        if kind == PROGRAM:
            self.programs[channel] = data[0]
        elif kind == CONTROLLER:
            self.take_controller(channel, data[0], Setting(total, data[1]))
        elif kind == BEGIN_NOTE and data[1] != 0:
            self.begin_note(channel, data[0], data[1], total)
        elif kind == BEGIN_NOTE or kind == END_NOTE:
            self.end_note(channel, data[0], total)

    def take_controller(self, channel, number, setting):
        if number == VOLUME:
            self.volumes[channel].append(setting)
        elif number == SIDE:
            self.sides[channel].append(setting)
        elif number in ENDS_ALL:
            self.end_channel(channel, setting.total)

    def begin_note(self, channel, key, hard, total):
        self.end_note(channel, key, total)
        note = Note(channel, key, hard, self.programs[channel], total)
        self.held[channel][key] = note
        self.notes.append(note)

    def end_note(self, channel, key, total):
        note = self.held[channel].pop(key, None)
        if note is not None:
            note.end = total

    def end_channel(self, channel, total):
        for key in list(self.held[channel]):
            self.end_note(channel, key, total)


# The notes stand as they begin, the settings of a controller as they are made.
def play(events, timeline):
    score = Score()
    for found in events:
        if found.is_message():
            score.take_message(found.status, found.data, timeline.total_before(found.tick))
    last = timeline.total_before(events[-1].tick)
    for channel in range(CHANNELS):
        score.end_channel(channel, last)
    return score

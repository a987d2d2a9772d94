"""When a tick is: the tempos of all ticks before it put together, and the time and the sample which they make."""

FIRST_TEMPO = 500000
MICROSECONDS = 1000000


# The tempo holds from the tick on; the total is what the tempos of all ticks before it are together.
class Mark:
    def __init__(self, tick, total, tempo):
        self.tick = tick
        self.total = total
        self.tempo = tempo

    def total_from_here(self, tick):
        return self.total + (tick - self.tick) * self.tempo


# Totals are handed about in the place of times: they are whole numbers at every tempo, quarter and rate.
class Timeline:
    def __init__(self, quarter, events):
        self.quarter = quarter
        self.marks = marks_of(events)

    def total_before(self, tick):
        mark = self.marks[last_place(self.marks, tick)]
        return mark.total_from_here(tick)

    def microseconds(self, tick):
        return self.total_before(tick) // self.quarter

    def sample_of(self, total, rate):
        return total * rate // (self.quarter * MICROSECONDS)


def marks_of(events):
    mark = Mark(0, 0, FIRST_TEMPO)
    marks = [mark]
    for found in events:
        tempo = found.told_tempo()
        if tempo is not None:
            mark = Mark(found.tick, mark.total_from_here(found.tick), tempo)
            marks.append(mark)
    return marks


# The last of several marks at one tick counts. The first mark is at 0, so there always is one.
def last_place(marks, tick):
    low = 0
    high = len(marks)
    while high - low > 1:
        middle = (low + high) // 2
        if marks[middle].tick <= tick:
            low = middle
        else:
            high = middle
    return low

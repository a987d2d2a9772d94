"""A note's wave, k samples behind its beginning."""

PITCHES = (
    548668578, 581294109, 615859655, 652480576, 691279090, 732384684,
    775934544, 822074013, 870957077, 922746880, 977616265, 1035748353,
)
# 2 to the power of 10 less the octave.
OCTAVES = (1024, 512, 256, 128, 64, 32, 16, 8, 4, 2, 1)

WHOLE = 0x100000000
LOW_32_BITS = 0xFFFFFFFF
HALF = 0x80000000
QUARTER = 0x40000000
PART = 65536

HIGH = 32767
LOW = -32768

SQUARE = 0
TRIANGLE = 1
SAW = 2
SHAPES = 4

NOISE_CHANNEL = 9
NOISE_FACTOR = 2654435761


def step_of(key, rate):
    return PITCHES[key % 12] * PART // (rate * OCTAVES[key // 12])


# For each k from start to stop, stop left out. The walk by steps spares a product and a division for every k.
def wave_row(channel, key, shape, rate, start, stop):
    if channel == NOISE_CHANNEL:
        return [(k * k + key) * NOISE_FACTOR % WHOLE // PART + LOW for k in range(start, stop)]
    step = step_of(key, rate)
    return shaped(shape, [p & LOW_32_BITS for p in range(start * step, stop * step, step)])


def shaped(shape, phases):
    if shape == SQUARE:
        return [HIGH if p < HALF else LOW for p in phases]
    if shape == TRIANGLE:
        return triangle([p // PART for p in phases])
    if shape == SAW:
        return [p // PART + LOW for p in phases]
    return [HIGH if p < QUARTER else LOW for p in phases]


def triangle(parts):
    return [2 * q - 32768 if q < 32768 else 98303 - 2 * q for q in parts]

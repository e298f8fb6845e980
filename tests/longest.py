"""For every call on lists: the longest that the document allows, with numbers of any size."""

import random

from helper import any_interval, any_number, joined, near_number

SOURCE = random.Random(99)


def numbers(count):
    return [any_number(SOURCE) for _ in range(count)]


# Numbers of any size, the least first, without their signs.
def rising(count):
    return sorted(number & ~(1 << 63) for number in numbers(count))


# A loop that doesn't cross itself, so that every two stretches must be looked
# at: rightwards below 0, and back above, by numbers of any size.
def long_simple_loop(count):
    there = rising(count // 2)
    back = rising(count - count // 2)[::-1]
    heights = numbers(count)
    below = [[x, y | 1 << 63] for x, y in zip(there, heights)]
    above = [[x, y & ~(1 << 63)] for x, y in zip(back, heights[::-1])]
    return [number for p in below + above for number in p]


def intervals(count):
    return [number for _ in range(count) for number in any_interval(SOURCE, any_number)]


def near_intervals(count):
    return [number for _ in range(count) for number in any_interval(SOURCE, near_number)]


# Without 0, all below it or all above.
def divisors(count):
    sign = SOURCE.getrandbits(1) << 63
    ends = [sorted(number & ~(1 << 63) or 1 for number in numbers(2)) for _ in range(count)]
    return [number | sign for pair in ends for number in (pair[::-1] if sign else pair)]


LONGEST = [
    ("turns", [numbers(1024), numbers(2)]),
    ("simple", [long_simple_loop(128)]),
    ("hull", [numbers(512)]),
    ("hull", [joined([(x * 1e150, x * x * 1e300) for x in range(-128, 128)])]),
    ("nearest", [3, numbers(3), numbers(12288)]),
    ("sum_of", [numbers(4096)]),
    ("dot", [numbers(4096), numbers(4096)]),
    ("norm", [numbers(4096)]),
    ("ratio", [numbers(4096), numbers(4096), numbers(4096), numbers(4096)]),
    ("parts", [[number & ~(1 << 62) for number in numbers(256)]]),
    ("det", [5, numbers(25)]),
    ("area", [numbers(1024)]),
    ("heart", [numbers(1024)]),
    ("mass", [numbers(12288), [SOURCE.randrange(4096) for _ in range(6144)]]),
    ("grid", [15, 0, numbers(4096)]),
    ("whole", [3, 0, rising(4096)]),
    ("number", [0, [SOURCE.getrandbits(64) for _ in range(4096)]]),
    ("pick", [2, numbers(4096), numbers(4096)]),
    ("rounded", [2, 0, numbers(4096), numbers(4096)]),
    ("rounded", [3, 0, numbers(4096), rising(4096)]),
    ("rounded", [4, 2, rising(4096), numbers(4096)]),
    ("both", [2, intervals(2048), intervals(2048)]),
    ("both", [3, intervals(2048), divisors(2048)]),
    ("both", [4, intervals(2048), intervals(2048)]),
    ("alone", [1, intervals(2048)]),
    ("alone", [3, rising(4096)]),
    ("alone", [4, divisors(2048)]),
    ("weigh", [intervals(2048), intervals(2048)]),
    ("rows", [16, intervals(256), intervals(16)]),
    ("powers", [intervals(64), near_intervals(1)]),
    ("powers", [near_intervals(64), near_intervals(1)]),
    ("middles", [intervals(2048)]),
    ("order", [intervals(2048), intervals(2048)]),
    ("newton", [8, intervals(8), intervals(8), intervals(64), numbers(64)]),
    ("newton", [8, near_intervals(8), near_intervals(8), near_intervals(64), [near_number(SOURCE) for _ in range(64)]]),
    ("heart3", [numbers(12288), [SOURCE.randrange(4096) for _ in range(6144)]]),
]

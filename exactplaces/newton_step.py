"""One step after Krawczyk: where in X may all the values vanish?"""

from exactplaces.intervals import middle_of
from exactplaces.intervals import narrowest
from exactplaces.intervals import order_of
from exactplaces.intervals import span_of
from exactplaces.intervals import sum_span
from exactplaces.intervals import weighed
from exactplaces.intervals import written
from exactplaces.telling import PLACES
from exactplaces.telling import PRODUCT_PLACES


# X less its middle.
def reach_of(interval, middle):
    return narrowest(sum_span(interval, (-middle, -middle)))


# Row i of C: 1 (in column i, else 0) less the factors times each column of J.
def remainder_row(place, factors, slopes):
    found = []
    for column in range(len(slopes)):
        ends = weighed(factors, [row[column] for row in slopes])
        one = (1 << PRODUCT_PLACES) if column == place else 0
        found.append(narrowest(span_of(one - ends[1], one - ends[0], PRODUCT_PLACES)))
    return found


def step_of(middle, shift, spread):
    start = middle << PLACES
    return narrowest(span_of(start - shift[1] + spread[0], start - shift[0] + spread[1], PRODUCT_PLACES))


def verdict(steps, boxes):
    pairs = list(zip(steps, boxes))
    if any([order_of(step, box) != 0 for step, box in pairs]):
        return -1
    if all([box[0] < step[0] and step[1] < box[1] for step, box in pairs]):
        return 1
    return 0


def newton_answer(boxes, values, slopes, square):
    middles = [middle_of(box) for box in boxes]
    reaches = [reach_of(box, middle) for box, middle in zip(boxes, middles)]
    steps = []
    for place, row in enumerate(square):
        factors = [(number, number) for number in row]
        remainders = remainder_row(place, factors, slopes)
        steps.append(step_of(middles[place], weighed(factors, values), weighed(remainders, reaches)))
    return [0, verdict(steps, boxes)] + written(steps)

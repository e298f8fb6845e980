"""Numbers rounded by a way that is asked."""

from exactplaces.telling import PLACES
from exactplaces.telling import cut
from exactplaces.telling import told


# Every multiple that is met is a number: a number that is no multiple itself
# lies so near to 0 that its neighbours among them have few bits.
def grid_answer(k, way, row):
    multiples = [cut(x, PLACES - k, way) << (PLACES - k) for x in row]
    left = [x - multiple for x, multiple in zip(row, multiples)]
    return told([(value, PLACES) for value in multiples + left])

"""The drawer and the calls on it."""

from nightsocks.dark import average_draws, average_pairs, chance_of, fewest_for, pairs_of

BEGIN = 0
SURELY = 1
COLOUR = 2
CHANCE = 3
AVERAGE = 4
UNTIL = 5
WEAR = 6

# How many whole numbers each call is handed, call by call; begin is handed a row instead.
HANDED = (0, 1, 1, 2, 1, 1, 1, 0, 0, 2, 2, 0, 0, 0)

TOO_MUCH = -1
NO_COLOUR = -2
NOT_THERE = -6
NO_DRAWER = -9

MOST_COLOURS = 5
MOST_OF_COLOUR = 8
MOST_SOCKS = 24
MOST_PAIRS = 12


# A call that the document tells and that isn't written yet.
class NotBuilt(Exception):
    pass


# How many socks of each colour are in the drawer, and how many are worn.
class Drawer:
    def __init__(self):
        self.there = False
        self.inside = []
        self.worn = []

    def fill(self, socks):
        self.there = True
        self.inside = list(socks)
        self.worn = [0] * len(socks)

    def has_colour(self, colour):
        return colour < len(self.inside)


def may_begin(socks):
    if len(socks) < 1 or len(socks) > MOST_COLOURS:
        return False
    return max(socks) <= MOST_OF_COLOUR and sum(socks) <= MOST_SOCKS


def begin(drawer, socks):
    if not may_begin(socks):
        return [TOO_MUCH]
    drawer.fill(socks)
    return [0]


def tell_surely(drawer, pairs):
    if pairs > MOST_PAIRS:
        return [TOO_MUCH]
    if pairs > pairs_of(drawer.inside):
        return [NOT_THERE]
    return [fewest_for(drawer.inside, pairs)]


def tell_colour(drawer, colour):
    if not drawer.has_colour(colour):
        return [NO_COLOUR]
    if drawer.inside[colour] < 2:
        return [NOT_THERE]
    # At worst all socks of the other colours come first.
    return [sum(drawer.inside) - drawer.inside[colour] + 2]


def tell_chance(drawer, socks, pairs):
    if pairs > MOST_PAIRS or socks > sum(drawer.inside):
        return [TOO_MUCH]
    return chance_of(drawer.inside, socks, pairs)


def tell_average(drawer, socks):
    if socks > sum(drawer.inside):
        return [TOO_MUCH]
    return average_pairs(drawer.inside, socks)


def tell_until(drawer, pairs):
    if pairs > MOST_PAIRS:
        return [TOO_MUCH]
    if pairs > pairs_of(drawer.inside):
        return [NOT_THERE]
    return average_draws(drawer.inside, pairs)


def wear(drawer, colour):
    if not drawer.has_colour(colour):
        return [NO_COLOUR]
    if drawer.inside[colour] < 2:
        return [NOT_THERE]
    drawer.inside[colour] -= 2
    drawer.worn[colour] += 2
    return [drawer.inside[colour]]


def answer_call(drawer, number, handed):
    if number == BEGIN:
        return begin(drawer, handed)
    if not drawer.there:
        return [NO_DRAWER]
    if number == SURELY:
        return tell_surely(drawer, handed[0])
    if number == COLOUR:
        return tell_colour(drawer, handed[0])
    if number == CHANCE:
        return tell_chance(drawer, handed[0], handed[1])
    if number == AVERAGE:
        return tell_average(drawer, handed[0])
    if number == UNTIL:
        return tell_until(drawer, handed[0])
    if number == WEAR:
        return wear(drawer, handed[0])
    raise NotBuilt(f"call {number}")


# The calls one by one: each its number, and a list of what it is handed.
def split_calls(calls):
    parted = []
    at = 0
    while at < len(calls):
        number = calls[at]
        start = at + 1
        size = HANDED[number]
        if number == BEGIN:
            start = at + 2
            size = calls[at + 1]
        parted.append((number, calls[start:start + size]))
        at = start + size
    return parted


# For each call, in order: how many numbers it answers, then these.
def answers(calls):
    drawer = Drawer()
    told = []
    for number, handed in split_calls(calls):
        answer = answer_call(drawer, number, handed)
        told.append(len(answer))
        told.extend(answer)
    return told

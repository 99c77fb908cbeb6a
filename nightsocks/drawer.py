"""The drawer and the calls on it."""

from nightsocks.dark import average_draws, average_pairs, chance_of, fewest_for, pairs_of

BEGIN = 0
SURELY = 1
COLOUR = 2
CHANCE = 3
AVERAGE = 4
UNTIL = 5
WEAR = 6
UNDRESS = 7
WASH = 8
LOSE = 9
BUY = 10
ODD = 11
MEND = 12

# How many whole numbers each call is handed, call by call; begin is handed a row instead.
HANDED = (0, 1, 1, 2, 1, 1, 1, 0, 0, 2, 2, 0, 0, 0)

NOT_GRANTED = -1
NO_COLOUR = -2
NOT_THERE = -6
NO_DRAWER = -9

MOST_COLOURS = 5
MOST_OF_COLOUR = 8
MOST_SOCKS = 24
MOST_PAIRS = 12


def add_rows(one, other):
    return [count + more for count, more in zip(one, other)]


# Each row has a number for each colour. Lost socks are counted by themselves: they take no room any more.
class Drawer:
    def __init__(self):
        self.there = False
        self.inside = []
        self.worn = []
        self.washing = []
        self.lost = []
        self.come = []

    def fill(self, socks):
        self.there = True
        self.inside = list(socks)
        self.worn = [0] * len(socks)
        self.washing = [0] * len(socks)
        self.lost = [0] * len(socks)
        self.come = list(socks)

    def has_colour(self, colour):
        return colour < len(self.inside)

    # In the order in which the document numbers the places.
    def places(self):
        return [self.inside, self.worn, self.washing]

    def not_lost(self):
        return add_rows(add_rows(self.inside, self.worn), self.washing)

    def bring(self, colour, n):
        self.inside[colour] += n
        self.come[colour] += n


def may_begin(socks):
    if len(socks) < 1 or len(socks) > MOST_COLOURS:
        return False
    return max(socks) <= MOST_OF_COLOUR and sum(socks) <= MOST_SOCKS


def begin(drawer, socks):
    if not may_begin(socks):
        return [NOT_GRANTED]
    drawer.fill(socks)
    return [0]


def tell_surely(drawer, pairs):
    if pairs > MOST_PAIRS:
        return [NOT_GRANTED]
    if pairs > pairs_of(drawer.inside):
        return [NOT_THERE]
    return [fewest_for(drawer.inside, pairs)]


def tell_colour(drawer, colour):
    if not drawer.has_colour(colour):
        return [NO_COLOUR]
    if drawer.inside[colour] < 2:
        return [NOT_THERE]
    # At worst all socks of the other colours come first.
    return [sum(drawer.inside) - drawer.inside[colour] + 2]


def tell_chance(drawer, socks, pairs):
    if pairs > MOST_PAIRS or socks > sum(drawer.inside):
        return [NOT_GRANTED]
    return chance_of(drawer.inside, socks, pairs)


def tell_average(drawer, socks):
    if socks > sum(drawer.inside):
        return [NOT_GRANTED]
    return average_pairs(drawer.inside, socks)


def tell_until(drawer, pairs):
    if pairs > MOST_PAIRS:
        return [NOT_GRANTED]
    if pairs > pairs_of(drawer.inside):
        return [NOT_THERE]
    return average_draws(drawer.inside, pairs)


def wear(drawer, colour):
    if not drawer.has_colour(colour):
        return [NO_COLOUR]
    if drawer.inside[colour] < 2:
        return [NOT_THERE]
    drawer.inside[colour] -= 2
    drawer.worn[colour] += 2
    return [drawer.inside[colour]]


def undress(drawer):
    moved = sum(drawer.worn)
    drawer.washing = add_rows(drawer.washing, drawer.worn)
    drawer.worn = [0] * len(drawer.worn)
    return [moved]


def wash(drawer):
    moved = sum(drawer.washing)
    drawer.inside = add_rows(drawer.inside, drawer.washing)
    drawer.washing = [0] * len(drawer.washing)
    return [moved]


def lose(drawer, place, colour):
    places = drawer.places()
    if place >= len(places):
        return [NOT_GRANTED]
    if not drawer.has_colour(colour):
        return [NO_COLOUR]
    row = places[place]
    if row[colour] < 1:
        return [NOT_THERE]
    row[colour] -= 1
    drawer.lost[colour] += 1
    return [row[colour]]


def buy(drawer, colour, n):
    if not drawer.has_colour(colour):
        return [NO_COLOUR]
    counts = drawer.not_lost()
    if n < 1 or counts[colour] + n > MOST_OF_COLOUR or sum(counts) + n > MOST_SOCKS:
        return [NOT_GRANTED]
    drawer.bring(colour, n)
    return [drawer.inside[colour]]


def odd_colours(drawer):
    return [colour for colour, count in enumerate(drawer.not_lost()) if count % 2 == 1]


def tell_odd(drawer):
    colours = odd_colours(drawer)
    return [len(colours)] + colours


def mend(drawer):
    colours = odd_colours(drawer)
    # No colour can grow beyond its most here: that is an even number.
    if sum(drawer.not_lost()) + len(colours) > MOST_SOCKS:
        return [NOT_GRANTED]
    for colour in colours:
        drawer.bring(colour, 1)
    return [len(colours)]


def tell_look(drawer):
    return drawer.inside + drawer.worn + drawer.washing + drawer.lost + drawer.come


def answer_call(drawer, number, handed):
    if number == BEGIN:
        return begin(drawer, handed)
    if not drawer.there:
        return [NO_DRAWER]
    if number == SURELY:
        return tell_surely(drawer, handed[0])
    if number == COLOUR:
        return tell_colour(drawer, handed[0])
    if number == CHANCE:
        return tell_chance(drawer, handed[0], handed[1])
    if number == AVERAGE:
        return tell_average(drawer, handed[0])
    if number == UNTIL:
        return tell_until(drawer, handed[0])
    if number == WEAR:
        return wear(drawer, handed[0])
    if number == UNDRESS:
        return undress(drawer)
    if number == WASH:
        return wash(drawer)
    if number == LOSE:
        return lose(drawer, handed[0], handed[1])
    if number == BUY:
        return buy(drawer, handed[0], handed[1])
    if number == ODD:
        return tell_odd(drawer)
    if number == MEND:
        return mend(drawer)
    # No other call is left than look.
    return tell_look(drawer)


# The calls one by one: each its number, and a list of what it is handed.
def split_calls(calls):
    parted = []
    at = 0
    while at < len(calls):
        number = calls[at]
        start = at + 1
        size = HANDED[number]
        if number == BEGIN:
            start = at + 2
            size = calls[at + 1]
        parted.append((number, calls[start:start + size]))
        at = start + size
    return parted


# For each call, in order: how many numbers it answers, then these.
def answers(calls):
    drawer = Drawer()
    told = []
    for number, handed in split_calls(calls):
        answer = answer_call(drawer, number, handed)
        told.append(len(answer))
        told.extend(answer)
    return told

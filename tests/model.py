"""A second drawer, kept sock by sock: each is a colour and where it is. It takes the calls that calls.py writes."""

from in_the_dark import draws_till, pairs_of, spread, told_as

INSIDE, WORN, WASHING, LOST = range(4)


class Model:
    def __init__(self):
        self.colours = None
        self.socks = []

    def count(self, colour, *places):
        return sum(1 for sock in self.socks if sock[0] == colour and sock[1] in places)

    def inside(self):
        return tuple(self.count(colour, INSIDE) for colour in range(self.colours))

    def heap(self):
        """What's inside, whichever colours these are: so drawers that are alike are counted once."""
        return tuple(sorted(count for count in self.inside() if count > 0))

    def spread(self, size):
        heap = self.heap()
        return spread(heap, (0,) * len(heap), size)

    def not_lost(self):
        return [self.count(colour, INSIDE, WORN, WASHING) for colour in range(self.colours)]

    def move(self, colour, place, then, size=1):
        for sock in [sock for sock in self.socks if sock == [colour, place]][:size]:
            sock[1] = then

    def move_all(self, place, then):
        moved = [sock for sock in self.socks if sock[1] == place]
        for sock in moved:
            sock[1] = then
        return [len(moved)]

    def answer(self, call):
        names = ["begin", "surely", "colour", "chance", "average", "until", "wear", "undress", "wash", "lose", "buy",
                 "odd", "mend", "look"]
        name = names[call[0]]
        if name == "begin":
            return self.begin(call[2:])
        if self.colours is None:
            return [-9]
        return getattr(self, name)(*call[1:])

    def begin(self, socks):
        if not 1 <= len(socks) <= 5 or any(count > 8 for count in socks) or sum(socks) > 24:
            return [-1]
        self.colours = len(socks)
        self.socks = [[colour, INSIDE] for colour, count in enumerate(socks) for number in range(count)]
        return [0]

    def surely(self, pairs):
        if pairs > 12:
            return [-1]
        for size in range(sum(self.inside()) + 1):
            if min(self.spread(size)) >= pairs:
                return [size]
        return [-6]

    def colour(self, colour):
        if colour >= self.colours:
            return [-2]
        inside = self.inside()
        if inside[colour] < 2:
            return [-6]
        return [2 + sum(count for other, count in enumerate(inside) if other != colour)]

    def chance(self, socks, pairs):
        if pairs > 12 or socks > sum(self.inside()):
            return [-1]
        return told_as(sum(likely for number, likely in self.spread(socks).items() if number >= pairs))

    def average(self, socks):
        if socks > sum(self.inside()):
            return [-1]
        return told_as(sum(number * likely for number, likely in self.spread(socks).items()))

    def until(self, pairs):
        if pairs > 12:
            return [-1]
        if pairs_of(self.inside()) < pairs:
            return [-6]
        heap = self.heap()
        return told_as(draws_till(heap, (0,) * len(heap), pairs))

    def wear(self, colour):
        if colour >= self.colours:
            return [-2]
        if self.count(colour, INSIDE) < 2:
            return [-6]
        self.move(colour, INSIDE, WORN, 2)
        return [self.count(colour, INSIDE)]

    def undress(self):
        return self.move_all(WORN, WASHING)

    def wash(self):
        return self.move_all(WASHING, INSIDE)

    def lose(self, place, colour):
        if place not in (INSIDE, WORN, WASHING):
            return [-1]
        if colour >= self.colours:
            return [-2]
        if self.count(colour, place) == 0:
            return [-6]
        self.move(colour, place, LOST)
        return [self.count(colour, place)]

    def buy(self, colour, n):
        if colour >= self.colours:
            return [-2]
        if n == 0 or self.not_lost()[colour] + n > 8 or sum(self.not_lost()) + n > 24:
            return [-1]
        self.socks += [[colour, INSIDE] for number in range(n)]
        return [self.count(colour, INSIDE)]

    def odd_ones(self):
        return [colour for colour, count in enumerate(self.not_lost()) if count in (1, 3, 5, 7)]

    def odd(self):
        return [len(self.odd_ones())] + self.odd_ones()

    def mend(self):
        odd_ones = self.odd_ones()
        if sum(self.not_lost()) + len(odd_ones) > 24:
            return [-1]
        self.socks += [[colour, INSIDE] for colour in odd_ones]
        return [len(odd_ones)]

    def look(self):
        places = [(INSIDE,), (WORN,), (WASHING,), (LOST,), (INSIDE, WORN, WASHING, LOST)]
        return [self.count(colour, *place) for place in places for colour in range(self.colours)]


def answers_of_model(calls):
    model = Model()
    return [model.answer(call) for call in calls]

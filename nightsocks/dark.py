"""Drawing in the dark: how socks can come out of the drawer, and fractions.

A drawer is here a list: how many socks of each colour are in it. All is counted over draws whose order
doesn't matter: each choice of so many socks is as likely as any other. A fraction is a list of two: what's
divided, by what, in lowest terms.
"""


def pairs_of(inside):
    return sum([count // 2 for count in inside])


def choices(count, taken):
    ways = 1
    for done in range(taken):
        # This order of steps never leaves a rest: ways is the answer for done + 1 each time.
        ways = ways * (count - done) // (done + 1)
    return ways


def empty_table(rows, width):
    return [[0] * width for row in range(rows)]


# The table of draw_table, with count socks of one more colour in the drawer.
def with_colour(ways, count):
    width = len(ways[0])
    wider = empty_table(len(ways) + count, width + count // 2)
    for taken in range(count + 1):
        factor = choices(count, taken)
        for socks in range(len(ways)):
            for pairs in range(width):
                wider[socks + taken][pairs + taken // 2] += ways[socks][pairs] * factor
    return wider


# Row k, place p: in how many ways k socks that are p pairs can be drawn.
def draw_table(inside):
    ways = [[1]]
    for count in inside:
        ways = with_colour(ways, count)
    return ways


def common_divisor(one, other):
    while other > 0:
        rest = one % other
        one = other
        other = rest
    return one


def fraction(divided, by):
    divisor = common_divisor(divided, by)
    return [divided // divisor, by // divisor]


def add_fractions(one, other):
    return fraction(one[0] * other[1] + other[0] * one[1], one[1] * other[1])


# All that are inside must be so many pairs: else no row would end the loop.
def fewest_for(inside, pairs):
    ways = draw_table(inside)
    socks = 0
    while sum(ways[socks][:pairs]) > 0:
        socks += 1
    return socks


def chance_of(inside, socks, pairs):
    row = draw_table(inside)[socks]
    return fraction(sum(row[pairs:]), sum(row))


def average_pairs(inside, socks):
    row = draw_table(inside)[socks]
    return fraction(sum([pairs * ways for pairs, ways in enumerate(row)]), sum(row))


# All that are inside must be so many pairs: else one would draw without end.
def average_draws(inside, pairs):
    total = [0, 1]
    for row in draw_table(inside):
        # One more sock is drawn just when those drawn so far don't do; so these chances add up to the average.
        total = add_fractions(total, fraction(sum(row[:pairs]), sum(row)))
    return total

"""Ways: a voicing for each chord; how many ways there are, what they cost and which is the best."""

from voicesled.faults import UPPER_VOICES, faults_between

BARRING_COST = 1000


class Terms:
    """What a way costs: the cost of each rule, what a half tone costs, and beyond how many steps a voice leaps."""

    def __init__(self, costs, move, leap):
        self.costs = costs
        self.move = move
        self.leap = leap


class Rest:
    """The ways from one sounding on to the bass's end: how many, the least cost, how many cost so.

    onward is the next rest on the first way of the least cost. Ahead of the first chord and behind
    the last there is no sounding, but None.
    """

    def __init__(self, sounding):
        self.sounding = sounding
        self.total = 0
        self.least = 0
        self.cheapest = 0
        self.onward = None

    def take_in(self, rest, price):
        """Add the ways that go on with a rest of the next chord, at this price."""
        cost = price + rest.least
        # Only a lesser cost takes the place of an earlier rest: of alike ways the first is told.
        if self.total == 0 or cost < self.least:
            self.least = cost
            self.cheapest = 0
            self.onward = rest
        if cost == self.least:
            self.cheapest += rest.cheapest
        self.total += rest.total


def price_between(before, after, terms):
    """What it costs to go from one sounding to the next, or None if that is barred."""
    if before is None or after is None:
        return 0
    half_tones = sum([abs(after.heights[voice] - before.heights[voice]) for voice in UPPER_VOICES])
    price = half_tones * terms.move
    for fault in faults_between(before, after, terms.leap):
        cost = terms.costs[fault[0] - 1]
        if cost == BARRING_COST:
            return None
        price += cost
    return price


def end_of_bass():
    """The rest behind the last chord: there is one way to end."""
    rest = Rest(None)
    rest.total = 1
    rest.cheapest = 1
    return rest


def rest_from(sounding, followers, terms):
    """The rest from a sounding on, out of the next chord's rests."""
    rest = Rest(sounding)
    for follower in followers:
        if follower.total > 0:
            price = price_between(sounding, follower.sounding, terms)
            if price is not None:
                rest.take_in(follower, price)
    return rest


def all_ways(chords, terms):
    """The rest ahead of the first chord, out of each chord's soundings in order."""
    rests = [end_of_bass()]
    for soundings in reversed(chords):
        rests = [rest_from(sounding, rests, terms) for sounding in soundings]
    return rest_from(None, rests, terms)


def first_cheapest(whole):
    """The voicings of the first way of the least cost, chord by chord."""
    found = []
    rest = whole.onward
    while rest is not None and rest.sounding is not None:
        found.append(rest.sounding.voicing)
        rest = rest.onward
    return found

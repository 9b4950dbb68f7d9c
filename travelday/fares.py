"""Fares: zones and how they border, products, and the cheapest tickets for some rides."""

from travelday.timetable import MINUTES_OF_DAY

MOST_ZONES = 8
MOST_PRODUCTS = 8
MOST_PRICE = 1000000
MOST_MINUTES = 1000000
MOST_PERSONS = 9


# A set of zones or of rides is a number, in which member i counts as the bit i.
def members(numbers):
    return [i for i in range(numbers.bit_length()) if (numbers >> i) & 1 == 1]


def member_count(numbers):
    return len(members(numbers))


def has_all(numbers, wanted):
    return (numbers & wanted) == wanted


# Of the two kinds of zones one is told: any so many at most, or else the very zones (any_zones is None then).
class Product:

    def __init__(self, any_zones, zones, price, minutes, begin, end):
        self.any_zones = any_zones
        self.zones = zones
        self.price = price
        self.minutes = minutes
        self.begin = begin
        self.end = end

    def is_good(self, goes, comes, zones, hull):
        minute = goes % MINUTES_OF_DAY
        if comes > goes + self.minutes or minute < self.begin or minute >= self.end:
            return False
        if self.any_zones is None:
            return has_all(self.zones, zones)
        return hull is not None and hull <= self.any_zones


class Ride:

    def __init__(self, goes, comes, zones):
        self.goes = goes
        self.comes = comes
        self.zones = zones


# The cheapest single ticket for a set of rides: how many products cost so little, and the least of them.
class Offer:

    def __init__(self, price, ways, product):
        self.price = price
        self.ways = ways
        self.product = product


# The cheapest tickets for a set of rides: how many ways cost so little, and the tickets of the earliest.
class Purchase:

    def __init__(self, price, ways, tickets):
        self.price = price
        self.ways = ways
        self.tickets = tickets


def are_terms_right(price, minutes, persons, begin, end):
    if price > MOST_PRICE or minutes < 1 or minutes > MOST_MINUTES:
        return False
    if persons < 1 or persons > MOST_PERSONS:
        return False
    return begin < end and end <= MINUTES_OF_DAY


class Fares:

    def __init__(self, zones):
        self.zones = zones
        self.borders = [0 for zone in range(zones)]
        self.products = []

    def add_border(self, i, j):
        if i >= self.zones or j >= self.zones:
            return -2
        if i == j or (self.borders[i] >> j) & 1 == 1:
            return -3
        self.borders[i] |= 1 << j
        self.borders[j] |= 1 << i
        return 0

    # terms: price, minutes, persons, from, up to
    def add_any_product(self, any_zones, terms):
        if any_zones < 1 or any_zones > MOST_ZONES:
            return -1
        return self.add_product(any_zones, 0, terms)

    def add_told_product(self, told, terms):
        if len(told) == 0:
            return -1
        zones = 0
        for zone in told:
            if zone >= self.zones:
                return -1
            zones |= 1 << zone
        return self.add_product(None, zones, terms)

    # Every product is good for one person at least, so persons are looked at here alone.
    def add_product(self, any_zones, zones, terms):
        if not are_terms_right(terms[0], terms[1], terms[2], terms[3], terms[4]):
            return -1
        if len(self.products) >= MOST_PRODUCTS:
            return -5
        self.products.append(Product(any_zones, zones, terms[0], terms[1], terms[3], terms[4]))
        return len(self.products) - 1

    def hangs_together(self, zones):
        reached = [members(zones)[0]]
        seen = 1 << reached[0]
        while len(reached) > 0:
            fresh = self.borders[reached.pop()] & zones & ~seen
            reached.extend(members(fresh))
            seen |= fresh
        return seen == zones

    # Smaller sets first, so that the first one that has some zones tells their hull.
    def joined_sets(self):
        joined = [zones for zones in range(1, 1 << self.zones) if self.hangs_together(zones)]
        return sorted(joined, key=member_count)

    def offer_for(self, rides, joined):
        goes = min([ride.goes for ride in rides])
        comes = max([ride.comes for ride in rides])
        zones = 0
        for ride in rides:
            zones |= ride.zones
        hull = hull_of(zones, joined)
        offer = None
        for number, product in enumerate(self.products):
            if not product.is_good(goes, comes, zones, hull):
                continue
            if offer is None or product.price < offer.price:
                offer = Offer(product.price, 1, number)
            elif product.price == offer.price:
                offer.ways += 1
        return offer

    # Gives back None if there are no such tickets.
    def cheapest(self, rides):
        joined = self.joined_sets()
        offers = [None]
        purchases = [Purchase(0, 1, [])]
        for wanted in range(1, 1 << len(rides)):
            offers.append(self.offer_for([rides[i] for i in members(wanted)], joined))
            purchases.append(cheapest_purchase(wanted, offers, purchases))
        return purchases[-1]


def hull_of(zones, joined):
    for zones_joined in joined:
        if has_all(zones_joined, zones):
            return member_count(zones_joined)
    return None


# The first ticket has the first of the wanted rides; what it leaves is a smaller set, bought already.
# Sets are tried from the least on, so the first that is found at a price is the earliest.
def cheapest_purchase(wanted, offers, purchases):
    first = 1 << members(wanted)[0]
    best = None
    for chosen in range(first, wanted + 1):
        if not has_all(wanted, chosen) or not has_all(chosen, first):
            continue
        offer = offers[chosen]
        others = purchases[wanted ^ chosen]
        if offer is None or others is None:
            continue
        price = offer.price + others.price
        ways = offer.ways * others.ways
        if best is None or price < best.price:
            best = Purchase(price, ways, [[offer.product] + members(chosen)] + others.tickets)
        elif price == best.price:
            best.ways += ways
    return best

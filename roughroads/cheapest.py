"""Stage 22: the cheapest roads that fix the tree, and payments which show that nothing is cheaper."""
from roughroads.fixing import compulsory, fixes, unsure_pairs
from roughroads.plain import first_of, is_integer, is_integers
from roughroads.webs import is_roads

MOST_PRICE = 99


def is_prices(web, value):
    """Return whether any value is prices for the web."""
    return (is_integers(value) and len(value) == len(web[1])
            and all([1 <= price <= MOST_PRICE for price in value]))


def price_of(prices, roads):
    """Return the sum of the prices of some roads."""
    return sum([prices[road] for road in roads])


def cheapest(web, lengths, prices):
    """Return a cheapest paper."""
    pairs = unsure_pairs(web, lengths)
    payments = most_payments(pairs, prices)
    # A road of the tree to which no way leads is paid for in full, and so is another road to which one leads. These
    # are taken: one at least of each pair, as a way to its first road goes on to the second one, and just one of
    # each pair with a payment, as a way to its second road goes on to the first one.
    ways = ways_from_rests(pairs, prices, payments)
    unreached = [one for one, other in pairs if one not in ways]
    reached = [other for one, other in pairs if other in ways]
    return (tuple(sorted(set([*compulsory(web, lengths), *unreached, *reached]))), payments)


def most_payments(pairs, prices):
    """Return payments for these pairs that add up to as much as they can."""
    payments = {}
    way = way_to_raise(pairs, prices, payments)
    while way is not None:
        payments = raised(payments, way, most_raise(prices, payments, way))
        way = way_to_raise(pairs, prices, payments)
    return payments


def rest_of(prices, payments, road):
    """Return what is left of the price of a road when the payments of its pairs are taken off."""
    return prices[road] - sum([payments[pair] for pair in payments if road in pair])


def ways_from_rests(pairs, prices, payments):
    """Return a dict from each road that can be reached to a way that leads there, a tuple of roads.

    A way begins with a road of the tree whose price is not paid in full. It goes on from the first road of a pair to
    the second one, and back where the pair has a payment, which can be made less.
    """
    ways = {one: (one,) for one, other in pairs if rest_of(prices, payments, one) > 0}
    # One round brings at least one road more, until none is left that can be reached.
    for _ in prices:
        for one, other in pairs:
            if one in ways and other not in ways:
                ways[other] = (*ways[one], other)
            if other in ways and one not in ways and (one, other) in payments:
                ways[one] = (*ways[other], one)
    return ways


def way_to_raise(pairs, prices, payments):
    """Return a way to a road beside the tree whose price is not paid in full, or None if there is none."""
    ways = ways_from_rests(pairs, prices, payments)
    return first_of([ways[other] for one, other in pairs
                     if other in ways and rest_of(prices, payments, other) > 0])


def most_raise(prices, payments, way):
    """Return the greatest amount by which all payments can be raised together along a way."""
    lowered = [payments[(one, other)] for other, one in zip(way[1::2], way[2::2])]
    return min([rest_of(prices, payments, way[0]), rest_of(prices, payments, way[-1]), *lowered])


def raised(payments, way, amount):
    """Return the payments with each pair forth along a way paid more, and each pair back paid less."""
    found = {pair: payments[pair] for pair in payments}
    for pair in zip(way[0::2], way[1::2]):
        found[pair] = found.get(pair, 0) + amount
    for other, one in zip(way[1::2], way[2::2]):
        found[(one, other)] = found[(one, other)] - amount
    return {pair: found[pair] for pair in found if found[pair] > 0}


def is_cheapest(web, lengths, prices, value):
    """Return whether any value is a cheapest paper."""
    if not isinstance(value, tuple) or len(value) != 2:
        return False
    roads, payments = value
    return (is_roads(web, roads) and is_payments(web, lengths, prices, payments)
            and price_of(prices, roads) == price_of(prices, compulsory(web, lengths)) + sum(payments.values())
            and fixes(web, lengths, roads))


def is_payments(web, lengths, prices, value):
    """Return whether any value is payments for the lengths."""
    pairs = unsure_pairs(web, lengths)
    return (isinstance(value, dict)
            and all([is_integers(pair) and pair in pairs for pair in value])
            and all([is_integer(value[pair]) and value[pair] >= 1 for pair in value])
            and all([rest_of(prices, value, road) >= 0 for road in range(len(prices))]))

"""Ways from a pairing to one that holds."""

from studenthouse.pairings import breakers, broken


def shortest_way(wishes, has):
    """The twos of the first of the shortest ways, or None if there is no way.

    Pairings are met break by break, in the order of the ways to them, so the
    first one met that holds ends the way that is due.
    """
    met = {has: True}
    level = [(has, [])]
    while level:
        further = []
        for pairing, way in level:
            twos = breakers(wishes, pairing)
            if not twos:
                return way
            further.extend(one_break_on(pairing, way, twos, met))
        level = further
    return None


def one_break_on(pairing, way, twos, met):
    """The pairings not met yet that one more break leads to, each with its way."""
    further = []
    for two in twos:
        after = broken(pairing, two[0], two[1])
        if after not in met:
            met[after] = True
            further.append((after, way + [two]))
    return further


def end_of(has, way):
    """The pairing to which this way leads."""
    for two in way:
        has = broken(has, two[0], two[1])
    return has

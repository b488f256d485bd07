"""Rings: signs that lead a reader from a place back to it, and how many signs are given out by them.

A rate is a pair of the number of signs that are given out, and of those that are read, in lowest terms.
"""

from math import gcd


def walked(reader, place, text):
    """Returns the place behind a text and the number of signs it gives out, None if one of its signs cannot come."""
    many = 0
    for sign in text:
        found = [move for move in reader.moves(place) if move[0] == sign]
        if not found:
            return None
        _, place, given = found[0]
        many += len(given)
    return place, many


def rate_of(reader, place, ring):
    """Returns the rate of a ring from a place on, None if it is no ring."""
    found = walked(reader, place, ring)
    if ring == "" or found is None or found[0] != place:
        return None
    many = found[1]
    common = gcd(many, len(ring))
    return many // common, len(ring) // common


def weight(rate, given, least):
    """Returns by how much a sign that gives out a text is above a rate; below it, if the least rate is asked for."""
    above = len(given) * rate[1] - rate[0]
    return -above if least else above


def _ring_behind(chosen, place):
    """Returns a place of the ring to which the chosen moves lead from a place, and the signs of the ring."""
    # Behind as many moves as there are, it is on the ring.
    for _ in chosen:
        place = chosen[place][1]
    ring, behind = chosen[place][0], chosen[place][1]
    while behind != place:
        ring, behind = ring + chosen[behind][0], chosen[behind][1]
    return place, ring


def _lift(reader, heights, chosen, rate, least):
    """Raises each place that a sign makes higher, and chooses this move; returns the last one, None if none is."""
    raised = None
    for place in list(heights):
        for move in reader.moves(place):
            height = heights[move[1]] + weight(rate, move[2], least)
            if height > heights[place]:
                heights[place] = height
                chosen[place] = move
                raised = place
    return raised


def _climb(reader, places, rate, least):
    """Returns the heights of all places by a rate, the chosen moves, and None or a place from which a ring is better.

    A place is as high as the weights of the signs behind it are together at most. If one is still raised in the last
    of as many turns as there are places, there is no such height: the chosen moves lead from it to a better ring.
    """
    heights = {place: 0 for place in places}
    chosen = {}
    raised = None
    for _ in places:
        raised = _lift(reader, heights, chosen, rate, least)
        if raised is None:
            break
    return heights, chosen, raised


def best_ring(reader, least):
    """Returns the greatest rate or the least one, a place of a ring that has it, this ring, and the heights of all."""
    places = list(reader.reached())
    chosen = {place: reader.moves(place)[0] for place in places}
    raised = reader.first()
    rate, place, ring, heights = None, None, "", {}
    while raised is not None:
        place, ring = _ring_behind(chosen, raised)
        rate = rate_of(reader, place, ring)
        heights, chosen, raised = _climb(reader, places, rate, least)
    return rate, place, ring, heights

"""The looker: whether a thing is a paper of parts and a term (promise 20).

Each row is looked at by itself and walked by what it says itself, so nothing of how papers are made is believed.
"""

from unwritparts.bottoms import Bottom
from unwritparts.runs import ASKED, POINT
from unwritparts.shapes import is_row, is_same, is_tuple
from unwritparts.walks import Told

MOST_READ = 5000


def holds(parts, term, thing):
    """Whether a thing, any thing, is a paper of the parts, tuples (name, Term), and of the term."""
    if not is_tuple(thing, 3) or not isinstance(thing[2], list):
        return False
    kind, what, rows = thing
    bodies = {}
    if not all([is_row(row, bodies) for row in rows]):
        return False
    ends = {knot: end for knot, _, end in rows}
    if len(ends) != len(rows):
        return False
    senses = {name: (stands.tree(), {}) for name, stands in parts}
    senses[ASKED] = (term.tree(), {})
    return (
        all([are_told(gots, ends) for _, gots, _ in rows])
        and are_walked(rows, senses, bodies)
        and can_be_ordered(rows)
        and are_rings(rows, ends)
        and (kind, what) == told_by(ends)
    )


def are_told(gots, ends):
    """Whether each needed knot has a row, and came to just what this row ends with."""
    return all([needed in ends and is_same(got, ends[needed]) for needed, got in gots])


def are_walked(rows, senses, bodies):
    """Whether each row's knot has a sense, and its walk by its gots needs and ends with just what stands there."""
    # A maker's name has a point less than those of the knots that it makes: so it is walked ahead of them.
    for knot, gots, end in sorted(rows, key=points_of):
        if knot not in senses:
            return False
        told = Told(knot, senses, [got for _, got in gots], bodies)
        if told.walk.end != end or told.needs != [needed for needed, _ in gots]:
            return False
    return True


def points_of(row):
    """How many points the name of a row's knot has."""
    return row[0].count(POINT)


def can_be_ordered(rows):
    """Whether there is an order in which what a row needed stands ahead of it, but for what gave it a ring."""
    needers = {knot: [] for knot, _, _ in rows}
    lacking = {}
    for knot, gots, end in rows:
        ahead = gots[:-1] if end[0] == "ring" else gots
        lacking[knot] = len(ahead)
        for needed, _ in ahead:
            needers[needed].append(knot)
    ready = [knot for knot in lacking if lacking[knot] == 0]
    many = 0
    while ready:
        many += 1
        for needer in needers[ready.pop()]:
            lacking[needer] -= 1
            if lacking[needer] == 0:
                ready.append(needer)
    return many == len(rows)


def are_rings(rows, ends):
    """Whether each row that ends with a ring leads to it, and each ring goes round.

    The rows are walked already: so what ends with a ring needed one more knot that ends with it, as its last.
    """
    nexts = {knot: gots[-1][0] for knot, gots, end in rows if end[0] == "ring"}
    rings = []
    for knot in nexts:
        if ends[knot] not in rings:
            rings.append(ends[knot])
    return all([goes_round(ring, ends, nexts) for ring in rings]) and all_lead(nexts, rings)


def goes_round(ring, ends, nexts):
    """Whether a ring has each knot once, from the least on, each one needing the next, the last one the first."""
    knots = ring[1]
    if len(knots) == 0 or len(set(knots)) != len(knots) or knots[0] != min(knots):
        return False
    behind = knots[1:] + knots[:1]
    return all([ends.get(knot) == ring and nexts[knot] == after for knot, after in zip(knots, behind)])


def all_lead(nexts, rings):
    """Whether one comes from each knot, going on to the next one, to a knot of a ring: it can be its own alone."""
    there = {knot: True for ring in rings for knot in ring[1]}
    for knot in nexts:
        way = {}
        while knot not in there:
            if knot in way:
                return False
            way[knot] = True
            knot = nexts[knot]
        there.update(way)
    return True


def told_by(ends):
    """The kind and the what of `?` read to the bottom by the ends; None where it takes too many knots, or lacks one."""
    bottom = Bottom()
    many = 0
    while bottom.told is None:
        many += 1
        if many > MOST_READ or bottom.knot not in ends:
            return None
        bottom.take(ends[bottom.knot])
    return bottom.told

"""Neighbours of bubbles, and roads from bubble to bubble through their films."""

from frothwane.web import other, require_end, rim, rims


def least_ends(web):
    """For each end the least one on its rim, which tells the bubble."""
    least = {}
    for ends in rims(web):
        for end in ends:
            least[end] = ends[0]
    return least


def neighbours(web, end):
    """The pairs of a neighbour's least end and the sides that part the bubble of an end from it."""
    sides = rim(web, end)
    least = least_ends(web)
    films = {}
    for side in sides:
        near = least[other(side)]
        films[near] = films.get(near, 0) + 1
    return [(near, films[near]) for near in sorted(films)]


def ways_in(web, least, start):
    """For each bubble, by its least end, the end by which one first comes to it; None for the start."""
    found = {start: None}
    line = [start]
    at = 0
    while at < len(line):
        here = line[at]
        for side in rim(web, here):
            near = least[other(side)]
            if near not in found:
                found[near] = side
                line.append(near)
        at += 1
    return found


def road(web, one, two):
    """The ends by which one goes from the bubble of one end to that of another one, as few as there can be."""
    require_end(web, one)
    require_end(web, two)
    least = least_ends(web)
    found = ways_in(web, least, least[one])
    ends = []
    end = found[least[two]]
    while end is not None:
        ends.append(end)
        end = found[least[end]]
    return ends[::-1]


def far(web, one, two):
    """How many films lie on the way from the bubble of one end to that of another one."""
    return len(road(web, one, two))

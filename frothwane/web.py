"""Webs: dicts that lead from each end of a film to the next end round its corner."""

from frothwane.errors import NoEnd


def other(end):
    """The other end of the film that has this end."""
    if end % 2 == 0:
        return end + 1
    return end - 1


def require_end(web, end):
    """Refuse a number that is no end of the web."""
    if end not in web:
        raise NoEnd(f"the web has no end {end}")


def corner(web, end):
    """The three ends round the corner of an end, from that end on."""
    require_end(web, end)
    second = web[end]
    return (end, second, web[second])


def corners(web):
    """All corners, each from its least end on, rising by it."""
    found = []
    for end in sorted(web):
        ends = corner(web, end)
        if end == min(ends):
            found.append(ends)
    return found


def rim(web, end):
    """The ends on the rim of the bubble along which an end lies, from that end on."""
    require_end(web, end)
    ends = [end]
    behind = web[other(end)]
    while behind != end:
        ends.append(behind)
        behind = web[other(behind)]
    return ends


def rims(web):
    """All rims, each from its least end on, rising by it."""
    found = []
    passed = {}
    # Going by rising ends, a rim is first met at its least end.
    for end in sorted(web):
        if end not in passed:
            ends = rim(web, end)
            found.append(ends)
            for one in ends:
                passed[one] = True
    return found


def steps(web):
    """For each end where the signs of a path lead from it: `o` to its other end, `t` to the next end."""
    return {end: {"o": other(end), "t": web[end]} for end in web}


def join_corner(web, one, two, three):
    """Write into a web being built that these ends follow one another round a corner."""
    web[one] = two
    web[two] = three
    web[three] = one


def comb(rows, cols):
    """The web of rows * cols bubbles of six sides each."""
    web = {}
    for row in range(rows):
        for col in range(cols):
            here = row * cols + col
            left = row * cols + (col - 1) % cols
            above = ((row - 1) % rows) * cols + col
            join_corner(web, 6 * here, 6 * here + 2, 6 * here + 4)
            join_corner(web, 6 * here + 1, 6 * left + 3, 6 * above + 5)
    return web

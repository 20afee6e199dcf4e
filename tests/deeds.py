"""The deeds of points 7 to 10 told by rims, not by corners, to hold the program against; and webs made by them.

Nothing here calls the program: what follows an end on its rim is next to its other end, so rims tell a whole web.
"""

from tests.helpers import (
    Dice, LOOP_CORNERS, TURNED_LOOP_CORNERS, shifted, walked_rims, web_of, web_of_rims,
)


def films_of(web):
    """The numbers of the films, rising."""
    return sorted({end // 2 for end in web})


def corner_at(web, end):
    return (end, web[end], web[web[end]])


def is_looped(web, film):
    return 2 * film + 1 in corner_at(web, 2 * film)


def rim_from(rows, end):
    """The rim that an end lies on, from that end on."""
    for ends in rows:
        if end in ends:
            at = ends.index(end)
            return ends[at:] + ends[:at]
    raise AssertionError(end)


def rim_at(web, end):
    return rim_from(walked_rims(web), end)


def on_one_rim(web, one, two):
    return two in rim_at(web, one)


def without(rows, gone):
    """The rims without some ends, and without the rims that had no others."""
    left = [[end for end in ends if end not in gone] for ends in rows]
    return [ends for ends in left if ends]


def with_ahead(rows, end, fresh):
    """The rims with a fresh end straight ahead of another one."""
    return [[one for old in ends for one in ([fresh, old] if old == end else [old])] for ends in rows]


def pushed_by_rims(web, film):
    """The film's lesser end goes over to the rim beyond the other end, the other end to that beyond the lesser."""
    low, high = 2 * film, 2 * film + 1
    beyond_low = corner_at(web, low)[2]
    beyond_high = corner_at(web, high)[2]
    rows = without(walked_rims(web), (low, high))
    return web_of_rims(with_ahead(with_ahead(rows, beyond_high, low), beyond_low, high))


def pulled_by_rims(web, film):
    """As pushed, but the film's ends are changed for one another."""
    low, high = 2 * film, 2 * film + 1
    beyond_low = corner_at(web, low)[2]
    beyond_high = corner_at(web, high)[2]
    rows = without(walked_rims(web), (low, high))
    return web_of_rims(with_ahead(with_ahead(rows, beyond_low, low), beyond_high, high))


def lost_films(web, film):
    """The numbers that are no more when a film has burst, by the films that become one at each corner."""
    low, high = 2 * film, 2 * film + 1
    if is_looped(web, film):
        stem = [end for end in corner_at(web, low) if end not in (low, high)][0]
        return [film, stem // 2, max(end // 2 for end in corner_at(web, stem ^ 1)[1:])]
    lost = [film]
    renamed = {}
    for end in (low, high):
        pair = [renamed.get(one // 2, one // 2) for one in corner_at(web, end)[1:]]
        renamed[max(pair)] = min(pair)
        lost.append(max(pair))
    return lost


def burst_by_rims(web, film):
    """The two rims become one where the film was, and each end of a film that is no more is left out."""
    rows = walked_rims(web)
    one = rim_from(rows, 2 * film)
    two = rim_from(rows, 2 * film + 1)
    rest = [ends for ends in rows if 2 * film not in ends and 2 * film + 1 not in ends]
    gone = [2 * number + side for number in lost_films(web, film) for side in (0, 1)]
    return web_of_rims(without(rest + [one[1:] + two[1:]], gone))


def parted_by_rims(web, one, two, first):
    """The rim is cut behind one and behind two, and each halved side is two ends on the rim beyond it."""
    rows = walked_rims(web)
    ends = rim_from(rows, one)
    at = ends.index(two)
    new = 2 * first
    rest = [others for others in rows if one not in others]
    rest.append([one, new + 4, new + 2] + ends[at + 1:])
    rest.append([two, new + 5, new] + ends[1:at])
    return web_of_rims(with_ahead(with_ahead(rest, one ^ 1, new + 1), two ^ 1, new + 3))


def blown_by_rims(web, end, first):
    """Each of the three rims round the corner gets a side there, and a rim of three ends is new."""
    _, second, third = corner_at(web, end)
    new = 2 * first
    rows = walked_rims(web)
    rows = with_ahead(with_ahead(with_ahead(rows, second, new), third, new + 2), end, new + 4)
    return web_of_rims(rows + [[new + 1, new + 5, new + 3]])


def thrown_deed(web, dice, most):
    """A deed that is not refused, as a tuple of its word and its numbers; at most so many bubbles come of it."""
    films = films_of(web)
    first = films[-1] + 1 + dice.roll(3)
    while True:
        word = dice.pick(["push", "push", "pull", "pull", "burst", "part", "blow"])
        film = dice.pick(films)
        end = dice.pick(sorted(web))
        if word in ("push", "pull"):
            if not is_looped(web, film):
                return (word, film)
        elif word == "burst":
            if not on_one_rim(web, 2 * film, 2 * film + 1):
                return (word, film)
        elif len(web) < 6 * most:
            two = dice.pick(rim_at(web, end))
            if word == "blow":
                return (word, end, first)
            if two // 2 != end // 2:
                return (word, end, two, first)


BY_RIMS = {
    "push": pushed_by_rims, "pull": pulled_by_rims, "burst": burst_by_rims,
    "part": parted_by_rims, "blow": blown_by_rims,
}


def thrown_webs(seed, many):
    """So many webs, each one deed behind the one ahead of it, from the web of one bubble on."""
    dice = Dice(seed)
    web = web_of([(0, 2, 4), (1, 3, 5)])
    found = []
    for turn in range(many):
        word, *rest = thrown_deed(web, dice, 8)
        web = BY_RIMS[word](web, *rest)
        found.append(web)
    return found


def some_webs():
    """Webs of each sort: combs, gaps in the numbers, films back to their own corners, bubbles of two sides."""
    webs = [
        web_of([(0, 2, 4), (1, 3, 5)]),
        web_of([(0, 2, 4), (6, 8, 10), (1, 9, 5), (7, 3, 11)]),
        web_of([(0, 2, 4), (6, 8, 10), (1, 3, 11), (7, 9, 5)]),
        web_of(LOOP_CORNERS), web_of(TURNED_LOOP_CORNERS), shifted(web_of(LOOP_CORNERS), 70),
    ]
    return webs + thrown_webs(1, 60)

"""What several tests need: webs written out by hand, and a check of kinds."""


def web_of(rows):
    """The web of a list of corners, each a tuple of three ends in their order round."""
    web = {}
    for one, two, three in rows:
        web[one] = two
        web[two] = three
        web[three] = one
    return web


def turned_about(web):
    """The same web with its ends listed from the greatest to the least."""
    return {end: web[end] for end in sorted(web, reverse=True)}


def shuffled(web):
    """The same web with its ends listed in an order that is neither rising nor falling."""
    return {end: web[end] for end in sorted(web, key=lambda end: (end * 7 % 11, -end))}


# A web with gaps in its numbers. Film 20 leads back to its own corner, and the other end of film 9,
# its stem, stands amid films 5 and 7. All films but film 20 have the same bubble on both hands.
LOOP_CORNERS = [(2, 8, 10), (3, 9, 15), (11, 14, 18), (19, 40, 41)]
LOOP_RIMS = [[2, 9, 10, 14, 3, 8, 15, 18, 40, 19, 11], [41]]

# The same with the two ends of film 20 in the other order round.
TURNED_LOOP_CORNERS = [(2, 8, 10), (3, 9, 15), (11, 14, 18), (19, 41, 40)]
TURNED_LOOP_RIMS = [[2, 9, 10, 14, 3, 8, 15, 18, 41, 19, 11], [40]]


def comb_sizes():
    """All pairs of rows and columns with at most 36 bubbles."""
    return [(rows, cols) for rows in range(1, 37) for cols in range(1, 36 // rows + 1)]


def assert_plain(case, told):
    """Fail where anything told is not a plain whole number in lists, tuples and dicts."""
    if type(told) in (list, tuple):
        for part in told:
            assert_plain(case, part)
    elif type(told) is dict:
        for key in told:
            assert_plain(case, key)
            assert_plain(case, told[key])
    else:
        case.assertIs(type(told), int)


def shifted(web, films):
    """The same web with so many films more ahead of its numbers."""
    return {end + 2 * films: web[end] + 2 * films for end in web}


def walked_rims(web):
    """The rims by the words of point 4, without the program: each a list of ends, from the least one on."""
    found = []
    passed = set()
    for start in sorted(web):
        if start not in passed:
            ends = []
            end = start
            while end not in passed:
                passed.add(end)
                ends.append(end)
                end = web[end ^ 1]
            found.append(ends)
    return found


def web_of_rims(rows):
    """The web that has these rims: what follows an end on its rim is next to its other end."""
    web = {}
    for ends in rows:
        for at, end in enumerate(ends):
            web[end ^ 1] = ends[(at + 1) % len(ends)]
    return web


class Dice:
    """Numbers that look thrown but are the same in each run and under each Python."""

    def __init__(self, seed):
        self.now = seed * 2 + 1

    def roll(self, many):
        """A number from 0 to many - 1."""
        self.now = (self.now * 6364136223846793005 + 1442695040888963407) % 2 ** 64
        return (self.now >> 33) % many

    def pick(self, choices):
        return choices[self.roll(len(choices))]

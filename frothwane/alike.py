"""Likeness of pictures: tellings, the paths that part what is not alike, and faults of what may be no telling."""

from frothwane.web import join_corner, rim, steps

SIGNS = ("o", "t")
# Three steps round a corner lead back, so two of them undo one.
UNDONE = {"o": "o", "t": "tt"}


class Chart:
    """What a picture tells of each end: where one goes from it, and the gas of its bubble."""

    def __init__(self, picture):
        found = {}
        for one, two, three in picture[0]:
            join_corner(found, one, two, three)
        self.ways = steps(found)
        self.gas_of = {}
        for end, gas in picture[1]:
            for side in rim(found, end):
                self.gas_of[side] = gas


def steps_from(ways, start):
    """All steps as rows (end, sign, end), in the order in which one comes to them from an end."""
    met = {start: True}
    line = [start]
    rows = []
    at = 0
    while at < len(line):
        end = line[at]
        at += 1
        for sign in SIGNS:
            near = ways[end][sign]
            rows.append((end, sign, near))
            if near not in met:
                met[near] = True
                line.append(near)
    return rows


def paths_along(rows):
    """A path to each end from where the rows begin, by the first row that comes to it."""
    paths = {rows[0][0]: ""}
    for end, sign, near in rows:
        if near not in paths:
            paths[near] = paths[end] + sign
    return paths


def undone(path):
    """The path that leads back from where a path leads to."""
    return "".join([UNDONE[sign] for sign in path[::-1]])


class Leading:
    """Tries at leading the least end of one chart to an end of another one."""

    def __init__(self, here, there):
        self.here = here
        self.there = there
        self.least = min(here.ways)
        self.steps_here = steps_from(here.ways, self.least)
        self.paths = paths_along(self.steps_here)

    def unlike(self, end, far):
        """Whether an end and one of the other chart have unlike gas."""
        return self.here.gas_of[end] != self.there.gas_of[far]

    def tried(self, goal):
        """Where all ends are led if the least one is led to goal, and None or a path that shows that it can't be."""
        led = {self.least: goal}
        source = {goal: self.least}
        if self.unlike(self.least, goal):
            return (led, "")
        for end, sign, near in self.steps_here:
            far = self.there.ways[led[end]][sign]
            if near not in led and far not in source:
                led[near] = far
                source[far] = near
                if self.unlike(near, far):
                    return (led, self.paths[near])
            elif near not in led or led[near] != far:
                # Back from here by the path of an end met before, one comes home on one side only.
                met = near if near in led else source[far]
                return (led, self.paths[end] + sign + undone(self.paths[met]))
        return (led, None)


def telling(one, other):
    """The telling that leads the least end of the one picture to the least that it can be led to, or None."""
    there = Chart(other)
    leading = Leading(Chart(one), there)
    for goal in sorted(there.ways):
        led, path = leading.tried(goal)
        if path is None:
            return [(end, led[end]) for end in sorted(led)]
    return None


def partings(one, other):
    """For each end of the other picture a path that parts it from the least end of the one, or None."""
    there = Chart(other)
    leading = Leading(Chart(one), there)
    rows = []
    for goal in sorted(there.ways):
        path = leading.tried(goal)[1]
        if path is None:
            return None
        rows.append((goal, path))
    return rows


def pair_fault(here, there, pairs):
    """The first pair that is no pair of two ends, or has an end that an earlier one has, or None."""
    firsts = {}
    seconds = {}
    for at, (end, far) in enumerate(pairs):
        if end not in here.ways or far not in there.ways:
            return ("stranger", at)
        if end in firsts or far in seconds:
            return ("twice", at)
        firsts[end] = True
        seconds[far] = True
    return None


def step_fault(here, there, pairs):
    """The first pair that doesn't fit to where its neighbours are led, or None."""
    led = dict(pairs)
    for at, (end, far) in enumerate(pairs):
        if led[here.ways[end]["o"]] != there.ways[far]["o"]:
            return ("other", at)
        if led[here.ways[end]["t"]] != there.ways[far]["t"]:
            return ("next", at)
        if here.gas_of[end] != there.gas_of[far]:
            return ("gas", at)
    return None


def telling_fault(one, other, pairs):
    """The first fault that keeps pairs from being a telling, or None where they are one."""
    here = Chart(one)
    there = Chart(other)
    many = len(pairs)
    if many != len(here.ways) or many != len(there.ways):
        return ("many", many)
    fault = pair_fault(here, there, pairs)
    if fault is not None:
        return fault
    return step_fault(here, there, pairs)

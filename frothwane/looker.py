"""Looking through a dict that may be no web."""

from frothwane.web import other, rims


def comes_round(found, end):
    """Whether three steps from an end lead back to it, and one step doesn't."""
    second = found[end]
    third = found[second]
    return second != end and found[third] == end


def reached_ends(found):
    """The ends that can be reached from the least one, as the keys of a dict."""
    start = min(found)
    reached = {start: True}
    waiting = [start]
    while waiting:
        end = waiting.pop()
        for near in (other(end), found[end]):
            if near not in reached:
                reached[near] = True
                waiting.append(near)
    return reached


def end_fault(found):
    """The first fault that lies at a single end, or None."""
    lone = [end for end in found if other(end) not in found]
    if lone:
        return ("lone", min(lone))
    astray = [end for end in found if found[end] not in found]
    if astray:
        return ("astray", min(astray))
    # From here on every step leads to a key, so corners can be followed.
    crooked = [end for end in found if not comes_round(found, end)]
    if crooked:
        return ("corner", min(crooked))
    return None


def whole_fault(found):
    """The first fault of a dict without a fault at a single end, or None."""
    reached = reached_ends(found)
    apart = [end for end in found if end not in reached]
    if apart:
        return ("apart", min(apart))
    many = len(rims(found))
    # Each corner has three ends, so half as many rims as corners are a sixth of the ends.
    if 6 * many != len(found):
        return ("glasses", many)
    return None


def web_fault(found):
    """The first fault that keeps a dict from being a web, or None where it is one."""
    if not found:
        return ("none", 0)
    fault = end_fault(found)
    if fault is not None:
        return fault
    return whole_fault(found)

"""Deeds at a web: each gives a new web and leaves the one handed in as it was."""

from frothwane.errors import Looped, NoFilm, NotOne, OneBubble, SameFilm
from frothwane.web import corner, join_corner, other, require_end, rim


def require_film(web, film):
    """Refuse a number that is no film of the web."""
    if 2 * film not in web:
        raise NoFilm(f"the web has no film {film}")


def require_turning(web, film):
    """Refuse a film that can't be pushed or pulled."""
    require_film(web, film)
    if 2 * film + 1 in corner(web, 2 * film):
        raise Looped(f"film {film} leads back to its own corner")


def pushed(web, film):
    """The web with a film pushed: it now parts the two bubbles that were beyond its ends."""
    require_turning(web, film)
    end, after_end, before_end = corner(web, 2 * film)
    far, after_far, before_far = corner(web, 2 * film + 1)
    made = dict(web)
    join_corner(made, end, before_end, after_far)
    join_corner(made, far, before_far, after_end)
    return made


def pulled(web, film):
    """The web with a film pulled, which takes a push back."""
    require_turning(web, film)
    end, after_end, before_end = corner(web, 2 * film)
    far, after_far, before_far = corner(web, 2 * film + 1)
    made = dict(web)
    join_corner(made, end, before_far, after_end)
    join_corner(made, far, before_end, after_far)
    return made


def take_place(web, end, place):
    """Let an end stand, in a web being built, where another one stood, which is no more there."""
    second, third = corner(web, place)[1:]
    del web[place]
    join_corner(web, end, second, third)


def mend(web, gone):
    """Take an end out of a web being built and make the two films left at its corner one."""
    left = corner(web, gone)[1:]
    # They are of two films, so the lesser end is that of the film with the lesser number.
    kept = min(left)
    lost = max(left)
    for end in (gone, kept, lost):
        del web[end]
    take_place(web, kept, other(lost))


def burst_loop(web, end):
    """Take a film that leads back to its own corner, and the film that holds it, out of a web being built."""
    far = other(end)
    stem = [one for one in corner(web, end)[1:] if one != far][0]
    for gone in (end, far, stem):
        del web[gone]
    mend(web, other(stem))


def burst(web, film):
    """The web without a film, its corners mended."""
    require_film(web, film)
    end = 2 * film
    far = 2 * film + 1
    if far in rim(web, end):
        raise OneBubble(f"film {film} has the same bubble on both hands")
    made = dict(web)
    if far in corner(web, end):
        burst_loop(made, end)
    else:
        mend(made, end)
        mend(made, far)
    return made


def halve(web, end, fresh):
    """Make the farther half of an end's film, in a web being built, the film fresh."""
    take_place(web, 2 * fresh + 1, other(end))


def parted(web, one, two, first):
    """The web with a new film between the middles of two sides of a bubble."""
    require_end(web, one)
    require_end(web, two)
    if two not in rim(web, one):
        raise NotOne(f"the ends {one} and {two} lie on two rims")
    if two in (one, other(one)):
        raise SameFilm(f"the ends {one} and {two} are of one film")
    made = dict(web)
    halve(made, one, first)
    halve(made, two, first + 1)
    join_corner(made, other(one), 2 * first + 4, 2 * first)
    join_corner(made, other(two), 2 * first + 5, 2 * first + 2)
    return made


def blown(web, end, first):
    """The web with a bubble of three sides in the place of a corner."""
    second, third = corner(web, end)[1:]
    made = dict(web)
    join_corner(made, end, 2 * first, 2 * first + 5)
    join_corner(made, second, 2 * first + 2, 2 * first + 1)
    join_corner(made, third, 2 * first + 4, 2 * first + 3)
    return made

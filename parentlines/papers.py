"""Papers: what a thing tells, row by row, each row right by those ahead of it."""

from parentlines.asking import whole_asked, whole_of
from parentlines.errors import Missing
from parentlines.finds import is_behind
from parentlines.words import is_name, is_whole


def paper_of(world, thing, name, behind=""):
    """A paper of an asking, which has it as its last row.

    Refused with NoThing, NoName, NotAbove; Missing, Endless, as they come.
    """
    # An asking is known only when those that it comes to are: so the order in which they came to be known fits.
    known = whole_asked(world, thing, name, behind).known
    return [asking + known[asking][:2] for asking in known]


def is_paper(world, thing, rows):
    """Whether rows, whatever they are, are a paper of the thing; refused with NoThing."""
    whole = whole_of(world, thing)
    if not isinstance(rows, list):
        return False
    for row in rows:
        if not has_form(whole, row) or not is_right(whole, row):
            return False
    return True


def has_form(whole, thing):
    """Whether a thing is a tuple of a name, a kind behind which, or none, a text and a number."""
    if not isinstance(thing, tuple) or len(thing) != 4:
        return False
    name, behind, where, number = thing
    return is_name(name) and is_behind(whole.forebears(), behind) and isinstance(where, str) and is_whole(number)


def is_right(whole, row):
    """Whether a row is right by the rows ahead of it, which are known; if it is, it is known too."""
    asking = row[:2]
    if asking in whole.known:
        return False
    try:
        told = whole.tell_at_once(asking)
    except Missing:
        return False
    return told is not None and told[:2] == row[2:]

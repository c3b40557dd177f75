"""What a run has made of a house at its end."""

from actasone.kinds import house_names
from actasone.runchecker import followed
from actasone.usable import need


def votes_in(book, run, house):
    return cast_by(copy_in(book, run, house))


def learned_in(book, run, house):
    return known_by(copy_in(book, run, house))


def height_in(book, run, house):
    copy = copy_in(book, run, house)
    return None if copy is None else copy.height()


def greatest_in(book, run, house):
    copy = copy_in(book, run, house)
    return 0 if copy is None else copy.greatest


def state_in(book, run, house):
    copy = copy_in(book, run, house)
    return None if copy is None else copy.state_of(book[0])


def cast_by(copy):
    """The pairs (place, letter) for which a house voted; None is a house that lies."""
    if copy is None:
        return ()
    return tuple(sorted([(place, vote[0]) for place, vote in copy.cast.items()]))


def known_by(copy):
    """The pairs (place, letter) that it has learned since it last woke."""
    return () if copy is None else tuple(sorted(copy.known.items()))


def copy_in(book, run, house):
    """What the run has made of the house, None if it lies."""
    told = followed(book, run)
    need(house in house_names(book[1]), "house")
    return told.copies.get(house, None)

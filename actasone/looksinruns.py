"""Which looks a run has answered, and where it lets unlike letters be learned."""

from actasone.runchecker import followed


def looks_in(book, run):
    return looks_of(followed(book, run))


def looks_of(told):
    """The answered looks of safe houses."""
    looks = [look_at(told, index) for index, event in enumerate(told.happened) if event[0] == "answer"]
    return tuple(look for look in looks if look[1] in told.safe)


def look_at(told, index):
    """What there is to tell of the look that was answered by the event with this index."""
    _, _, begun, number = told.happened[index]
    _, _, house, _, look = told.happened[begun]
    return (index, house, look, number, told.heights_ahead[begun], told.heights_ahead[index])


def clash_in(book, run):
    told = followed(book, run)
    firsts = {}
    for index, event in enumerate(told.happened):
        if event[0] == "learn" and event[2] in told.safe:
            _, _, _, _, place, letter = event
            first, known = firsts.get(place, (index, letter))
            if known != letter:
                return (first, index)
            firsts[place] = (first, known)
    return None

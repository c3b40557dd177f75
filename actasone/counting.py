"""After how many letters all states are alike, whatever the letters are."""

from actasone.alikestates import answers_to, classes_by, least_parting, least_with
from actasone.kinds import is_number
from actasone.machineparts import come_to
from actasone.usable import need, need_looks


def settles(machine, looks, many):
    need_counted(machine, looks, many)
    return is_settled(parting_after(machine, looks, many))


def right_many(machine, looks):
    need_looks(machine, looks)
    for many in range(1, len(machine[2]) + 1):
        if is_settled(parting_after(machine, looks, many)):
            return many
    return None


def unlike_walk(machine, looks, many):
    need_counted(machine, looks, many)
    return unlike_of(machine, looks, many)


def partings_of(machine, looks, many):
    need_counted(machine, looks, many)
    return tuple(partings_up_to(machine, looks, many))


def unlike_of(machine, looks, many):
    """An unlike walk, None without one."""
    parting = parting_after(machine, looks, many)
    if is_settled(parting):
        return None
    state = [late for late in range(len(parting)) if parting[late] != 0][0]
    row, one, two = parted_by(machine, looks, state, many)
    more = least_parting(machine, one, two, looks)
    told = answers_to(machine, come_to(machine, one, more)[-1], looks)
    beside = answers_to(machine, come_to(machine, two, more)[-1], looks)
    unlike = [look for look, here, there in zip(looks, told, beside) if here != there]
    return (state, row, more, unlike[0])


def need_counted(machine, looks, many):
    need_looks(machine, looks)
    need(is_number(many), "many")


def is_settled(parting):
    """Whether all states are in one class, which is that of state 0."""
    return max(parting) == 0


def parting_before(machine, parting):
    """The parting that is one letter ahead: states from which each letter leads to one class."""
    return least_with([tuple([parting[late] for late in row]) for row in machine[2]])


def partings_up_to(machine, looks, many):
    partings = [classes_by(machine, looks)]
    for _ in range(many):
        partings.append(parting_before(machine, partings[-1]))
    return partings


def parting_after(machine, looks, many):
    """The last of these partings; each one joins classes of the one ahead of it, or is equal to
    it as all later ones are, so that more letters than states change nothing."""
    return partings_up_to(machine, looks, min(many, len(machine[2])))[-1]


def parted_by(machine, looks, state, many):
    """A row of many letters, and the unlike states that it makes of a state and of the start."""
    partings = partings_up_to(machine, looks, many)
    row = []
    one, two = state, 0
    for left in range(many - 1, -1, -1):
        parting = partings[left]
        pairs = list(zip(machine[2][one], machine[2][two]))
        at = min([k for k, (led, beside) in enumerate(pairs) if parting[led] != parting[beside]])
        row.append(machine[0][at])
        one, two = pairs[at]
    return tuple(row), one, two

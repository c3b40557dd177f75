"""Whether any value is an integer, a name, a machine, a trust, a rule, a book, by its form.

A function whose name ends in _fault gives the first of the errors that apply to a value, as a
pair of its word and its place, or None: so the modules kinds and partschecker cannot differ.
"""

LOWERCASE = "abcdefghijklmnopqrstuvwxyz"


def is_integer(thing):
    # Python counts True and False among the ints.
    return isinstance(thing, int) and not isinstance(thing, bool)


def is_number(thing):
    return is_integer(thing) and thing >= 0


def is_name(thing):
    if not isinstance(thing, str) or thing == "any" or not 1 <= len(thing) <= 8:
        return False
    return all([letter in LOWERCASE for letter in thing])


def is_tuple(thing, many):
    return isinstance(thing, tuple) and len(thing) == many


def ascends(things):
    """Whether values that can be compared ascend, none twice."""
    return all([low < high for low, high in zip(things, things[1:])])


def are_names(thing, least):
    """Whether any value is a set of at least so many names."""
    if not isinstance(thing, tuple) or len(thing) < least:
        return False
    return all([is_name(name) for name in thing]) and ascends(thing)


def is_set_of(thing, names):
    """Whether any value is a set of some of these names."""
    return isinstance(thing, tuple) and all([name in names for name in thing]) and ascends(thing)


def are_sets_of(thing, names):
    """Whether any value is a nonempty set of sets of some of these names."""
    if not isinstance(thing, tuple) or not thing:
        return False
    return all([is_set_of(part, names) for part in thing]) and ascends(thing)


def is_machine(thing):
    return machine_fault(thing) is None


def machine_fault(thing):
    if not is_tuple(thing, 4):
        return ("shape", -1)
    letters, looks, moves, answers = thing
    if not are_names(letters, 2):
        return ("letters", -1)
    if not are_names(looks, 1):
        return ("looks", -1)
    if not isinstance(moves, tuple) or not moves:
        return ("moves", -1)
    for state, row in enumerate(moves):
        if not are_numbers(row, len(letters)) or max(row) >= len(moves):
            return ("move", state)
    if not is_tuple(answers, len(moves)):
        return ("answers", -1)
    for state, row in enumerate(answers):
        if not are_numbers(row, len(looks)):
            return ("answer", state)
    return None


def are_numbers(thing, many):
    """Whether any value is a tuple of so many numbers."""
    return is_tuple(thing, many) and all([is_number(number) for number in thing])


def are_integers(thing, many):
    """Whether any value is a tuple of so many integers."""
    return is_tuple(thing, many) and all([is_integer(part) for part in thing])


def is_index(thing, things):
    """Whether any value is an index of a sequence of the package."""
    return is_number(thing) and thing < len(things)


def is_state(machine, thing):
    return is_index(thing, machine[2])


def is_age_of(book, thing):
    """Whether any value is an age that the book can have."""
    return is_number(thing) and (thing == 0 or book[4] == ())


def is_row(machine, thing):
    return isinstance(thing, tuple) and all([letter in machine[0] for letter in thing])


def is_trust(thing):
    return trust_fault(thing) is None


def trust_fault(thing):
    if not isinstance(thing, tuple) or not thing:
        return ("shape", -1)
    for k, triple in enumerate(thing):
        if not is_tuple(triple, 3) or not is_name(triple[0]):
            return ("house", k)
        if k > 0 and triple[0] <= thing[k - 1][0]:
            return ("house", k)
    names = house_names(thing)
    for k, (house, lots, fears) in enumerate(thing):
        if not are_sets_of(lots, names) or () in lots:
            return ("lots", k)
        if not are_sets_of(fears, [name for name in names if name != house]):
            return ("fears", k)
    return None


def house_names(trust):
    return tuple(triple[0] for triple in trust)


def is_clocks(thing):
    return clocks_fault(thing, None) is None


def clocks_fault(thing, names):
    """The fault of a clock table of houses with these names; None for names lets any names be."""
    if not isinstance(thing, tuple):
        return ("shape", -1)
    for k, triple in enumerate(thing):
        if not is_gap(triple) or (names is not None and not is_bound_of(triple, names)):
            return ("triple", k)
        if k > 0 and triple[:2] <= thing[k - 1][:2]:
            return ("order", k)
    broken = first_triangle(thing)
    if broken is not None:
        return ("triangle", broken)
    return None


def is_gap(thing):
    """Whether any value is a triple of two different names and an integer."""
    if not is_tuple(thing, 3) or not is_name(thing[0]) or not is_name(thing[1]):
        return False
    return thing[0] != thing[1] and is_integer(thing[2])


def is_bound_of(thing, names):
    """Whether any value is a bound of two of these names."""
    return is_gap(thing) and thing[0] in names and thing[1] in names


def first_triangle(triples):
    """The least (p, q, r) whose gap is too great, for triples in order; None without one.

    Only where both steps have triples can their sum be less than a gap.
    """
    gaps = {(begin, end): gap for begin, end, gap in triples}
    onward = {}
    for begin, end, gap in triples:
        onward[begin] = onward.get(begin, ()) + ((end, gap),)
    for begin, middle, first in triples:
        for end, second in onward.get(middle, ()):
            whole = 0 if begin == end else gaps.get((begin, end), None)
            if whole is None or whole > first + second:
                return (begin, middle, end)
    return None


def is_looking(thing):
    if not is_tuple(thing, 5):
        return False
    house, looks, lot, end, promises = thing
    if not is_name(house) or not are_names(looks, 1) or not are_names(lot, 0):
        return False
    if promises != () and end == "any":
        return False
    return (end == "any" or is_integer(end)) and are_promises(promises)


def are_promises(thing):
    """Whether any value is a set of pairs of a name and an integer, no name twice."""
    if not isinstance(thing, tuple):
        return False
    for pair in thing:
        if not is_tuple(pair, 2) or not is_name(pair[0]) or not is_integer(pair[1]):
            return False
    return ascends([pair[0] for pair in thing])


def is_looking_of(thing, looks, names):
    """Whether any value is a rule of looking with some of these looks and houses."""
    if not is_looking(thing) or thing[0] not in names:
        return False
    if not is_set_of(thing[1], looks) or not is_set_of(thing[2], names):
        return False
    return all([pair[0] in names for pair in thing[4]])


def is_waking(thing):
    return is_tuple(thing, 2) and is_name(thing[0]) and is_integer(thing[1]) and thing[1] >= 1


def is_waking_of(thing, names):
    return is_waking(thing) and thing[0] in names


def is_book(thing):
    return parts_fault(thing) is None


def parts_fault(thing):
    if not is_tuple(thing, 5):
        return ("shape", -1)
    machine, trust, clocks, looking, waking = thing
    fault = machine_fault(machine)
    if fault is not None:
        return (fault[0], (0, fault[1]))
    fault = trust_fault(trust)
    if fault is not None:
        return (fault[0], (1, fault[1]))
    names = house_names(trust)
    fault = clocks_fault(clocks, names)
    if fault is not None:
        return (fault[0], (2, fault[1]))
    if not isinstance(looking, tuple):
        return ("looking", -1)
    for k, rule in enumerate(looking):
        if not is_looking_of(rule, machine[1], names):
            return ("rule", (3, k))
    if not isinstance(waking, tuple):
        return ("waking", -1)
    for k, rule in enumerate(waking):
        if not is_waking_of(rule, names):
            return ("rule", (4, k))
    return None

"""Machines and books read of texts; where a text is none, the first word that cannot stand."""

from actasone.errors import InvalidText
from actasone.kinds import first_triangle, is_name
from actasone.usable import need

DIGITS = "0123456789"
MOST_DIGITS = 60

# Which lines may come behind a line, by their first words; "" stands for the beginning.
BEHIND = {
    "": ("letters",),
    "letters": ("looks",),
    "looks": ("state",),
    "state": ("state", "house"),
    "house": ("house", "gap", "looking", "waking"),
    "gap": ("gap", "looking", "waking"),
    "looking": ("looking", "waking"),
    "waking": ("waking",),
}


def machine_read(text):
    need(isinstance(text, str), "text")
    told = Told(text)
    read_lines(told, ("letters", "looks", "state"))
    need_word(told.parts["state"] != [], len(told.rows), 0)
    return machine_of(told.parts)


def book_read(text):
    need(isinstance(text, str), "text")
    told = Told(text)
    read_lines(told, tuple(told.parts))
    parts = told.parts
    need_word(parts["house"] != [], len(told.rows), 0)
    need_word(first_triangle(parts["gap"]) is None, first_gap_line(told), 0)
    trust = tuple(parts["house"])
    clocks = tuple(parts["gap"])
    return (machine_of(parts), trust, clocks, tuple(parts["looking"]), tuple(parts["waking"]))


class Told:
    """The words of a text by lines, what all of them together tell, and what has been read.

    The houses and how many states there are come of all lines, also of those that are not
    possible, as lines ahead speak of houses and states behind them.
    """

    def __init__(self, text):
        self.rows = [line.split(" ") for line in text.split("\n")]
        self.state_count = len([row for row in self.rows if row[0] == "state"])
        # A second word that is no name is no house, in its own line and in all others.
        seconds = [row[1] for row in self.rows if row[0] == "house" and len(row) > 1]
        self.house_words = [name for name in seconds if is_name(name)]
        self.parts = {word: [] for word in BEHIND if word != ""}


def read_lines(told, words):
    """Reads each line as one of those that begin with these words."""
    ahead = ""
    for line, row in enumerate(told.rows):
        need_word(row[0] in BEHIND[ahead] and row[0] in words, line, 0)
        ahead = row[0]
        reader = READERS[ahead]
        told.parts[ahead].append(reader(row, line, told))


def machine_of(parts):
    moves = tuple(states for states, numbers in parts["state"])
    answers = tuple(numbers for states, numbers in parts["state"])
    return (parts["letters"][0], parts["looks"][0], moves, answers)


def first_gap_line(told):
    return len([row for row in told.rows if row[0] in ("letters", "looks", "state", "house")])


def need_word(holds, line, field):
    if not holds:
        raise InvalidText(line, field)


def word_at(row, line, field):
    """A word that the line has to have."""
    need_word(field < len(row), line, len(row))
    return row[field]


def need_end(row, line, many):
    need_word(len(row) <= many, line, many)


def read_letters(row, line, told):
    return read_names(row, line, 2)


def read_looks(row, line, told):
    return read_names(row, line, 1)


def read_names(row, line, least):
    """The names behind the first word, at least so many."""
    for field, word in enumerate(row):
        if field > 0:
            need_word(is_name(word) and (field == 1 or word > row[field - 1]), line, field)
    need_word(len(row) > least, line, len(row))
    return tuple(row[1:])


def read_state(row, line, told):
    letters = len(told.parts["letters"][0])
    looks = len(told.parts["looks"][0])
    states = []
    numbers = []
    for field in range(1, letters + 1):
        states.append(number_at(row, line, field))
        need_word(states[-1] < told.state_count, line, field)
    need_word(word_at(row, line, letters + 1) == ":", line, letters + 1)
    for field in range(letters + 2, letters + 2 + looks):
        numbers.append(number_at(row, line, field))
    need_end(row, line, letters + 2 + looks)
    return (tuple(states), tuple(numbers))


def read_house(row, line, told):
    house = word_at(row, line, 1)
    ahead = told.parts["house"]
    need_word(is_name(house) and (ahead == [] or house > ahead[-1][0]), line, 1)
    need_word(word_at(row, line, 2) == ":", line, 2)
    lots = []
    while lots == [] or word_at(row, line, 3 + len(lots)) != ":":
        lot = set_at(row, line, 3 + len(lots), told.house_words)
        need_word(lot != () and (lots == [] or lot > lots[-1]), line, 3 + len(lots))
        lots.append(lot)
    begin = 4 + len(lots)
    fears = []
    while fears == [] or begin + len(fears) < len(row):
        fear = set_at(row, line, begin + len(fears), told.house_words)
        rises = fears == [] or fear > fears[-1]
        need_word(house not in fear and rises, line, begin + len(fears))
        fears.append(fear)
    return (house, tuple(lots), tuple(fears))


def read_gap(row, line, told):
    begin = house_at(row, line, 1, told)
    end = house_at(row, line, 2, told)
    ahead = told.parts["gap"]
    need_word(begin != end and (ahead == [] or (begin, end) > ahead[-1][:2]), line, 2)
    gap = integer_at(row, line, 3)
    need_end(row, line, 4)
    return (begin, end, gap)


def read_looking(row, line, told):
    house = house_at(row, line, 1, told)
    looks = set_at(row, line, 2, told.parts["looks"][0])
    need_word(looks != (), line, 2)
    lot = set_at(row, line, 3, told.house_words)
    if word_at(row, line, 4) == "any":
        need_end(row, line, 5)
        return (house, looks, lot, "any", ())
    end = integer_at(row, line, 4)
    promises = []
    for field, word in enumerate(row):
        if field > 4:
            promise = promise_of(word, told)
            need_word(promise is not None, line, field)
            need_word(promises == [] or promise[0] > promises[-1][0], line, field)
            promises.append(promise)
    return (house, looks, lot, end, tuple(promises))


def promise_of(word, told):
    """The pair of a house and an integer, or None."""
    parts = word.split(":")
    if len(parts) != 2 or parts[0] not in told.house_words or not tells_integer(parts[1]):
        return None
    return (parts[0], int(parts[1]))


def read_waking(row, line, told):
    house = house_at(row, line, 1, told)
    many = integer_at(row, line, 2)
    need_word(many >= 1, line, 2)
    need_end(row, line, 3)
    return (house, many)


def house_at(row, line, field, told):
    house = word_at(row, line, field)
    need_word(house in told.house_words, line, field)
    return house


def set_at(row, line, field, names):
    """A set of these names; each name in it is greater than that ahead of it."""
    word = word_at(row, line, field)
    if word == "-":
        return ()
    parts = word.split(",")
    for k, part in enumerate(parts):
        need_word(part in names and (k == 0 or part > parts[k - 1]), line, field)
    return tuple(parts)


def number_at(row, line, field):
    number = integer_at(row, line, field)
    need_word(number >= 0, line, field)
    return number


def integer_at(row, line, field):
    word = word_at(row, line, field)
    need_word(tells_integer(word), line, field)
    return int(word)


def tells_integer(word):
    """Whether a word is an integer, written in the one way in which it is."""
    digits = word[1:] if word.startswith("-") else word
    if digits == "" or len(digits) > MOST_DIGITS:
        return False
    if digits.startswith("0") and word != "0":
        return False
    return all([digit in DIGITS for digit in digits])


READERS = {
    "letters": read_letters,
    "looks": read_looks,
    "state": read_state,
    "house": read_house,
    "gap": read_gap,
    "looking": read_looking,
    "waking": read_waking,
}

"""A book as an object that never changes."""

from actasone.bookchanges import with_rule, without_rule
from actasone.kinds import clocks_fault, house_names, is_looking, is_looking_of, is_waking, is_waking_of
from actasone.usable import need, need_machine, need_trust
from actasone.whole import fault_run, faults_of, is_as_one


class Book:
    def __init__(self, machine, trust, clocks, looking, waking):
        need_machine(machine)
        need_trust(trust)
        names = house_names(trust)
        need(clocks_fault(clocks, names) is None, "clocks")
        asks = isinstance(looking, tuple) and all([is_looking_of(rule, machine[1], names) for rule in looking])
        need(asks, "looking")
        need(isinstance(waking, tuple) and all([is_waking_of(rule, names) for rule in waking]), "waking")
        self._book = (machine, trust, clocks, looking, waking)
        self._rules = looking + waking

    @property
    def book_now(self):
        return self._book

    @property
    def faults_now(self):
        return faults_of(self._book)

    @property
    def is_one_now(self):
        return is_as_one(self._book)

    def run(self, fault):
        return fault_run(self._book, fault)

    def __add__(self, other):
        late = with_rule(self._book, other)
        return Book(*late)

    def __sub__(self, other):
        late = without_rule(self._book, other)
        return Book(*late)

    def __contains__(self, x):
        # Python takes True for 1, which no rule has.
        return (is_looking(x) or is_waking(x)) and x in self._rules

    def __len__(self):
        return len(self._rules)

    def __iter__(self):
        return iter(self._rules)

    def __eq__(self, other):
        return isinstance(other, Book) and self._book == other._book

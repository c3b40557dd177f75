"""A machine as an object that never changes."""

from actasone.kinds import is_state
from actasone.machinechanges import only_looks, side_by_side
from actasone.machineparts import made_of
from actasone.partschecker import lets_machine
from actasone.readings import machine_read
from actasone.texts import machine_text
from actasone.usable import need


class Machine:
    def __init__(self, letters, looks, moves, answers):
        lets_machine((letters, looks, moves, answers))
        self._machine = (letters, looks, moves, answers)
        self._pairs = tuple(zip(moves, answers))

    @classmethod
    def of(cls, machine):
        lets_machine(machine)
        return cls(machine[0], machine[1], machine[2], machine[3])

    @classmethod
    def read(cls, text):
        return cls.of(machine_read(text))

    @property
    def machine_now(self):
        return self._machine

    def __getitem__(self, at):
        need(is_state(self._machine, at), "state")
        return self._pairs[at]

    def __call__(self, state, row):
        return made_of(self._machine, state, row)

    def __contains__(self, x):
        return is_state(self._machine, x)

    def __len__(self):
        return len(self._pairs)

    def __iter__(self):
        return iter(self._pairs)

    def __str__(self):
        return str(machine_text(self._machine))

    def __eq__(self, other):
        return isinstance(other, Machine) and self._machine == other._machine

    def __or__(self, other):
        need(isinstance(other, Machine), "other")
        both = side_by_side(self._machine, other._machine)
        return Machine(both[0], both[1], both[2], both[3])

    def __and__(self, other):
        fewer = only_looks(self._machine, other)
        return Machine(fewer[0], fewer[1], fewer[2], fewer[3])

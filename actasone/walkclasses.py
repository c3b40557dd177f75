"""A walk through a machine, letter by letter and back."""

from actasone.errors import NothingToUndo
from actasone.kinds import is_number, is_row
from actasone.machineparts import answer_at, come_to
from actasone.usable import need, need_state


class Walk:
    def __init__(self, machine, state=0, row=()):
        need_state(machine, state)
        need(is_row(machine, row), "row")
        self._machine = machine
        self._row = row
        # The state at which it began, and those to which the letters came.
        self._states = come_to(machine, state, row)

    @property
    def machine_now(self):
        return self._machine

    @property
    def state_now(self):
        return self._states[-1]

    @property
    def row_now(self):
        return self._row

    def take(self, letter):
        need(letter in self._machine[0], "letter")
        self._states = self._states + come_to(self._machine, self._states[-1], (letter,))[1:]
        self._row = self._row + (letter,)
        return self._states[-1]

    def back(self):
        if self._row == ():
            raise NothingToUndo(0)
        letter = self._row[-1]
        self._row = self._row[:-1]
        self._states = self._states[:-1]
        return letter

    def __iadd__(self, other):
        self.take(other)
        return self

    def __add__(self, other):
        need(is_row(self._machine, other), "row")
        return Walk(self._machine, self._states[0], self._row + other)

    def __call__(self, row):
        need(is_row(self._machine, row), "row")
        return come_to(self._machine, self._states[-1], row)[-1]

    def __getitem__(self, at):
        need(at in self._machine[1], "look")
        return answer_at(self._machine, self._states[-1], at)

    def __contains__(self, x):
        return is_number(x) and x in self._states

    def __iter__(self):
        return iter(self._states)

    def __len__(self):
        return len(self._row)

    def __str__(self):
        words = [str(self._states[0])]
        for letter, state in zip(self._row, self._states[1:]):
            words.append(f"{letter} {state}")
        return " ".join(words)

    def __eq__(self, other):
        return (
            isinstance(other, Walk)
            and self._machine == other._machine
            and self._states[0] == other._states[0]
            and self._row == other._row
        )

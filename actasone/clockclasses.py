"""A clock table of houses as an object that never changes."""

from actasone.boundtables import gap_of, table_of
from actasone.kinds import is_bound_of, is_gap
from actasone.usable import need


class Clocks:
    def __init__(self, houses, *bounds):
        self._table = table_of(houses, bounds)
        self._houses = houses
        self._bounds = bounds

    @property
    def houses_now(self):
        return self._houses

    @property
    def table_now(self):
        return self._table

    def __call__(self, one, other):
        return gap_of(self._table, one, other)

    def __contains__(self, x):
        # Python takes True for 1, which is no gap.
        return is_gap(x) and x in self._table

    def __len__(self):
        return len(self._table)

    def __iter__(self):
        return iter(self._table)

    def __add__(self, other):
        need(is_bound_of(other, self._houses), "bound")
        bounds = self._bounds + (other,)
        return Clocks(self._houses, *bounds)

    def __eq__(self, other):
        return isinstance(other, Clocks) and self._houses == other._houses and self._table == other._table

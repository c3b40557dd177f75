"""A trust as an object that never changes."""

from actasone.kinds import house_names
from actasone.partschecker import lets_trust
from actasone.trustchanges import renamed_trust, with_fear, with_lot
from actasone.usable import need


class Trust:
    def __init__(self, *triples):
        lets_trust(triples)
        self._trust = triples
        self._houses = house_names(triples)

    @property
    def trust_now(self):
        return self._trust

    def __getitem__(self, at):
        need(at in self._houses, "house")
        return self._trust[self._houses.index(at)][1:]

    def __contains__(self, x):
        return x in self._houses

    def __len__(self):
        return len(self._houses)

    def __iter__(self):
        return iter(self._houses)

    def __eq__(self, other):
        return isinstance(other, Trust) and self._trust == other._trust

    def __mod__(self, other):
        late = renamed_trust(self._trust, other)
        return Trust(*late)

    def lotted(self, house, lot):
        late = with_lot(self._trust, house, lot)
        return Trust(*late)

    def fearing(self, house, fear):
        late = with_fear(self._trust, house, fear)
        return Trust(*late)

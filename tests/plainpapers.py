"""What checkers have to say of any value, told plainly: the pair of a word and a place of the first
entry that applies, or a list with what is to be returned.
"""

from tests import plain
from tests.plain import is_tuple


def is_word(value, word):
    return type(value) is str and value == word


def odds(trust, thing):
    if is_tuple(thing, 1) and is_word(thing[0], 'calm'):
        told = plain.all_odds(trust)
        return ('calm', told[0]) if told else [False]
    if not is_tuple(thing, 4) or not is_word(thing[0], 'odds'):
        return ('shape', -1)
    _, one, other, fall = thing
    if not plain.is_pair(trust, one) or not plain.is_pair(trust, other) or not plain.is_fall(trust, fall):
        return ('odds', -1)
    return [True] if plain.is_odds_fall(trust, one, other, fall) else ('odds', -1)


def is_need(trust, house, part):
    if not is_tuple(part, 4) or not plain.is_pair(trust, part[1:3]) or not plain.is_fall(trust, part[3]):
        return False
    if part[1] == house or part[3] not in plain.falls_of_both(trust, house, part[1]):
        return False
    return plain.told(part[0]) == plain.told(tuple(sorted(plain.lot_of(trust, part[1:3]) - set(part[3]))))


def needs(trust, house, thing):
    if type(thing) is not tuple:
        return ('shape', -1)
    for k, part in enumerate(thing):
        if not is_need(trust, house, part) or k > 0 and not thing[k - 1][0] < part[0]:
            return ('need', k)
    told = [set(part[0]) for part in thing]
    for k in range(len(told)):
        if any(told[j] <= told[k] for j in range(len(told)) if j != k):
            return ('least', k)
    for pair in sorted(plain.pairs_of(trust)):
        if pair[0] != house:
            for fall in plain.falls_of_both(trust, house, pair[0]):
                left = plain.lot_of(trust, pair) - set(fall)
                if not any(part <= left for part in told):
                    return ('lacks', pair)
    return [len(thing)]

"""Whether a paper tells rightly that two states are alike, or that they are not."""

from actasone.alikestates import answers_to
from actasone.kinds import are_numbers, is_row, is_tuple
from actasone.machineparts import come_to
from actasone.usable import need_right, need_two_states


def lets_alike(machine, state, other, looks, thing):
    need_two_states(machine, state, other, looks)
    need_right(is_tuple(thing, 2) and isinstance(thing[1], tuple), "shape", -1)
    need_right(thing[0] == "alike" or thing[0] == "unlike", "shape", -1)
    if thing[0] == "alike":
        check_numbers(machine, looks, thing[1])
        need_right(thing[1][state] == thing[1][other], "apart", -1)
        return True
    need_right(is_row(machine, thing[1]), "row", -1)
    one = come_to(machine, state, thing[1])[-1]
    two = come_to(machine, other, thing[1])[-1]
    need_right(answers_to(machine, one, looks) != answers_to(machine, two, looks), "same", -1)
    return False


def check_numbers(machine, looks, numbers):
    need_right(are_numbers(numbers, len(machine[2])), "numbers", -1)
    for state, number in enumerate(numbers):
        same = [low for low in range(state) if numbers[low] == number]
        answers = answers_to(machine, state, looks)
        alike = all([answers_to(machine, low, looks) == answers for low in same])
        need_right(alike, "answers", state)
        for k, late in enumerate(machine[2][state]):
            leads = all([numbers[machine[2][low][k]] == numbers[late] for low in same])
            need_right(leads, "letter", (state, k))

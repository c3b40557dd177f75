"""Whether any value is a row of letters with which a told run is as one."""

from actasone.kinds import is_row
from actasone.looksinruns import looks_of
from actasone.machineparts import answer_at, come_to
from actasone.oneness import followed_with, length_behind
from actasone.usable import need_right


def lets_row(book, run, thing, *, age=0):
    told = followed_with(book, run, age)
    machine = book[0]
    need_right(is_row(machine, thing), "shape", -1)
    need_right(len(thing) >= length_behind(told, len(told.happened)), "short", -1)
    for k, event in enumerate(told.happened):
        if event[0] == "learn" and event[2] in told.safe:
            need_right(thing[event[4]] == event[5], "learned", k)
    looks = looks_of(told)
    states = come_to(machine, 0, thing)
    for index, _, look, number, least, most in looks:
        begins = states[max(0, least - age) : most + 1]
        need_right(number in [answer_at(machine, state, look) for state in begins], "look", index)
    return len(looks)

"""Live houses made anew of their logs."""

from actasone.live import LiveHouses
from actasone.liveevents import is_log_of_houses
from actasone.usable import need


def is_log(thing):
    return is_log_of_houses(thing)


def replayed(log):
    need(is_log_of_houses(log), "log")
    _, book, fall, setting, age = log[0]
    live = LiveHouses(book, fall, setting, age=age)
    for event in log[1:]:
        live.happen(event)
    return live

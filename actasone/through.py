"""Many events led through live houses, each as it can."""

from actasone.errors import InvalidEvent
from actasone.live import LiveHouses
from actasone.usable import need


def lead_through(live, events):
    need(isinstance(live, LiveHouses), "live")
    need(isinstance(events, tuple), "events")
    return tuple(reason_for(live, event) for event in events)


def reason_for(live, event):
    """Lets the event happen, or tells for which reason it is refused."""
    try:
        live.go(event)
    except InvalidEvent as error:
        return error.reason
    return None

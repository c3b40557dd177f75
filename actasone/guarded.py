"""Live houses that refuse what would show that they are not one."""

from actasone.live import LiveHouses
from actasone.oneness import row_of
from actasone.runchecker import gone_on


class Guarded(LiveHouses):
    def __init__(self, book, fall, setting, *, age=0):
        LiveHouses.__init__(self, book, fall, setting, age=age)

    def reason_behind(self, run, event):
        reason = super().reason_behind(run, event)
        if reason is None and row_of(gone_on(run, (event,)), self.age_now) is None:
            return "broken"
        return reason

"""Desks day by day."""
from listbylist.live import Desk
from listbylist.replaying import need_desk


def days_of(size, lists, log):
    """For each day of the log how many ties each branch turns at its end."""
    need_desk(size, lists, log)
    live = Desk(size, *lists)
    days = []
    for event in log:
        live.go(event)
        if event[0] == "day":
            days.append(tuple([len(sorting) for sorting in live.branches_now()]))
    return tuple(days)

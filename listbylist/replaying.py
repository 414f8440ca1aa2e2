"""Desks made of their logs."""
from listbylist.books import book_of
from listbylist.errors import need
from listbylist.kinds import is_integer, is_number
from listbylist.live import Desk
from listbylist.liveevents import is_log


def need_desk(size, lists, log):
    """Raise NotUsable unless these are a size, lists of a book of it, and a tuple of events."""
    need(is_integer(size) and size >= 1, "size")
    need(isinstance(lists, tuple), "lists")
    book_of(size, *lists)
    need(is_log(log), "log")


def replayed(size, lists, log):
    """The desk behind the events of the log."""
    need_desk(size, lists, log)
    live = Desk(size, *lists)
    live.do_all(log)
    return live


def cut_log(log, many):
    """The pair of the first events of the log, as many as told or all, and the rest."""
    need(is_log(log), "log")
    need(is_number(many), "many")
    return (log[:many], log[many:])

"""Logs done again."""

from linkneed.errors import NotUsable
from linkneed.live import LiveBench
from linkneed.liveevents import is_log


def replayed(log):
    """A new bench that has done the events of the log."""
    if not is_log(log):
        raise NotUsable("log", -1)
    size, names, events = log
    bench = LiveBench(size, names)
    for event in events:
        bench.go(event)
    return bench

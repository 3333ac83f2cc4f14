"""The one object that the calls are made on: the yard as it stands, and the yards to go back or on to."""

from breakersyard.refusals import NOT_THERE
from breakersyard.state import Yard

MOST_BACK = 30


class Record:
    """The yard now, those that changes were made from (the last of them last), and those taken back."""

    def __init__(self):
        self.now = Yard()
        self.earlier = []
        self.later = []


def begin_anew(record):
    record.now = Yard()
    record.earlier = []
    record.later = []
    return 0


def keep_change(record, draft):
    record.earlier.append(record.now)
    if len(record.earlier) > MOST_BACK:
        record.earlier.pop(0)
    record.later = []
    record.now = draft


def take_back(record):
    if len(record.earlier) == 0:
        return NOT_THERE
    record.later.append(record.now)
    record.now = record.earlier.pop()
    return len(record.earlier)


def do_again(record):
    if len(record.later) == 0:
        return NOT_THERE
    # No more can be done again than were taken back, so the yards to go back to stay within their bound.
    record.earlier.append(record.now)
    record.now = record.later.pop()
    return len(record.later)

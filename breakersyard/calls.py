"""The numbers of the calls, and how one list holds them one behind another."""

START = 0
ADD_KIND = 1
ADD_MODEL = 2
ADD_CAR = 3
DRAIN = 4
OFF = 5
STRIP = 6
GATHER = 7
SELL = 8
CRUSH = 9
CART = 10
PUMP = 11
FITS = 12
MUST = 13
MAY = 14
NEXT = 15
LOOK = 16
FIND = 17
FROM = 18
LEAST = 19
LACKING = 20
PART = 21
COUNT = 22
ALIKE = 23
HARM = 24
WEIGHTS = 25
LITRES = 26
MONEY = 27
BACK = 28
AGAIN = 29
STATE = 30

# How many whole numbers stand behind each call's number, ahead of its row if it has one.
SIZES = (0, 4, 2, 2, 1, 2, 2, 2, 2, 1, 1, 2, 3, 2, 2, 1, 1, 2, 2, 2, 2, 1, 1, 1, 1, 0, 0, 0, 0, 0, 0)


class Call:
    """One call: its number, its whole numbers, and its row, which is empty where it has none."""

    def __init__(self, number, given, row):
        self.number = number
        self.given = given
        self.row = row


def split_calls(calls):
    found = []
    at = 0
    while at < len(calls):
        number = calls[at]
        behind = at + 1 + SIZES[number]
        given = calls[at + 1:behind]
        row = []
        if number == ADD_MODEL:
            start = behind + 1
            behind = start + calls[behind]
            row = calls[start:behind]
        found.append(Call(number, given, row))
        at = behind
    return found

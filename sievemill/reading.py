"""Reading a list of calls: the number of each call, and its arguments in the order of its signature."""

# By the number of the call: how many whole numbers stand behind it, ahead of a row.
WHOLE_ARGUMENTS = (1, 1, 1, 0, 0, 0, 1, 0, 1, 1, 1, 1, 1, 1, 1, 2, 0, 2, 2, 0)

# The calls whose last argument is a row: how many numbers it has, then these.
CALLS_WITH_ROW = (1, 3)


def read_calls(calls):
    found = []
    place = 0
    while place < len(calls):
        number = calls[place]
        behind = place + 1 + WHOLE_ARGUMENTS[number]
        arguments = calls[place + 1:behind]
        if number in CALLS_WITH_ROW:
            row = behind + 1
            behind = row + calls[behind]
            arguments.append(calls[row:behind])
        found.append((number, arguments))
        place = behind
    return found

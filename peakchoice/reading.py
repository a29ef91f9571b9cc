"""Takes one list of whole numbers apart into the calls that it is made of."""

# No call has more than one whole number or more than one row.
CALLS_WITH_NUMBER = (0, 1, 2, 3, 13, 14)
CALLS_WITH_ROW = (1, 3, 8, 11, 12, 13, 14, 15)


class Call:
    """One call; its number and its row are None where a call of its kind has none."""

    def __init__(self, operation, number, row):
        self.operation = operation
        self.number = number
        self.row = row


def read_calls(numbers):
    """All calls of the list, in order."""
    found = []
    position = 0
    while position < len(numbers):
        call = read_call(numbers, position)
        found.append(call)
        position += call_length(call)
    return found


def read_call(numbers, position):
    """The call that begins at this position."""
    operation = numbers[position]
    position += 1
    number = None
    row = None
    if operation in CALLS_WITH_NUMBER:
        number = numbers[position]
        position += 1
    if operation in CALLS_WITH_ROW:
        start = position + 1
        row = numbers[start:start + numbers[position]]
    return Call(operation, number, row)


def call_length(call):
    """How many numbers of the list the call takes up."""
    length = 1
    if call.number is not None:
        length += 1
    if call.row is not None:
        length += 1 + len(call.row)
    return length

"""How tests tell calls to the house and read its answers, call by call."""

from strongones.house import answers

BIG = 4294967295

# By name: the call's number, how many plain numbers it has, whether a row follows.
CALLS = {
    "begin": (0, 1, False), "leaf": (1, 2, False), "all_of": (2, 0, True), "some_of": (3, 0, True),
    "pop": (4, 0, False), "nodeis": (5, 1, False), "flip": (6, 1, False), "price": (7, 2, False),
    "thrice": (8, 1, False), "once": (9, 1, False), "misread": (10, 1, False),
    "is_true": (11, 1, False), "right": (12, 1, False), "ends": (13, 1, False),
    "cheapest": (14, 1, True), "buy": (15, 1, True), "promise": (16, 2, False),
    "unpromise": (17, 1, False), "promiseis": (18, 1, False), "tightest": (19, 1, False),
    "hear": (20, 3, False), "ifhear": (21, 3, False), "entry": (22, 1, False),
    "tally": (23, 0, False), "owed": (24, 0, False), "pay": (25, 1, False), "stakes": (26, 2, False),
}


def told(calls):
    """One list of whole numbers, of calls such as ("leaf", 1, 20) and ("all_of", [0, 1])."""
    numbers = []
    for call in calls:
        number, plain, with_row = CALLS[call[0]]
        numbers.append(number)
        numbers.extend(call[1:1 + plain])
        if with_row:
            numbers.append(len(call[1 + plain]))
            numbers.extend(call[1 + plain])
        if len(call) != 1 + plain + with_row:
            raise ValueError(call)
    if len(calls) > 60 or len(numbers) > 540:
        raise ValueError("more calls than are ever handed in")
    return numbers


def split_answers(numbers):
    """The answers one by one, each a list."""
    found = []
    place = 0
    while place < len(numbers):
        end = place + 1 + numbers[place]
        if end > len(numbers):
            raise ValueError(numbers)
        found.append(numbers[place + 1:end])
        place = end
    return found


def ask(*calls):
    """The answers to these calls, each a list."""
    found = split_answers(answers(told(calls)))
    if len(found) != len(calls):
        raise ValueError(found)
    return found


def behind(setting, *calls):
    """The answers to these calls alone, put behind a begin and the calls of the setting."""
    return ask(("begin", 0), *setting, *calls)[1 + len(setting):]

"""The calls on one object, one behind another in one list, and their answers."""

from colddrops.depot import Depot
from colddrops.refusals import NOT_BEGUN

BEGIN = 0

# For each call's number: its name, how many whole numbers it has, whether a row follows.
SHAPES = (
    ("begin", 3, False),
    ("stop", 3, False),
    ("way", 3, False),
    ("load", 1, True),
    ("drive", 1, False),
    ("back", 0, False),
    ("wait", 1, False),
    ("need", 0, True),
    ("mild", 0, True),
    ("quick", 1, True),
    ("most", 1, True),
    ("drops", 1, True),
    ("now", 0, False),
    ("left", 0, False),
    ("slack", 0, False),
    ("mins", 2, False),
    ("look", 1, False),
    ("done", 0, False),
    ("warm", 0, False),
    ("sums", 0, False),
    ("state", 0, False),
)


class Call:
    """One call as it was read, and where the one behind it begins."""

    def __init__(self, number, numbers, row, end):
        self.number = number
        self.numbers = numbers
        self.row = row
        self.end = end


def read_call(calls, start):
    number = calls[start]
    shape = SHAPES[number]
    end = start + 1 + shape[1]
    numbers = calls[start + 1:end]
    if not shape[2]:
        return Call(number, numbers, [], end)
    row_start = end + 1
    row_end = row_start + calls[end]
    return Call(number, numbers, calls[row_start:row_end], row_end)


def answer_begin(depot, numbers, row):
    return depot.begin(numbers[0], numbers[1], numbers[2])


def answer_stop(depot, numbers, row):
    return depot.add_stop(numbers[0], numbers[1], numbers[2])


def answer_way(depot, numbers, row):
    return depot.change_way(numbers[0], numbers[1], numbers[2])


def answer_load(depot, numbers, row):
    return depot.load_up(numbers[0], row)


def answer_drive(depot, numbers, row):
    return depot.drive_to(numbers[0])


def answer_back(depot, numbers, row):
    return depot.go_back()


def answer_wait(depot, numbers, row):
    return depot.wait_here(numbers[0])


def answer_need(depot, numbers, row):
    return depot.tell_need(row)


def answer_mild(depot, numbers, row):
    return depot.tell_mild(row)


def answer_quick(depot, numbers, row):
    return depot.tell_quick(numbers[0], row)


def answer_most(depot, numbers, row):
    return depot.tell_most(numbers[0], row)


def answer_drops(depot, numbers, row):
    return depot.tell_drops(numbers[0], row)


def answer_now(depot, numbers, row):
    return depot.tell_now()


def answer_left(depot, numbers, row):
    return depot.tell_left()


def answer_slack(depot, numbers, row):
    return depot.tell_slack()


def answer_mins(depot, numbers, row):
    return depot.tell_mins(numbers[0], numbers[1])


def answer_look(depot, numbers, row):
    return depot.look_at(numbers[0])


def answer_done(depot, numbers, row):
    return depot.tell_done()


def answer_warm(depot, numbers, row):
    return depot.tell_warm()


def answer_sums(depot, numbers, row):
    return depot.tell_sums()


def answer_state(depot, numbers, row):
    return depot.tell_state()


# By the call's number, in the order of SHAPES.
ANSWERERS = (
    answer_begin,
    answer_stop,
    answer_way,
    answer_load,
    answer_drive,
    answer_back,
    answer_wait,
    answer_need,
    answer_mild,
    answer_quick,
    answer_most,
    answer_drops,
    answer_now,
    answer_left,
    answer_slack,
    answer_mins,
    answer_look,
    answer_done,
    answer_warm,
    answer_sums,
    answer_state,
)


def answer_call(depot, call):
    if call.number != BEGIN and not depot.begun:
        return [NOT_BEGUN]
    return ANSWERERS[call.number](depot, call.numbers, call.row)


def answers(calls):
    depot = Depot()
    told = []
    start = 0
    while start < len(calls):
        call = read_call(calls, start)
        answer = answer_call(depot, call)
        told.append(len(answer))
        told.extend(answer)
        start = call.end
    return told

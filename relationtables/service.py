"""The service: calls in one list of numbers, and their answers in another.

For each call the answers hold how many numbers are answered, and then these numbers.
"""

from relationtables.request import Request

BEGINS = 0
TOLD = 1
DROP = 2
TABLE = 3
STEPS = 4
EMPTY = 5
GAP = 6

# By the number of the call (begins, told, drop, table, steps, empty, gap, enough): how many numbers stand behind it.
ARGUMENT_COUNTS = (2, 3, 1, 0, 0, 0, 0, 0)


def answers(calls):
    request = Request()
    result = []
    start = 0
    while start < len(calls):
        call = calls[start]
        end = start + 1 + ARGUMENT_COUNTS[call]
        numbers = answer(request, call, calls[start + 1:end])
        result.append(len(numbers))
        result.extend(numbers)
        start = end
    return result


def answer(request, call, arguments):
    if call == BEGINS:
        return request.begins(arguments[0], arguments[1])
    if call == TOLD:
        return request.told(arguments[0], arguments[1], arguments[2])
    if call == DROP:
        return request.drop(arguments[0])
    if call == TABLE:
        return request.table()
    if call == STEPS:
        return request.steps()
    if call == EMPTY:
        return request.empty()
    if call == GAP:
        return request.gap()
    return request.enough()

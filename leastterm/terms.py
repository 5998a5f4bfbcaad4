"""The calls on one line, read from a list of whole numbers and answered in one."""

from leastterm.line import Line

START = 0
LANG = 1
EXAMPLE = 2
CLEAR = 3
WISH = 4
FIND = 5
LEARN = 6
BEST = 7
CHECK = 8
CLASSES = 9
COST = 10
VALUE = 11

# How many whole numbers, then how many rows, stand behind each call's number.
SHAPES = {
    0: (2, 0), 1: (0, 2), 2: (1, 1), 3: (0, 0), 4: (0, 1), 5: (1, 0), 6: (1, 0),
    7: (1, 0), 8: (0, 1), 9: (1, 0), 10: (0, 1), 11: (0, 2), 12: (0, 0),
}


def answers(calls):
    """What is answered to each call in order: how many numbers, then these."""
    line = Line()
    given = []
    place = 0
    while place < len(calls):
        shape = SHAPES[calls[place]]
        rows_from = place + 1 + shape[0]
        rows = read_rows(calls, rows_from, shape[1])
        answer = answer_call(line, calls[place], calls[place + 1:rows_from], rows)
        given.append(len(answer))
        given.extend(answer)
        place = rows_from + sum([1 + len(row) for row in rows])
    return given


def read_rows(calls, place, count):
    """The count rows that begin at the place, each with its length before it."""
    rows = []
    while len(rows) < count:
        end = place + 1 + calls[place]
        rows.append(calls[place + 1:end])
        place = end
    return rows


def answer_call(line, call, plain, rows):
    """What the line answers to a call with these plain numbers and rows."""
    if call == START:
        return line.start(plain[0], plain[1])
    if call == LANG:
        return line.tell_language(rows[0], rows[1])
    if call == EXAMPLE:
        return line.tell_example(rows[0], plain[0])
    if call == CLEAR:
        return line.forget_examples()
    if call == WISH:
        return line.tell_wish(rows[0])
    if call == FIND:
        return line.find_first(plain[0])
    if call == LEARN:
        return line.learn(plain[0])
    if call == BEST:
        return line.find_best(plain[0])
    if call == CHECK:
        return line.check(rows[0])
    if call == CLASSES:
        return line.count_classes(plain[0])
    if call == COST:
        return line.tell_cost(rows[0])
    if call == VALUE:
        return line.tell_value(rows[0], rows[1])
    return line.show_examples()

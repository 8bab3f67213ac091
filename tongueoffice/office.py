"""The interface: a list of calls goes in, the list of their answers comes out."""

from tongueoffice.records import Records

TEXT = 0
GONE = 1
TRANSLATE = 2
SEND = 3
BACK = 4
CHOOSE = 5
RELEASE = 6
LOOK = 7
NOW = 8
TODO = 9
OFFER = 10
STILL_OPEN = 11
CHANGED = 12
# The call that is left, state, is 13.

# By the call's number: how many whole numbers stand ahead of its row, if any.
WHOLE_NUMBERS = (2, 1, 3, 1, 1, 4, 1, 2, 1, 1, 2, 1, 2, 0)
CALLS_WITH_A_ROW = (SEND, BACK)


def answers(calls):
    records = Records()
    told = []
    at = 0
    while at < len(calls):
        call = calls[at]
        row_at = at + 1 + WHOLE_NUMBERS[call]
        numbers = calls[at + 1:row_at]
        row = []
        at = row_at
        if call in CALLS_WITH_A_ROW:
            at = row_at + 1 + calls[row_at]
            row = calls[row_at + 1:at]
        answer = answer_of(records, call, numbers, row)
        told.append(len(answer))
        told.extend(answer)
    return told


def answer_of(records, call, numbers, row):
    if call == TEXT:
        return records.set_text(numbers[0], numbers[1])
    if call == GONE:
        return records.drop_key(numbers[0])
    if call == TRANSLATE:
        return records.set_translation(numbers[0], numbers[1], numbers[2])
    if call == SEND:
        return records.send_package(numbers[0], row)
    if call == BACK:
        return records.take_back(numbers[0], pairs_of(row))
    if call == CHOOSE:
        return records.choose_one((numbers[0], numbers[1], numbers[2]), numbers[3])
    if call == RELEASE:
        return records.add_release(numbers[0])
    return told_by(records, call, numbers)


# These calls change nothing.
def told_by(records, call, numbers):
    if call == LOOK:
        return records.look_up(numbers[0], numbers[1])
    if call == NOW:
        return records.list_now(numbers[0])
    if call == TODO:
        return records.list_todo(numbers[0])
    if call == OFFER:
        return records.make_offer(numbers[0], numbers[1])
    if call == STILL_OPEN:
        return records.list_unsettled(numbers[0])
    if call == CHANGED:
        return records.list_changed(numbers[0], numbers[1])
    return records.how_it_stands()


def pairs_of(row):
    return [(row[at], row[at + 1]) for at in range(0, len(row), 2)]

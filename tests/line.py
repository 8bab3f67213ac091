"""Writes lists of calls for the tests, and takes the answers apart again."""

from tongueoffice.office import answers

NAMES = ("text", "gone", "translate", "send", "back", "choose", "release",
         "look", "now", "todo", "offer", "open", "changed", "state")
LARGEST = 4294967295


def line(calls):
    """One list of numbers for calls like ("text", 1, 2) or ("send", 0, [1, 2])."""
    numbers = []
    for name, *parts in calls:
        numbers.append(NAMES.index(name))
        for part in parts:
            if isinstance(part, list):
                numbers.append(len(part))
                numbers.extend(part)
            else:
                numbers.append(part)
    return numbers


def apart(told):
    """The answers, a list each, from counts and numbers in one list."""
    found = []
    at = 0
    while at < len(told):
        end = at + 1 + told[at]
        if end > len(told):
            raise AssertionError("a count goes beyond the answers")
        found.append(told[at + 1:end])
        at = end
    return found


def run(calls):
    """What is answered of each call; only lists the document allows are asked."""
    if not 1 <= len(calls) <= 40:
        raise AssertionError(f"{len(calls)} calls in one line")
    numbers = line(calls)
    if len(numbers) > 1000:
        raise AssertionError(f"{len(numbers)} numbers in one line")
    found = apart(answers(numbers))
    if len(found) != len(calls):
        raise AssertionError("not one answer for each call")
    return found


def last(calls):
    return run(calls)[-1]


def texts(keys, text):
    return [("text", key, text) for key in keys]


def pairs(keys, translation):
    row = []
    for key in keys:
        row += [key, translation]
    return row


SIX = [0, 1, 2, 3, 4, 5]


def rounds(text, first_package, tongues):
    """Six new texts, and a package in each of the tongues that brings six works."""
    calls = texts(SIX, text)
    for step, tongue in enumerate(tongues):
        calls.append(("send", tongue, SIX))
        calls.append(("back", first_package + step, pairs(SIX, 500)))
    return calls


def fifty_four_works():
    """36 calls: nine packages came back; keys 0 to 5 have work of text 3 in tongue 0 alone."""
    return rounds(1, 0, [0, 1, 2, 3]) + rounds(2, 4, [0, 1, 2, 3]) + rounds(3, 8, [0])


def sixty_works():
    """38 calls: as above, and text 3 has work in tongue 1 too."""
    return fifty_four_works() + [("send", 1, SIX), ("back", 9, pairs(SIX, 500))]

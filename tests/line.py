"""Lays calls by name into one list, and takes the answers apart again."""

from restsquares.fields import answers

NUMBERS = {
    "start": 0, "field": 1, "put": 2, "take": 3, "share": 4, "kind": 5, "next": 6, "after": 7,
    "mixed": 8, "expected": 9, "lack": 10, "rest": 11, "soon": 12, "together": 13, "cross": 14,
    "crossNext": 15, "rarest": 16, "size": 17, "half": 18, "state": 19,
}
MOST = 2 ** 32 - 1


def lay(calls):
    laid = []
    for call in calls:
        laid.append(NUMBERS[call[0]])
        for told in call[1:]:
            if isinstance(told, list):
                laid.append(len(told))
                laid.extend(told)
            else:
                laid.append(told)
    return laid


def take_apart(given):
    found = []
    place = 0
    while place < len(given):
        end = place + 1 + given[place]
        assert end <= len(given), given
        found.append(given[place + 1:end])
        place = end
    return found


def ask(*calls):
    """The answer of each call, a list each."""
    found = take_apart(answers(lay(calls)))
    assert len(found) == len(calls), found
    return found


def ask_last(*calls):
    return ask(*calls)[-1]


def pairs(kinds):
    return [(i, j) for i in range(kinds) for j in range(i, kinds)]

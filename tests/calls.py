"""What the tests share: calls written as flat lists, and their answers without the counts."""

from markedgrains.desk import answers

BIGGEST = 4294967295
MOST_AMOUNT = 1048576
MOST_EVENTS = 256


def start(tanks):
    return [0, tanks]


def come_in(tank, amount, least=0, most=0):
    return [1, tank, amount, least, most]


def pour(source, goal, amount):
    return [2, source, goal, amount]


def told(*calls):
    """The number that each call is answered; each answer is one number."""
    given = answers([value for call in calls for value in call])
    if len(given) != 2 * len(calls) or given[0::2] != [1] * len(calls):
        raise AssertionError(f"not one number for each of {len(calls)} calls: {given}")
    return given[1::2]


def full():
    """Three tanks with 128, 128 and no grains, and as many events as there may be."""
    calls = [start(3)]
    for _ in range(MOST_EVENTS // 2):
        calls.append(come_in(0, 2))
        calls.append(pour(0, 1, 1))
    return calls


def next_number(before):
    return before if before < MOST_EVENTS else -28


def check_grains(case, calls, tank, other, grains, before):
    """After the calls just so many grains are in the tank, and so many events were there.

    One grain more can't be poured; just as many can, unless no event is left.
    """
    last = pour(tank, other, grains) if grains > 0 else come_in(tank, 1)
    given = told(*calls, pour(tank, other, grains + 1), last)
    case.assertEqual(given[len(calls):], [-33, next_number(before)])


def check_refused(case, calls, refused, number, grains, before):
    """The call is answered the number, and all is after it as it was ahead of it.

    grains: how many are in each tank, of two at least; before: how many events there were.
    """
    after = calls + [refused]
    case.assertEqual(told(*after)[-1], number)
    for tank, held in enumerate(grains):
        other = 1 if tank == 0 else 0
        check_grains(case, calls, tank, other, held, before)
        check_grains(case, after, tank, other, held, before)
    tanks = len(grains)
    case.assertEqual(told(*after, come_in(tanks, 1), come_in(tanks - 1, 1))[-2:], [-22, next_number(before)])

"""What the tests share: calls written as flat lists, their answers, and what is due by the document's words."""

from markedgrains.desk import answers

BIGGEST = 4294967295
MOST_AMOUNT = 1048576
MOST_EVENTS = 256
MOST_CALLS = 300


def start(tanks):
    return [0, tanks]


def come_in(tank, amount, least=0, most=0):
    return [1, tank, amount, least, most]


def pour(source, goal, amount):
    return [2, source, goal, amount]


def has(tank):
    return [3, tank]


def most(tank_set):
    return [4, tank_set]


def least(tank_set):
    return [5, tank_set]


def told(*calls):
    """The number that each call is answered; each answer is one number."""
    if len(calls) > MOST_CALLS:
        raise AssertionError(f"{len(calls)} calls are never handed in")
    given = answers([value for call in calls for value in call])
    if len(given) != 2 * len(calls) or given[0::2] != [1] * len(calls):
        raise AssertionError(f"not one number for each of {len(calls)} calls: {given}")
    return given[1::2]


def told_after(calls, *asked):
    """What those that are asked behind the calls are answered."""
    return told(*calls, *asked)[len(calls):]


def bounds(calls, tank_sets):
    """Of each set: its least and its most after the calls; asked in as many lists as it takes."""
    at_once = (MOST_CALLS - len(calls)) // 2
    given = []
    for place in range(0, len(tank_sets), at_once):
        part = tank_sets[place:place + at_once]
        numbers = told_after(calls, *[ask(tank_set) for tank_set in part for ask in (least, most)])
        given.extend(zip(numbers[0::2], numbers[1::2]))
    return given


def every_set(tanks):
    return list(range(1 << tanks))


def tanks_of(tank_set):
    return [tank for tank in range(32) if tank_set >> tank & 1]


def full():
    """Three tanks with 128, 128 and no grains, and as many events as there may be."""
    calls = [start(3)]
    for _ in range(MOST_EVENTS // 2):
        calls.append(come_in(0, 2))
        calls.append(pour(0, 1, 1))
    return calls


def next_number(before):
    return before if before < MOST_EVENTS else -28


def check_grains(case, calls, tank, other, grains, before):
    """After the calls just so many grains are in the tank, and so many events were there.

    One grain more can't be poured; just as many can, unless no event is left.
    """
    last = pour(tank, other, grains) if grains > 0 else come_in(tank, 1)
    given = told(*calls, has(tank), pour(tank, other, grains + 1), last)
    case.assertEqual(given[len(calls):], [grains, -33, next_number(before)])


def check_refused(case, calls, refused, number, grains, before):
    """The call is answered the number, and all is after it as it was ahead of it.

    grains: how many are in each tank, of two at least; before: how many events there were.
    """
    after = calls + [refused]
    case.assertEqual(told(*after)[-1], number)
    for tank, held in enumerate(grains):
        other = 1 if tank == 0 else 0
        check_grains(case, calls, tank, other, held, before)
        check_grains(case, after, tank, other, held, before)
    tanks = len(grains)
    case.assertEqual(bounds(after, every_set(tanks)), bounds(calls, every_set(tanks)))
    case.assertEqual(told(*after, come_in(tanks, 1), come_in(tanks - 1, 1))[-2:], [-22, next_number(before)])


def by_courses(calls):
    """Each row of numbers of marked grains, tank by tank, that some course brings about.

    The calls: a start, then comings in and pourings that are not refused.
    """
    grains = [0] * calls[0][1]
    rows = {tuple(grains)}
    for call in calls[1:]:
        rows = {after for row in rows for after in one_further(row, grains, call)}
        if call[0] == 1:
            grains[call[1]] += call[2]
        else:
            grains[call[1]] -= call[3]
            grains[call[2]] += call[3]
    return rows


def one_further(row, grains, call):
    if call[0] == 1:
        tank, _, fewest, greatest = call[1:]
        return [moved(row, None, tank, marked) for marked in range(fewest, greatest + 1)]
    source, goal, amount = call[1:]
    others = grains[source] - row[source]
    return [moved(row, source, goal, marked) for marked in range(amount + 1)
            if marked <= row[source] and amount - marked <= others]


def moved(row, source, goal, marked):
    after = list(row)
    if source is not None:
        after[source] -= marked
    after[goal] += marked
    return tuple(after)


def marked_in(row, tank_set):
    return sum(row[tank] for tank in tanks_of(tank_set))


def by_sets(calls):
    """Of each set of tanks: its least and its most, got from those of all sets one event before.

    Poured into a set, as many marked ones as it may hold together with the source, but no more than are
    poured; poured out of it, as many may stay as it may hold, but in the source no more than its rest.
    The least the other way. test_courses.py holds this against the courses themselves.
    """
    grains = [0] * calls[0][1]
    mosts = [0] * (1 << len(grains))
    leasts = list(mosts)
    for call in calls[1:]:
        if call[0] == 1:
            _, tank, amount, fewest, greatest = call
            grains[tank] += amount
            mosts = [held + greatest * (tank_set >> tank & 1) for tank_set, held in enumerate(mosts)]
            leasts = [held + fewest * (tank_set >> tank & 1) for tank_set, held in enumerate(leasts)]
        else:
            _, source, goal, amount = call
            grains[source] -= amount
            grains[goal] += amount
            mosts = [most_poured(mosts, tank_set, call, grains[source]) for tank_set in range(len(mosts))]
            leasts = [least_poured(leasts, tank_set, call, grains[source]) for tank_set in range(len(leasts))]
    return list(zip(leasts, mosts))


def most_poured(mosts, tank_set, call, rest):
    _, source, goal, amount = call
    if tank_set >> source & 1 == tank_set >> goal & 1:
        return mosts[tank_set]
    if tank_set >> goal & 1:
        return min(mosts[tank_set] + amount, mosts[tank_set | 1 << source])
    return min(mosts[tank_set], mosts[tank_set ^ 1 << source] + rest)


def least_poured(leasts, tank_set, call, rest):
    _, source, goal, amount = call
    if tank_set >> source & 1 == tank_set >> goal & 1:
        return leasts[tank_set]
    if tank_set >> goal & 1:
        return max(leasts[tank_set], leasts[tank_set | 1 << source] - rest)
    return max(leasts[tank_set] - amount, leasts[tank_set ^ 1 << source])


def drawn(source, tanks, events, greatest, comings):
    """A start and so many events, none of them refused, drawn from a source of random numbers.

    tanks: their numbers; greatest: the greatest amount that comes in; comings: how many in a hundred events.
    """
    grains = {tank: 0 for tank in tanks}
    calls = [start(max(tanks) + 1)]
    while len(calls) <= events:
        filled = [tank for tank in tanks if grains[tank] > 0]
        if not filled or len(tanks) == 1 or source.randrange(100) < comings:
            call = drawn_coming_in(source, source.choice(tanks), greatest)
            grains[call[1]] += call[2]
        else:
            from_tank = source.choice(filled)
            to_tank = source.choice([tank for tank in tanks if tank != from_tank])
            call = pour(from_tank, to_tank, drawn_part(source, grains[from_tank]))
            grains[from_tank] -= call[3]
            grains[to_tank] += call[3]
        calls.append(call)
    return calls


def drawn_coming_in(source, tank, greatest):
    amount = source.randint(1, greatest)
    two = sorted([source.randint(0, amount), source.randint(0, amount)])
    return come_in(tank, amount, *source.choice([two, two, two, [0, 0], [amount, amount], [0, amount], [two[0]] * 2]))


def drawn_part(source, grains):
    return source.choice([grains, 1, (grains + 1) // 2] + [source.randint(1, grains) for _ in range(6)])

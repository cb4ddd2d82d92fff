"""What the tests share: how calls are written and read, and a reckoning of the tests' own.

The reckoning follows the document's words and takes nothing from the package but `answers`.
"""

import functools

from fingertaps.game import answers

MOST = 4294967295
ALL_RULES = [(full, over, shares) for full in range(3, 8) for over in (0, 1) for shares in (0, 1, 2)]
FIRST_RULES = (5, 0, 2)


def rules(full, over, shares):
    return [0, full, over, shares]


def stand(a, b, c, d):
    return [1, a, b, c, d]


TURNS = [2]


def take(k):
    return [3, k]


WORTH = [4]
GOOD = [5]


def play(n):
    return [6, n]


KINDS = [7]
HARDEST = [8]


def ask(*calls):
    """The answers to these calls on one new game, a list of numbers for each call."""
    given = answers([number for call in calls for number in call])
    apart = []
    at = 0
    while at < len(given):
        apart.append(given[at + 1:at + 1 + given[at]])
        at += 1 + given[at]
    return apart


def told(hands):
    return tuple(sorted(hands, reverse=True))


def every_stand(full):
    hands = sorted({told((a, b)) for a in range(full) for b in range(full)})
    return [own + others for own in hands for others in hands if others != (0, 0)]


# What is kept here and below many tests ask for; nobody changes what it gives back.
@functools.cache
def turns_by_words(now, full, over, shares):
    own, others = now[:2], now[2:]
    taps = []
    for with_hand, on_hand in ((0, 0), (0, 1), (1, 0), (1, 1)):
        if own[with_hand] and others[on_hand]:
            hands = list(others)
            hands[on_hand] += own[with_hand]
            if hands[on_hand] >= full:
                hands[on_hand] = (hands[on_hand] - full) * over
            taps.append(told(hands) + own)
    shared = set()
    for a in range(full):
        for b in range(full):
            fits = a + b == sum(own) and told((a, b)) != own
            if shares == 1:
                fits = fits and 0 not in own and 0 not in (a, b)
            if fits and shares != 0:
                shared.add(told((a, b)))
    return list(dict.fromkeys(taps)) + [others + hands for hands in sorted(shared)]


@functools.cache
def worths_by_words(full, over, shares):
    """Worth and length of every stand: first which are won and lost, then how long each lasts."""
    turns = {now: turns_by_words(now, full, over, shares) for now in every_stand(full)}
    worth = {now: 0 for now in turns}
    changed = True
    while changed:
        changed = False
        for now, behind in turns.items():
            if worth[now] == 0 and all(worth[one] == 1 for one in behind):
                worth[now] = 2
                changed = True
            if worth[now] == 0 and any(worth[one] == 2 for one in behind):
                worth[now] = 1
                changed = True
    return {now: [worth[now], length] for now, length in lengths_by_words(turns, worth).items()}


def lengths_by_words(turns, worth):
    unknown = 10 ** 9
    length = {now: 0 if worth[now] == 0 or not turns[now] else unknown for now in turns}
    changed = True
    while changed:
        changed = False
        for now, behind in turns.items():
            if worth[now] == 0 or not behind:
                continue
            if worth[now] == 1:
                found = 1 + min(length[one] for one in behind if worth[one] == 2)
            else:
                found = 1 + max(length[one] for one in behind)
            if found < length[now]:
                length[now] = found
                changed = True
    return length


@functools.cache
def good_by_words(now, full, over, shares):
    """The numbers of the good turns of a stand, rising."""
    known = worths_by_words(full, over, shares)
    behind = [known[one] for one in turns_by_words(now, full, over, shares)]
    if known[now][0] == 0:
        return [k for k, (worth, length) in enumerate(behind) if worth == 0]
    if known[now][0] == 1:
        least = min(length for worth, length in behind if worth == 2)
        return [k for k, one in enumerate(behind) if one == [2, least]]
    greatest = max((length for worth, length in behind), default=0)
    return [k for k, one in enumerate(behind) if one == [1, greatest]]


def play_by_words(now, n, full, over, shares):
    """How many turns were taken, and the stand then."""
    taken = 0
    while taken < n and now[:2] != (0, 0):
        now = turns_by_words(now, full, over, shares)[good_by_words(now, full, over, shares)[0]]
        taken += 1
    return taken, now


def kinds_by_words(full, over, shares):
    worths = [worth for worth, length in worths_by_words(full, over, shares).values()]
    return [len(worths), worths.count(1), worths.count(2), worths.count(0)]


def hardest_by_words(full, over, shares):
    won = [(-length, now) for now, (worth, length) in worths_by_words(full, over, shares).items() if worth == 1]
    length, now = sorted(won)[0]
    return [-length, *now]

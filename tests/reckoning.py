"""What the tests share: how calls are written and read, and a reckoning of the tests' own.

The reckoning follows the document's words and takes nothing from the package but `answers`.
"""

from fingertaps.game import answers

MOST = 4294967295
ALL_RULES = [(full, over, shares) for full in range(3, 8) for over in (0, 1) for shares in (0, 1, 2)]
FIRST_RULES = (5, 0, 2)


def rules(full, over, shares):
    return [0, full, over, shares]


def stand(a, b, c, d):
    return [1, a, b, c, d]


TURNS = [2]


def take(k):
    return [3, k]


WORTH = [4]


def ask(*calls):
    """The answers to these calls on one new game, a list of numbers for each call."""
    given = answers([number for call in calls for number in call])
    apart = []
    at = 0
    while at < len(given):
        apart.append(given[at + 1:at + 1 + given[at]])
        at += 1 + given[at]
    return apart


def told(hands):
    return tuple(sorted(hands, reverse=True))


def every_stand(full):
    hands = sorted({told((a, b)) for a in range(full) for b in range(full)})
    return [own + others for own in hands for others in hands if others != (0, 0)]


def turns_by_words(now, full, over, shares):
    own, others = now[:2], now[2:]
    taps = []
    for with_hand, on_hand in ((0, 0), (0, 1), (1, 0), (1, 1)):
        if own[with_hand] and others[on_hand]:
            hands = list(others)
            hands[on_hand] += own[with_hand]
            if hands[on_hand] >= full:
                hands[on_hand] = (hands[on_hand] - full) * over
            taps.append(told(hands) + own)
    shared = set()
    for a in range(full):
        for b in range(full):
            fits = a + b == sum(own) and told((a, b)) != own
            if shares == 1:
                fits = fits and 0 not in own and 0 not in (a, b)
            if fits and shares != 0:
                shared.add(told((a, b)))
    return list(dict.fromkeys(taps)) + [others + hands for hands in sorted(shared)]


def worths_by_words(full, over, shares):
    """Worth and length of every stand: first which are won and lost, then how long each lasts."""
    turns = {now: turns_by_words(now, full, over, shares) for now in every_stand(full)}
    worth = {now: 0 for now in turns}
    changed = True
    while changed:
        changed = False
        for now, behind in turns.items():
            if worth[now] == 0 and all(worth[one] == 1 for one in behind):
                worth[now] = 2
                changed = True
            if worth[now] == 0 and any(worth[one] == 2 for one in behind):
                worth[now] = 1
                changed = True
    return {now: [worth[now], length] for now, length in lengths_by_words(turns, worth).items()}


def lengths_by_words(turns, worth):
    unknown = 10 ** 9
    length = {now: 0 if worth[now] == 0 or not turns[now] else unknown for now in turns}
    changed = True
    while changed:
        changed = False
        for now, behind in turns.items():
            if worth[now] == 0 or not behind:
                continue
            if worth[now] == 1:
                found = 1 + min(length[one] for one in behind if worth[one] == 2)
            else:
                found = 1 + max(length[one] for one in behind)
            if found < length[now]:
                length[now] = found
                changed = True
    return length

"""The calls of one game of fingers tapped, and what they answer.

A stand is a tuple of four numbers: the two hands of the one who's at turn,
then the two of the other one, of each child the hand with more fingers ahead.
"""

RULES = 0
STAND = 1
TURNS = 2
TAKE = 3
WORTH = 4
GOOD = 5
PLAY = 6
KINDS = 7

# How many numbers a call has behind its own, by the call's number; the last one is hardest.
NUMBERS_BEHIND = (3, 4, 0, 1, 0, 0, 1, 0, 0)

MOST_PLAYED = 50

OUT_OF_BOUNDS = -1
NO_SUCH_TURN = -2
NO_HAND_LEFT = -3

FOR_EVER = 0
WON = 1
LOST = 2


def two_hands(one, other):
    """A child's two hands, told as a stand tells them."""
    return (max(one, other), min(one, other))


def tapped_hand(hand, fingers, full, over):
    """How many fingers a hand has when it was tapped with so many."""
    together = hand + fingers
    if together < full:
        return together
    if over == 0:
        return 0
    return together - full


def stands_by_taps(stand, full, over):
    """The stands behind the taps, in the order of the taps."""
    own = stand[:2]
    others = stand[2:]
    found = []
    for fingers in own:
        for k in range(2):
            if fingers == 0 or others[k] == 0:
                continue
            hand = tapped_hand(others[k], fingers, full, over)
            behind = two_hands(hand, others[1 - k]) + own
            if behind not in found:
                found.append(behind)
    return found


def stands_by_shares(stand, full, shares):
    """The stands behind the shares, in the order of the shares."""
    if shares == 0:
        return []
    if shares == 1 and stand[1] == 0:
        return []
    fingers = stand[0] + stand[1]
    least = 1 if shares == 1 else 0
    found = []
    # From the half on, since the hand told first has no fewer than the other.
    for more in range((fingers + 1) // 2, full):
        fewer = fingers - more
        if fewer >= least and more != stand[0]:
            found.append(stand[2:] + (more, fewer))
    return found


def stands_by_turns(stand, full, over, shares):
    """The stands behind all turns, in the order of the turns."""
    # A tap changes the other one's hands and a share doesn't, so no stand comes from both.
    return stands_by_taps(stand, full, over) + stands_by_shares(stand, full, shares)


def all_hands(full):
    """What a child's two hands may be, the lower numbers first."""
    found = []
    for more in range(full):
        for fewer in range(more + 1):
            found.append((more, fewer))
    return found


def all_stands(full):
    """Every stand, the lower numbers first."""
    hands = all_hands(full)
    found = []
    for own in hands:
        for others in hands:
            if others[0] > 0:
                found.append(own + others)
    return found


def stands_ahead(turns):
    """For each stand those from which a turn leads to it; turns has for each those behind its turns."""
    ahead = {}
    for stand in turns:
        ahead[stand] = []
    for stand in turns:
        for behind in turns[stand]:
            ahead[behind].append(stand)
    return ahead


def newly_won(lost, ahead, settled):
    """The stands not settled yet from which a turn leads to one of the lost."""
    won = {}
    for stand in lost:
        for source in ahead[stand]:
            if source not in settled:
                won[source] = True
    return list(won)


def newly_lost(won, ahead, unsettled):
    """The stands whose last unsettled turn leads to one of the won; counts these turns off in unsettled."""
    lost = []
    for stand in won:
        for source in ahead[stand]:
            # A won stand never comes to 0 here: its turn to a lost one is not counted off.
            unsettled[source] = unsettled[source] - 1
            if unsettled[source] == 0:
                lost.append(source)
    return lost


def settled_stands(full, over, shares):
    """Worth and length of each stand that's won or lost; those that go on for ever are not in it."""
    turns = {}
    unsettled = {}
    for stand in all_stands(full):
        turns[stand] = stands_by_turns(stand, full, over, shares)
        unsettled[stand] = len(turns[stand])
    ahead = stands_ahead(turns)
    settled = {}
    lost = [stand for stand in turns if len(turns[stand]) == 0]
    length = 0
    # Lengths rise from round to round, so the first length found for a stand is the one asked for.
    while len(lost) > 0:
        for stand in lost:
            settled[stand] = (LOST, length)
        won = newly_won(lost, ahead, settled)
        for stand in won:
            settled[stand] = (WON, length + 1)
        lost = newly_lost(won, ahead, unsettled)
        length = length + 2
    return settled


def outcome_of(stand, settled):
    """Worth and length of any stand."""
    return settled.get(stand, (FOR_EVER, 0))


def outcome_by_good_turns(outcome):
    """Worth and length of the stands to which good turns lead, from one of this worth and length."""
    # A length is one more than that of the least of the lost or the greatest of the won behind it.
    if outcome[0] == WON:
        return (LOST, outcome[1] - 1)
    if outcome[0] == LOST:
        return (WON, outcome[1] - 1)
    return outcome


class Game:
    """One game: its rules, and the stand now. Each call answers a list of numbers."""

    def __init__(self):
        self.begin(5, 0, 2)

    def begin(self, full, over, shares):
        self.full = full
        self.over = over
        self.shares = shares
        self.now = (1, 1, 1, 1)

    def stands_behind(self):
        return stands_by_turns(self.now, self.full, self.over, self.shares)

    def settled_by_rules(self):
        return settled_stands(self.full, self.over, self.shares)

    def good_turns(self, settled):
        """The numbers of the good turns, rising."""
        sought = outcome_by_good_turns(outcome_of(self.now, settled))
        stands = self.stands_behind()
        return [k for k in range(len(stands)) if outcome_of(stands[k], settled) == sought]

    def rules(self, full, over, shares):
        if full < 3 or full > 7 or over > 1 or shares > 2:
            return [OUT_OF_BOUNDS]
        self.begin(full, over, shares)
        return [0]

    def stand(self, hands):
        if max(hands) >= self.full:
            return [OUT_OF_BOUNDS]
        if hands[2] == 0 and hands[3] == 0:
            return [NO_HAND_LEFT]
        self.now = two_hands(hands[0], hands[1]) + two_hands(hands[2], hands[3])
        return [len(self.stands_behind())]

    def turns(self):
        stands = self.stands_behind()
        answer = [len(stands)]
        for stand in stands:
            answer.extend(stand)
        return answer

    def take(self, k):
        stands = self.stands_behind()
        if k >= len(stands):
            return [NO_SUCH_TURN]
        self.now = stands[k]
        return [len(self.stands_behind())]

    def worth(self):
        return list(outcome_of(self.now, self.settled_by_rules()))

    def good(self):
        numbers = self.good_turns(self.settled_by_rules())
        return [len(numbers)] + numbers

    def play(self, n):
        if n < 1 or n > MOST_PLAYED:
            return [OUT_OF_BOUNDS]
        settled = self.settled_by_rules()
        taken = 0
        while taken < n:
            numbers = self.good_turns(settled)
            # Only a stand that's over and done has no good turn.
            if len(numbers) == 0:
                break
            self.now = self.stands_behind()[numbers[0]]
            taken = taken + 1
        return [taken, outcome_of(self.now, settled)[0]]

    def kinds(self):
        settled = self.settled_by_rules()
        together = len(all_stands(self.full))
        won = len([stand for stand in settled if settled[stand][0] == WON])
        return [together, won, len(settled) - won, together - len(settled)]

    def hardest(self):
        settled = self.settled_by_rules()
        greatest = max([settled[stand][1] for stand in settled if settled[stand][0] == WON])
        first = min([stand for stand in settled if settled[stand] == (WON, greatest)])
        return [greatest] + list(first)


def answer_of(game, call, numbers):
    """What the game answers to one call with these numbers."""
    if call == RULES:
        return game.rules(numbers[0], numbers[1], numbers[2])
    if call == STAND:
        return game.stand(numbers)
    if call == TURNS:
        return game.turns()
    if call == TAKE:
        return game.take(numbers[0])
    if call == WORTH:
        return game.worth()
    if call == GOOD:
        return game.good()
    if call == PLAY:
        return game.play(numbers[0])
    if call == KINDS:
        return game.kinds()
    return game.hardest()


def answers(calls):
    """For each call, in order, how many numbers are answered, then these."""
    game = Game()
    given = []
    at = 0
    while at < len(calls):
        call = calls[at]
        behind = at + 1 + NUMBERS_BEHIND[call]
        answer = answer_of(game, call, calls[at + 1:behind])
        given.append(len(answer))
        given.extend(answer)
        at = behind
    return given

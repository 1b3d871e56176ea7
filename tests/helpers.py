"""What several tests use: moving chosen letters, telling all of a folk, drawing numbers."""

from folklist.errors import Outside


def place_of(folk, kind, sender=None, to=None):
    """Give the place of the first letter under way like this."""
    for place, letter in enumerate(folk.letters()):
        if letter[0] == kind and sender in (None, letter[1]) and to in (None, letter[2]):
            return place
    raise AssertionError(f"no {kind} from {sender} to {to} in {folk.letters()}")


def bring(folk, kind, sender=None, to=None):
    folk.come(place_of(folk, kind, sender, to))


def double(folk, kind, sender=None, to=None):
    folk.double(place_of(folk, kind, sender, to))


def bring_all(folk, kind):
    """Bring all letters of a kind that are under way now, the first one first."""
    for _ in range(len([letter for letter in folk.letters() if letter[0] == kind])):
        bring(folk, kind)


def drop_all(folk, kind=None):
    """Lose all letters under way, or those of a kind."""
    for place in range(len(folk.letters()) - 1, -1, -1):
        if kind in (None, folk.letters()[place][0]):
            folk.lose(place)


def move_to(folk, hand, members):
    """Let a hand bring about the next list, with all letters coming."""
    folk.propose(hand, members)
    folk.calm()


def or_outside(ask, hand):
    """Give what is told, or a word where it is refused with Outside."""
    try:
        return ask(hand)
    except Outside:
        return "outside"


def told(folk):
    """Give all that a folk tells."""
    hands = []
    for hand in range(folk.many):
        asked = (folk.list_of, folk.taken, folk.is_still, folk.witness)
        hands.append((folk.stands(hand), [or_outside(ask, hand) for ask in asked], folk.past(hand)))
    return (folk.letters(), hands)


class Draw:
    """Numbers that look drawn by lot, the same ones in every run."""

    def __init__(self, seed):
        self.seed = seed * 7919 + 17

    def below(self, many):
        self.seed = (self.seed * 6364136223846793005 + 1442695040888963407) % 2 ** 64
        return (self.seed >> 33) % many

    def one_of(self, things):
        return things[self.below(len(things))]

    def some_of(self, many):
        """Give a list of some of so many hands, rising, not empty."""
        members = [hand for hand in range(many) if self.below(3) > 0]
        return members or [self.below(many)]

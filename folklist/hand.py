"""What one hand knows, of itself and of the list in which it is."""

from folklist.letter import Letter

NO_BALLOT = (0, -1)


class Offer:
    """The last hands that a hand offered in its list, and what was answered."""

    def __init__(self, ballot, members):
        self.ballot = ballot
        self.members = members
        self.promises = {}
        self.forward = None
        self.agrees = {}


class Seat:
    """What a hand knows of its list; made anew for each list, so nothing of an earlier one stays."""

    def __init__(self, number, members, news):
        self.number = number
        self.members = members
        # What the enter told that brought the hand here, to show it; None in the first list.
        self.news = news
        self.row = []
        self.took = 0
        # Only the first hand uses this: how many messages it knows each hand to hold.
        self.holding = {hand: 0 for hand in members}
        self.ballot = NO_BALLOT
        self.agreed = None
        self.offer = None

    def leader(self):
        """Give the hand that orders the messages of the list."""
        return self.members[0]

    def answered(self):
        """Tell whether the hand answered a ballot in this list, and so is still."""
        return self.ballot != NO_BALLOT


class Hand:
    """One hand, with its seat in a list, or None where it is in no list."""

    def __init__(self, me, post):
        self.me = me
        # All hands of a folk share this list: the letters under way.
        self.post = post
        self.standing = True
        self.said = 0
        self.highest = -1
        self.behind = []
        self.seat = None

    def sit(self, number, members, news):
        """Be in this list from now on."""
        self.seat = Seat(number, members, news)
        self.highest = number

    def go_on(self, row):
        """Leave the list, the row being what this hand took in all of it."""
        self.behind.append((self.seat.number, self.seat.members, row))
        self.seat = None

    def send(self, kind, to, told):
        """Send one letter, with the number of this hand's list."""
        self.post.append(Letter(kind, self.me, to, self.seat.number, told))

    def send_each(self, kind, hands, told):
        """Send the same letter to several hands, one behind the other."""
        for to in hands:
            self.send(kind, to, told)

    def send_others(self, kind, told):
        """Send the same letter to all other hands of the list."""
        self.send_each(kind, [to for to in self.seat.members if to != self.me], told)

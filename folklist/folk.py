"""Some hands that send letters to one another, and agree on lists of who is there."""

from folklist.errors import BadHand, BadList, Fallen, NoLetter, NoNews, NotFirst, Outside
from folklist.hand import Hand
from folklist.lists import is_hand, is_list, is_whole
from folklist.messages import have_came, hold_came, send_again, send_wish, take_came, wish_came
from folklist.offers import accept_came, agree_came, enter_came, prepare_came, promise_came
from folklist.offers import send_news, send_prepare

MOST_HANDS = 9


class Folk:
    """So many hands, with the letters that are under way between them."""

    def __init__(self, many, first):
        if not is_whole(many) or many < 1 or many > MOST_HANDS:
            raise BadHand("the number of hands is no whole number from 1 to 9")
        if not is_list(first, many):
            raise BadList("the first list is no list of hands")
        self.many = many
        self._post = []
        self._hands = [Hand(hand, self._post) for hand in range(many)]
        members = list(first)
        for member in members:
            self._hands[member].sit(0, members, None)

    def say(self, hand, word):
        """Let a hand say a word to its list."""
        send_wish(self._who_acts(hand), word)

    def press(self, hand):
        """Let the first hand of a list tell the others once more what it holds and took."""
        who = self._who_acts(hand)
        if who.seat.leader() != hand:
            raise NotFirst("the hand is not the first of its list")
        send_again(who)

    def propose(self, hand, members):
        """Let a hand offer these hands for the next list."""
        who = self._who_acts(hand)
        if not is_list(members, self.many):
            raise BadList("what is offered is no list of hands")
        send_prepare(who, members)

    def show(self, hand, other):
        """Let a hand show another one the enter that brought it into its list."""
        who = self._who_acts(hand)
        self._who(other)
        if who.seat.news is None:
            raise NoNews("no enter brought the hand into the first list")
        send_news(who, other)

    def fall(self, hand):
        """Let a hand fall away for good."""
        who = self._who(hand)
        if not who.standing:
            raise Fallen("the hand fell away already")
        who.standing = False

    def come(self, place):
        """Let the letter at this place come."""
        self._check_place(place)
        letter = self._post.pop(place)
        hand_over(self._hands[letter.to], letter)

    def lose(self, place):
        """Lose the letter at this place."""
        self._check_place(place)
        self._post.pop(place)

    def double(self, place):
        """Send the letter at this place once more, behind all others."""
        self._check_place(place)
        self._post.append(self._post[place])

    def calm(self):
        """Let the first letter come till none is under way, and give how many came."""
        came = 0
        while len(self._post) > 0:
            self.come(0)
            came += 1
        return came

    def letters(self):
        """Tell the letters under way, in the order in which they were sent."""
        return [(letter.kind, letter.sender, letter.to) for letter in self._post]

    def stands(self, hand):
        """Tell whether a hand didn't fall."""
        return self._who(hand).standing

    def list_of(self, hand):
        """Tell the number and the hands of the list in which a hand is."""
        seat = self._seat_of(hand)
        return (seat.number, list(seat.members))

    def taken(self, hand):
        """Tell the messages that a hand took in its list."""
        seat = self._seat_of(hand)
        return seat.row[:seat.took]

    def is_still(self, hand):
        """Tell whether a hand is still."""
        return self._seat_of(hand).answered()

    def witness(self, hand):
        """Tell the hands whose agrees brought about the list of a hand; none in the first list."""
        news = self._seat_of(hand).news
        if news is None:
            return []
        return list(news[3])

    def past(self, hand):
        """Tell the lists from which a hand went on, with what it took in all of each."""
        behind = self._who(hand).behind
        return [(number, list(members), list(row)) for number, members, row in behind]

    def _who(self, hand):
        if not is_hand(hand, self.many):
            raise BadHand("this is no hand")
        return self._hands[hand]

    def _who_acts(self, hand):
        who = self._who(hand)
        if not who.standing:
            raise Fallen("the hand fell away")
        if who.seat is None:
            raise Outside("the hand is in no list")
        return who

    def _seat_of(self, hand):
        who = self._who(hand)
        if who.seat is None:
            raise Outside("the hand is in no list")
        return who.seat

    def _check_place(self, place):
        if not is_whole(place) or place < 0 or place >= len(self._post):
            raise NoLetter("no letter is at this place")


def hand_over(hand, letter):
    """Let a letter come to a hand, which does nothing if it fell or is not in the letter's list."""
    if not hand.standing:
        return
    if letter.kind == "enter":
        enter_came(hand, letter)
    elif hand.seat is not None and hand.seat.number == letter.number:
        read_letter(hand, letter)


def read_letter(hand, letter):
    """Let a hand do what the letter's kind asks of it."""
    match letter.kind:
        case "wish":
            wish_came(hand, letter)
        case "hold":
            hold_came(hand, letter)
        case "have":
            have_came(hand, letter)
        case "take":
            take_came(hand, letter)
        case "prepare":
            prepare_came(hand, letter)
        case "promise":
            promise_came(hand, letter)
        case "accept":
            accept_came(hand, letter)
        case "agree":
            agree_came(hand, letter)

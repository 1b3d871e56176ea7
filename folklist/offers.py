"""The way to the next list: prepare, promise, accept, agree, enter."""

from folklist.hand import Offer
from folklist.lists import enough, longest


def send_prepare(hand, members):
    """Offer these hands for the next list, by a ballot that this hand never used in its list."""
    seat = hand.seat
    last = seat.ballot[0]
    if seat.offer is not None:
        last = max(last, seat.offer.ballot[0])
    ballot = (last + 1, hand.me)
    seat.offer = Offer(ballot, list(members))
    hand.send_each("prepare", seat.members, ballot)


def send_news(hand, other):
    """Show another hand the enter that brought this hand into its list."""
    hand.send("enter", other, hand.seat.news)


def prepare_came(hand, letter):
    """Promise, where the ballot is greater than the one that is known."""
    seat = hand.seat
    ballot = letter.told
    if ballot <= seat.ballot:
        return
    seat.ballot = ballot
    hand.send("promise", letter.sender, (ballot, list(seat.row), seat.agreed))


def promise_came(hand, letter):
    """Count the promise of a hand, and put something forward when just enough came."""
    seat = hand.seat
    ballot, row, agreed = letter.told
    offer = seat.offer
    if not is_last_offer(offer, ballot) or letter.sender in offer.promises:
        return
    offer.promises[letter.sender] = (row, agreed)
    if len(offer.promises) == enough(seat.members):
        offer.forward = what_to_put_forward(offer)
        members, whole = offer.forward
        hand.send_each("accept", seat.members, (ballot, members, whole))


def accept_came(hand, letter):
    """Agree, where the ballot is no less than the one that is known."""
    seat = hand.seat
    ballot = letter.told[0]
    if ballot < seat.ballot:
        return
    seat.ballot = ballot
    seat.agreed = letter.told
    hand.send("agree", letter.sender, ballot)


def agree_came(hand, letter):
    """Count the agree of a hand, and send the enters when just enough came."""
    seat = hand.seat
    offer = seat.offer
    if not is_last_offer(offer, letter.told) or letter.sender in offer.agrees:
        return
    offer.agrees[letter.sender] = True
    if len(offer.agrees) == enough(seat.members):
        members, whole = offer.forward
        told = (seat.number + 1, members, whole, sorted(offer.agrees))
        hand.send_each("enter", sorted(set(seat.members + members)), told)


def enter_came(hand, letter):
    """Go on from the list with the number ahead, or join from outside."""
    number, members, row, _ = letter.told
    if hand.seat is not None:
        if hand.seat.number != number - 1:
            return
        hand.go_on(row)
    # Whoever goes on was in no list with this number yet, so this asks it nothing new.
    if hand.me in members and number > hand.highest:
        hand.sit(number, members, letter.told)


def is_last_offer(offer, ballot):
    """Tell whether a ballot is that of the last offer; earlier ones no longer count."""
    return offer is not None and offer.ballot == ballot


def what_to_put_forward(offer):
    """Give the hands and the row to put forward, as the promises tell."""
    best = None
    for _, agreed in offer.promises.values():
        if agreed is not None and (best is None or agreed[0] > best[0]):
            best = agreed
    if best is not None:
        # Enough hands may have agreed to it already, so nothing else may be put forward.
        return (best[1], best[2])
    return (offer.members, longest([row for row, _ in offer.promises.values()]))

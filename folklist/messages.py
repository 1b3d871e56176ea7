"""Messages within one list: wish, hold, have, take."""

from folklist.lists import enough


def send_wish(hand, word):
    """Wish the first hand to put this word; the count makes each message one of its own."""
    message = (hand.me, hand.said, word)
    hand.said += 1
    hand.send("wish", hand.seat.leader(), message)


def send_again(hand):
    """Press: tell all other hands once more what the first hand holds and took."""
    seat = hand.seat
    for place, message in enumerate(seat.row):
        hand.send_others("hold", (message, place))
    hand.send_others("take", seat.took)


def wish_came(hand, letter):
    """Put the message at the end of the row, and have the others hold it."""
    seat = hand.seat
    message = letter.told
    if seat.answered() or message in seat.row:
        return
    place = len(seat.row)
    seat.row.append(message)
    hand.send_others("hold", (message, place))
    take_what_enough_hold(hand)


def hold_came(hand, letter):
    """Hold the message where the row has come just so far, and tell how many are held."""
    seat = hand.seat
    message, place = letter.told
    # A still hand has told its row in a promise, so it may hold no more than that.
    if seat.answered() or place > len(seat.row):
        return
    if place == len(seat.row):
        seat.row.append(message)
    hand.send("have", letter.sender, len(seat.row))


def have_came(hand, letter):
    """Note how many messages the other hand holds, and take what enough hands hold."""
    holding = hand.seat.holding
    # An earlier have may come late: it tells less than what is known.
    holding[letter.sender] = max(holding[letter.sender], letter.told)
    take_what_enough_hold(hand)


def take_came(hand, letter):
    """Take so many messages, or all that are held."""
    seat = hand.seat
    seat.took = max(seat.took, min(letter.told, len(seat.row)))


def take_what_enough_hold(hand):
    """Take the messages that enough hands hold, where these are more than the first hand took."""
    seat = hand.seat
    seat.holding[hand.me] = len(seat.row)
    counts = sorted(seat.holding.values(), reverse=True)
    many = counts[enough(seat.members) - 1]
    if many > seat.took:
        seat.took = many
        hand.send_others("take", many)

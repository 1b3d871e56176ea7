"""Lists of hands, and rows of messages."""


def is_whole(thing):
    """Tell whether something is a whole number; True and False are none."""
    return isinstance(thing, int) and not isinstance(thing, bool)


def is_hand(thing, many):
    """Tell whether something is one of so many hands."""
    return is_whole(thing) and thing >= 0 and thing < many


def enough(members):
    """Give how many hands of a list are enough: more than half of them."""
    return len(members) // 2 + 1


def is_list(thing, many):
    """Tell whether something is a list of some of so many hands, rising, not empty."""
    if not is_whole(many) or not isinstance(thing, list) or len(thing) == 0:
        return False
    before = -1
    for hand in thing:
        if not is_hand(hand, many) or hand <= before:
            return False
        before = hand
    return True


def longest(rows):
    """Give a new list like the longest row, the first of several as long."""
    best = []
    for row in rows:
        if len(row) > len(best):
            best = row
    return list(best)

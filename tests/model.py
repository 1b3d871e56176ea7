"""The points 3 to 10 once more, told in another way, for the tests to compare with.

All is kept in plain dicts, a letter's content is frozen in tuples, and what the program
works out from what it keeps (who is still, what was taken) is kept here as such.
"""

FRESH = {"row": (), "taken": (), "still": False, "ballot": (0, -1), "agreed": None,
         "offer": None, "haves": ()}


class Model:
    def __init__(self, many, first):
        self.many = many
        self.hands = {hand: {"stands": True, "said": 0, "numbers": set(), "past": [], "list": None}
                      for hand in range(many)}
        self.way = []
        for hand in first:
            self.seat(hand, 0, tuple(first), None)

    # Telling

    def told(self):
        hands = []
        for hand in range(self.many):
            one = self.hands[hand]
            if one["list"] is None:
                asked = ["outside"] * 4
            else:
                number, members = one["list"]
                news = one["news"]
                asked = [(number, list(members)), list(one["taken"]), one["still"],
                         [] if news is None else list(news[3])]
            past = [(number, list(members), list(row)) for number, members, row in one["past"]]
            hands.append((one["stands"], asked, past))
        return ([letter[:3] for letter in self.way], hands)

    def can_act(self, hand):
        return self.hands[hand]["stands"] and self.hands[hand]["list"] is not None

    # Deeds

    def say(self, hand, word):
        one = self.hands[hand]
        self.send("wish", hand, [one["list"][1][0]], (hand, one["said"], word))
        one["said"] += 1

    def press(self, hand):
        one = self.hands[hand]
        others = self.others(hand)
        for place in range(len(one["row"])):
            self.send("hold", hand, others, (one["row"][place], place))
        self.send("take", hand, others, len(one["taken"]))

    def propose(self, hand, members):
        one = self.hands[hand]
        rounds = [one["ballot"][0]]
        if one["offer"] is not None:
            rounds.append(one["offer"]["ballot"][0])
        ballot = (1 + max(rounds), hand)
        one["offer"] = {"ballot": ballot, "hands": tuple(members), "promises": [], "agrees": [],
                        "accepting": None, "entering": False}
        self.send("prepare", hand, one["list"][1], ballot)

    def show(self, hand, other):
        self.send("enter", hand, [other], self.hands[hand]["news"])

    def fall(self, hand):
        self.hands[hand]["stands"] = False

    def lose(self, place):
        self.way = self.way[:place] + self.way[place + 1:]

    def double(self, place):
        self.way = self.way + [self.way[place]]

    def come(self, place):
        kind, sender, to, number, content = self.way[place]
        self.lose(place)
        one = self.hands[to]
        if not one["stands"]:
            return
        if kind == "enter":
            self.enter(to, content)
        elif one["list"] is not None and one["list"][0] == number:
            getattr(self, kind)(to, sender, content)

    def calm(self):
        came = 0
        while self.way:
            self.come(0)
            came += 1
        return came

    # What a hand does with a letter

    def wish(self, me, sender, message):
        one = self.hands[me]
        if not one["still"] and message not in one["row"]:
            one["row"] += (message,)
            self.send("hold", me, self.others(me), (message, len(one["row"]) - 1))
            self.look(me)

    def hold(self, me, sender, content):
        one = self.hands[me]
        message, place = content
        if one["still"] or place > len(one["row"]):
            return
        if place == len(one["row"]):
            one["row"] += (message,)
        self.send("have", me, [sender], len(one["row"]))

    def have(self, me, sender, many):
        self.hands[me]["haves"] += ((sender, many),)
        self.look(me)

    def take(self, me, sender, many):
        one = self.hands[me]
        if many > len(one["taken"]):
            reach = one["row"][:many]
            one["taken"] = reach if len(reach) > len(one["taken"]) else one["taken"]

    def look(self, me):
        one = self.hands[me]
        for many in range(len(one["row"]), len(one["taken"]), -1):
            knowing = {me} | {sender for sender, told in one["haves"] if told >= many}
            if 2 * len(knowing) > len(one["list"][1]):
                one["taken"] = one["row"][:many]
                self.send("take", me, self.others(me), many)
                return

    def prepare(self, me, sender, ballot):
        one = self.hands[me]
        if ballot > one["ballot"]:
            one["ballot"] = ballot
            one["still"] = True
            self.send("promise", me, [sender], (ballot, one["row"], one["agreed"]))

    def promise(self, me, sender, content):
        ballot, row, agreed = content
        offer = self.hands[me]["offer"]
        if offer is None or offer["ballot"] != ballot or offer["accepting"] is not None:
            return
        if sender not in [hand for hand, _, _ in offer["promises"]]:
            offer["promises"].append((sender, row, agreed))
        members = self.hands[me]["list"][1]
        if 2 * len(offer["promises"]) <= len(members):
            return
        agreements = sorted([agreed for _, _, agreed in offer["promises"] if agreed is not None])
        if agreements:
            offer["accepting"] = agreements[-1][1:]
        else:
            rows = sorted([row for _, row, _ in offer["promises"]], key=len)
            offer["accepting"] = (offer["hands"], rows[-1])
        self.send("accept", me, members, (ballot,) + offer["accepting"])

    def accept(self, me, sender, content):
        one = self.hands[me]
        if content[0] >= one["ballot"]:
            one["ballot"] = content[0]
            one["still"] = True
            one["agreed"] = content
            self.send("agree", me, [sender], content[0])

    def agree(self, me, sender, ballot):
        one = self.hands[me]
        offer = one["offer"]
        if offer is None or offer["ballot"] != ballot or offer["entering"]:
            return
        offer["agrees"].append(sender)
        number, members = one["list"]
        witness = tuple(hand for hand in range(self.many) if hand in offer["agrees"])
        if 2 * len(witness) > len(members):
            offer["entering"] = True
            new, row = offer["accepting"]
            to = [hand for hand in range(self.many) if hand in members or hand in new]
            self.send("enter", me, to, (number + 1, new, row, witness))

    def enter(self, me, news):
        one = self.hands[me]
        number, members, row, _ = news
        if one["list"] is not None:
            if one["list"][0] + 1 != number:
                return
            one["past"].append(one["list"] + (row,))
            one["list"] = None
            if me in members:
                self.seat(me, number, members, news)
        elif me in members and not [old for old in one["numbers"] if old >= number]:
            self.seat(me, number, members, news)

    # Small things

    def seat(self, hand, number, members, news):
        self.hands[hand].update(FRESH)
        self.hands[hand]["list"] = (number, members)
        self.hands[hand]["news"] = news
        self.hands[hand]["numbers"].add(number)

    def others(self, hand):
        return [other for other in self.hands[hand]["list"][1] if other != hand]

    def send(self, kind, sender, hands, content):
        number = self.hands[sender]["list"][0]
        self.way = self.way + [(kind, sender, to, number, content) for to in hands]

"""A hall written word by word from [20] to [29], slow and without anything of the program but its refusals."""

import copy

from helps import SHOWINGS, SIGNS, quarrel_by_words, things_look_alike, way_by_words
from palmhall import errors


# Held against by how they are written out, as 1 is not True there.
ALL_SIGNS = {repr(sign) for sign in SIGNS}
ALL_SHOWINGS = {repr(showing) for showing in SHOWINGS}


def meant(called, figure):
    """By the words of [7]: the nearest price with this last figure, of two as near the higher."""
    near = [price for price in range(max(0, called - 12), called + 13) if price % 10 == figure]
    return sorted(near, key=lambda price: (abs(price - called), -price))[0]


def called_by_words(prints, first):
    """By the words of [14]."""
    if not prints:
        return first
    latest = max(moment for moment, price, count in prints)
    sold = {}
    for moment, price, count in prints:
        if moment == latest:
            sold[price] = sold.get(price, 0) + count
    return max(price for price in sold if sold[price] == max(sold.values()))


def many_of(showing):
    return showing[-2] * {"chin": 1, "brow": 10}[showing[-1]]


class PlainHall:
    def __init__(self, many, first):
        self.many, self.first = many, first
        self.moment, self.is_shut = 0, False
        self.offers_made, self.bargains_made = [], []
        self.deals_done, self.prints_up, self.rows = [], [], []
        self.before = []

    def refuse(self, *whens):
        """Refuses by the first of these words whose reason, asked only then, holds."""
        for word, reason in whens:
            if reason():
                raise getattr(errors, word)("so it is told")

    def deed(self):
        self.before.append(copy.deepcopy({key: self.__dict__[key] for key in self.__dict__ if key != "before"}))

    def no_member(self, member):
        return "NoMember", lambda: member not in range(self.many)

    def shut(self):
        return "Closed", lambda: self.is_shut

    def no_bargain(self, number):
        return "NoBargain", lambda: number not in range(len(self.bargains_made))

    def not_theirs(self, member, number):
        return "NotTheirs", lambda: member not in self.bargains_made[number]["two"]

    def no_quarrel(self, number):
        return "NoQuarrel", lambda: self.bargain(number)[-1] != "quarrel"

    def stands(self, number):
        return number in range(len(self.offers_made)) and self.offers_made[number]["stands"]

    def standing(self, member, palm):
        return [
            offer for offer in self.offers_made
            if offer["stands"] and offer["member"] == member and offer["sign"][0] == palm
        ]

    def hold(self, member, sign):
        self.refuse(self.shut(), self.no_member(member), ("NoSign", lambda: repr(sign) not in ALL_SIGNS))
        self.deed()
        for offer in self.standing(member, sign[0]):
            offer["stands"] = False
        price = meant(self.called(), sign[1])
        self.offers_made.append({"member": member, "sign": sign, "price": price, "left": many_of(sign), "stands": True})
        number = len(self.offers_made) - 1
        self.rows.append(("held", member, sign, number))
        return number

    def lower(self, member, palm):
        self.refuse(self.shut(), self.no_member(member), ("NoOffer", lambda: not self.standing(member, palm)))
        self.deed()
        self.standing(member, palm)[0]["stands"] = False
        self.rows.append(("lowered", member, palm))

    def take(self, member, number, look, shown, seen):
        self.refuse(
            self.shut(), self.no_member(member),
            ("NoOffer", lambda: not self.stands(number)),
            ("Own", lambda: self.offers_made[number]["member"] == member),
            ("NoSign", lambda: repr(look) not in ALL_SIGNS),
            ("NoSign", lambda: repr(shown) not in ALL_SHOWINGS or repr(seen) not in ALL_SHOWINGS),
            ("NotSeen", lambda: look != self.offers_made[number]["sign"]
             and not things_look_alike(look, self.offers_made[number]["sign"])),
            ("NotSeen", lambda: seen != shown and not things_look_alike(seen, shown)),
            ("TooMany", lambda: many_of(shown) > many_of(look)),
        )
        self.deed()
        offer = self.offers_made[number]
        other = offer["member"]
        count = many_of(seen) if many_of(seen) < offer["left"] else offer["left"]
        side = "bought" if offer["sign"][0] == "in" else "sold"
        card = (other, member, side, offer["price"], count, self.moment)
        side = "sold" if look[0] == "in" else "bought"
        second = (member, other, side, meant(self.called(), look[1]), many_of(shown), self.moment)
        self.bargains_made.append({
            "two": (other, member), "told": (offer["sign"], look, shown, seen), "cards": (card, second),
            "called": self.called(), "in": [], "consents": [], "end": None, "moment": self.moment,
        })
        offer["left"] -= count
        if offer["left"] == 0:
            offer["stands"] = False
        self.rows.append(("took", member, number, look, shown, seen, len(self.bargains_made) - 1))
        return len(self.bargains_made) - 1

    def done(self, bargain, price, count):
        sold = [card for card in bargain["cards"] if card[2] == "sold"]
        bought = [card for card in bargain["cards"] if card[2] == "bought"]
        assert len(sold) == len(bought) == 1
        self.deals_done.append((sold[0][0], bought[0][0], price, count, bargain["moment"]))
        self.prints_up.append((bargain["moment"], price, count))
        bargain["end"] = "done"

    def hand_in(self, member, number):
        self.refuse(
            self.no_member(member), self.no_bargain(number), self.not_theirs(member, number),
            ("Twice", lambda: member in self.bargains_made[number]["in"]),
        )
        self.deed()
        bargain = self.bargains_made[number]
        bargain["in"].append(member)
        if len(bargain["in"]) == 1:
            word = "waits"
        elif quarrel_by_words(*bargain["cards"]):
            word = "quarrel"
        else:
            word = "done"
            self.done(bargain, bargain["cards"][0][3], bargain["cards"][0][4])
        self.rows.append(("in", member, number, word))
        return word

    def settle(self, number):
        self.refuse(self.no_bargain(number), self.no_quarrel(number))
        self.deed()
        bargain = self.bargains_made[number]
        told = way_by_words(*bargain["cards"], bargain["called"])
        if told == ("void",):
            bargain["end"] = "void"
        if told[0] == "done":
            self.done(bargain, told[1], told[2])
        self.rows.append(("settled", number, told))
        return told

    def consent(self, member, number, price, count):
        self.refuse(
            self.no_member(member), self.no_bargain(number), self.not_theirs(member, number),
            self.no_quarrel(number),
            ("NoWay", lambda: "side" in quarrel_by_words(*self.bargains_made[number]["cards"])),
            ("BadNumber", lambda: not 0 <= price <= 100_000_000 or not 1 <= count <= 1_000_000),
        )
        self.deed()
        bargain = self.bargains_made[number]
        others = [told for who, *told in bargain["consents"] if who != member]
        bargain["consents"].append((member, price, count))
        word = "waits"
        if others and others[-1] == [price, count]:
            word = "done"
            self.done(bargain, price, count)
        self.rows.append(("consent", member, number, price, count, word))
        return word

    def go_on(self, ticks):
        self.refuse(self.shut(), ("BadNumber", lambda: not 1 <= ticks <= 1000))
        self.deed()
        self.moment += ticks
        self.rows.append(("passed", ticks))

    def close(self):
        self.refuse(self.shut())
        self.deed()
        self.is_shut = True
        for offer in self.offers_made:
            offer["stands"] = False
        numbers = [number for number, bargain in enumerate(self.bargains_made) if bargain["end"] is None]
        self.rows.append(("closed", tuple(numbers)))
        return numbers

    def back(self):
        self.refuse(("NothingLeft", lambda: not self.before))
        self.__dict__.update(self.before.pop())

    def now(self):
        return self.moment

    def called(self):
        return called_by_words(self.prints_up, self.first)

    def is_open(self):
        return not self.is_shut

    def offers(self):
        return [
            (number, offer["member"], offer["sign"], offer["price"], offer["left"])
            for number, offer in enumerate(self.offers_made) if offer["stands"]
        ]

    def bargain(self, number):
        self.refuse(self.no_bargain(number))
        bargain = self.bargains_made[number]
        word = bargain["end"] or ["open", "half", "quarrel"][len(bargain["in"])]
        return bargain["two"] + bargain["told"] + bargain["cards"] + (word,)

    def quarrel(self, number):
        self.refuse(self.no_bargain(number))
        return quarrel_by_words(*self.bargains_made[number]["cards"])

    def prints(self):
        return list(self.prints_up)

    def deals(self):
        return list(self.deals_done)

    def stands_now(self):
        told = []
        for member in range(self.many):
            bought = [deal for deal in self.deals_done if deal[1] == member]
            sold = [deal for deal in self.deals_done if deal[0] == member]
            lots = sum(deal[3] for deal in bought) - sum(deal[3] for deal in sold)
            coins = sum(deal[2] * deal[3] for deal in sold) - sum(deal[2] * deal[3] for deal in bought)
            told.append((lots, coins))
        return told

    def deliveries(self):
        # Which rows is not promised: the tests hold these against the stands.
        return None

    def book(self):
        return list(self.rows)


# How a deed is drawn: mostly one that can be done, so that halls come far; now and then one that is refused.
def drawn_look(chance, thing):
    """The thing, one of its look-alikes, or any other one of its kind."""
    things = SIGNS if len(thing) == 4 else SHOWINGS
    alike = [other for other in things if things_look_alike(thing, other)]
    share = chance.random()
    if share < 0.55:
        return thing
    if share < 0.95 and alike:
        return chance.choice(alike)
    return chance.choice(things)


def drawn_number(chance, many):
    """Mostly a number below this one."""
    return chance.randrange(many) if many and chance.random() < 0.95 else chance.choice([-1, many, many + 1, 0])


def drawn_take(chance, plain):
    standing = plain.offers()
    if not standing or chance.random() < 0.05:
        sign, number = chance.choice(SIGNS), drawn_number(chance, len(plain.offers_made))
    else:
        number, member, sign, price, left = chance.choice(standing)
    look = drawn_look(chance, sign)
    smaller = [showing for showing in SHOWINGS if many_of(showing) <= many_of(look)]
    shown = chance.choice(smaller if chance.random() < 0.95 else SHOWINGS)
    return ("take", drawn_number(chance, plain.many), number, look, shown, drawn_look(chance, shown))


def drawn_bargain(chance, plain, words):
    """Mostly the number of a bargain with one of these words."""
    fit = [number for number in range(len(plain.bargains_made)) if plain.bargain(number)[-1] in words]
    if fit and chance.random() < 0.9:
        return chance.choice(fit)
    return drawn_number(chance, len(plain.bargains_made))


def drawn_member(chance, plain, number):
    """Mostly one of the bargain's two."""
    if number in range(len(plain.bargains_made)) and chance.random() < 0.9:
        return chance.choice(plain.bargains_made[number]["two"])
    return drawn_number(chance, plain.many)


def drawn_deed(chance, plain):
    """The name of a deed and what is told with it, for a hall that is like this one."""
    name = chance.choices(
        ["hold", "lower", "take", "hand_in", "settle", "consent", "go_on", "close"],
        [12, 2, 14, 20, 6, 10, 4, 0.3],
    )[0]
    if name == "hold":
        return name, drawn_number(chance, plain.many), chance.choice(SIGNS)
    if name == "lower":
        return name, drawn_number(chance, plain.many), chance.choice(["in", "out"])
    if name == "take":
        return drawn_take(chance, plain)
    if name == "go_on":
        return name, chance.choice([1, 1, 2, 7, 1000, 0, 1001, -1])
    if name == "close":
        return (name,)
    number = drawn_bargain(chance, plain, ["open", "half"] if name == "hand_in" else ["quarrel"])
    if name == "settle":
        return name, number
    member = drawn_member(chance, plain, number)
    if name == "hand_in":
        return name, member, number
    return (name, member, number) + drawn_terms(chance)


def drawn_terms(chance):
    """A price and a count to consent to, so few that the two often consent to the same."""
    if chance.random() < 0.8:
        return chance.choice([118, 119]), 1
    return chance.choice([118, 0, 10 ** 8, 10 ** 8 + 1, -1]), chance.choice([1, 2, 10 ** 6, 10 ** 6 + 1, 0])

"""The hall: signs are held up and taken, cards handed in, quarrels settled, and all of it can be taken back."""

from palmhall.board import called_price
from palmhall.cards import MOST_COUNT, quarrel_of
from palmhall.deliveries import fewest_deliveries
from palmhall.errors import (
    BadNumber, Closed, NoBargain, NoMember, NoOffer, NoQuarrel, NoSign, NotSeen, NotTheirs, NothingLeft, NoWay,
    Own, TooMany, Twice,
)
from palmhall.kinds import is_whole
from palmhall.signs import is_showing, is_sign, look_alike, lots_of, price_meant
from palmhall.stands import stands
from palmhall.ways import one_way

FEWEST_MEMBERS = 2
MOST_MEMBERS = 12
HIGHEST_PRICE = 10 ** 8
MOST_TICKS = 1000

HOLDER_SIDES = {"in": "bought", "out": "sold"}
TAKER_SIDES = {"in": "sold", "out": "bought"}


def check_look(sign, look, shown, seen):
    """Refuses what the taker cannot have taken the sign for, or the holder what was shown."""
    if not is_sign(look) or not is_showing(shown) or not is_showing(seen):
        raise NoSign("a sign is looked at, showings are shown and seen")
    if look != sign and not look_alike(sign, look):
        raise NotSeen("the look does not look like the sign")
    if seen != shown and not look_alike(shown, seen):
        raise NotSeen("what is seen does not look like what is shown")
    if lots_of(shown) > lots_of(look):
        raise TooMany("more lots are shown than the look has")


class Hall:
    """A hall of so many members, with a first price."""

    def __init__(self, many, first):
        if not is_whole(many, FEWEST_MEMBERS, MOST_MEMBERS) or not is_whole(first, 0, HIGHEST_PRICE):
            raise BadNumber("a hall has 2 to 12 members, and a first price from 0 to 10 ** 8")
        self.many = many
        self.first = first
        self.moment = 0
        self.shut = False
        # Offers that stand, by their numbers: (member, sign, price, lots left).
        self.standing = {}
        self.held = 0
        # Bargains: (member of the offer, taker, sign, look, shown, seen, card, card, price called then).
        self.struck = []
        self.words = []
        # By bargains, who has handed in; by bargains and members, the last consent.
        self.handed = {}
        self.consents = {}
        self.done = []
        self.rows = []
        self.past = []

    def hold(self, member, sign):
        """Holds up a sign; the offer's number."""
        self.check_open()
        self.check_member(member)
        if not is_sign(sign):
            raise NoSign("only a sign is held up")
        self.keep()
        ahead = self.offer_of(member, sign[0])
        if ahead is not None:
            del self.standing[ahead]
        number = self.held
        self.held += 1
        self.standing[number] = (member, sign, price_meant(self.called(), sign[1]), lots_of(sign))
        self.rows.append(("held", member, sign, number))
        return number

    def lower(self, member, palm):
        """Takes down the member's offer with this palm."""
        self.check_open()
        self.check_member(member)
        number = self.offer_of(member, palm)
        if number is None:
            raise NoOffer("no offer of this member with this palm stands")
        self.keep()
        del self.standing[number]
        self.rows.append(("lowered", member, palm))

    def take(self, member, offer, look, shown, seen):
        """Takes an offer, or a part of it; the bargain's number."""
        self.check_open()
        self.check_member(member)
        self.check_offer(member, offer)
        holder, sign, price, left = self.standing[offer]
        check_look(sign, look, shown, seen)
        self.keep()
        called = self.called()
        card = (holder, member, HOLDER_SIDES[sign[0]], price, min(lots_of(seen), left), self.moment)
        meant = price_meant(called, look[1])
        other = (member, holder, TAKER_SIDES[look[0]], meant, lots_of(shown), self.moment)
        number = len(self.struck)
        self.struck.append((holder, member, sign, look, shown, seen, card, other, called))
        self.words.append("open")
        self.lessen(offer, card[4])
        self.rows.append(("took", member, offer, look, shown, seen, number))
        return number

    def hand_in(self, member, bargain):
        """Hands in the member's card of a bargain: "waits", "done" or "quarrel"."""
        self.check_theirs(member, bargain)
        writers = self.handed.get(bargain, ())
        if member in writers:
            raise Twice("the member has handed in this card")
        self.keep()
        self.handed[bargain] = writers + (member,)
        word = self.compare(bargain) if writers else self.wait(bargain)
        self.rows.append(("in", member, bargain, word))
        return word

    def settle(self, bargain):
        """Settles a quarrel by the one way of its cards, where there is one."""
        self.check_bargain(bargain)
        self.check_quarrel(bargain)
        self.keep()
        card, other, called = self.struck[bargain][6:]
        told = one_way(card, other, called)
        if told[0] == "void":
            self.words[bargain] = "void"
        elif told[0] == "done":
            self.strike(bargain, told[1], told[2])
        self.rows.append(("settled", bargain, told))
        return told

    def consent(self, member, bargain, price, count):
        """Consents to a price and a count: "waits", or "done" where the other one did so too."""
        self.check_theirs(member, bargain)
        self.check_quarrel(bargain)
        if "side" in self.quarrel(bargain):
            raise NoWay("both cards tell the same side")
        if not is_whole(price, 0, HIGHEST_PRICE) or not is_whole(count, 1, MOST_COUNT):
            raise BadNumber("a price is from 0 to 10 ** 8, a count from 1 to 10 ** 6")
        self.keep()
        self.consents[(bargain, member)] = (price, count)
        holder, taker = self.struck[bargain][:2]
        word = "waits"
        if self.consents.get((bargain, holder)) == self.consents.get((bargain, taker)):
            word = self.strike(bargain, price, count)
        self.rows.append(("consent", member, bargain, price, count, word))
        return word

    def go_on(self, ticks):
        """So many moments pass."""
        self.check_open()
        if not is_whole(ticks, 1, MOST_TICKS):
            raise BadNumber("1 to 1000 moments pass at a time")
        self.keep()
        self.moment += ticks
        self.rows.append(("passed", ticks))

    def close(self):
        """Closes the hall; the bargains that are neither done nor void."""
        self.check_open()
        self.keep()
        self.shut = True
        self.standing = {}
        numbers = [number for number, word in enumerate(self.words) if word not in ("done", "void")]
        self.rows.append(("closed", tuple(numbers)))
        return numbers

    def back(self):
        """Takes back what was done last."""
        if not self.past:
            raise NothingLeft("nothing that was done is left")
        (
            self.moment, self.shut, self.standing, self.held, self.struck,
            self.words, self.handed, self.consents, self.done, self.rows,
        ) = self.past.pop()

    def now(self):
        """The moment."""
        return self.moment

    def called(self):
        """The called price."""
        return called_price(self.prints(), self.first)

    def is_open(self):
        """Whether the hall is open."""
        return not self.shut

    def offers(self):
        """The offers that stand, as tuples (number, member, sign, price, left)."""
        return [(number,) + self.standing[number] for number in sorted(self.standing)]

    def bargain(self, number):
        """A tuple (member of the offer, taker, sign, look, shown, seen, card, card, word)."""
        self.check_bargain(number)
        return self.struck[number][:8] + (self.words[number],)

    def quarrel(self, number):
        """The parts in which the cards of a bargain quarrel."""
        self.check_bargain(number)
        card, other = self.struck[number][6:8]
        return quarrel_of(card, other)

    def prints(self):
        """The prints (moment, price, count), as they were put up."""
        return [(moment, price, count) for seller, buyer, price, count, moment in self.done]

    def deals(self):
        """The deals (seller, buyer, price, count, moment), as they were done."""
        return list(self.done)

    def stands_now(self):
        """A tuple (lots, coins) for each member."""
        return stands(self.many, self.done)

    def deliveries(self):
        """The fewest deliveries of what each member sold more than it bought."""
        return fewest_deliveries([-lots for lots, coins in self.stands_now()])

    def book(self):
        """A row for each deed that stands."""
        return list(self.rows)

    def check_open(self):
        """Refuses where the hall is closed."""
        if self.shut:
            raise Closed("the hall is closed")

    def check_member(self, member):
        """Refuses where there is no such member."""
        if not is_whole(member, 0, self.many - 1):
            raise NoMember("the hall has no such member")

    def check_offer(self, member, offer):
        """Refuses an offer that this member cannot take."""
        # Of other kinds of things not all can be looked up.
        if not is_whole(offer, 0, self.held) or offer not in self.standing:
            raise NoOffer("no such offer stands")
        if self.standing[offer][0] == member:
            raise Own("the offer is the member's own")

    def check_bargain(self, bargain):
        """Refuses where there is no such bargain."""
        if not is_whole(bargain, 0, len(self.struck) - 1):
            raise NoBargain("there is no such bargain")

    def check_theirs(self, member, bargain):
        """Refuses a member that is neither of the bargain's two."""
        self.check_member(member)
        self.check_bargain(bargain)
        if member not in self.struck[bargain][:2]:
            raise NotTheirs("the member is neither of the two")

    def check_quarrel(self, bargain):
        """Refuses a bargain that is no quarrel."""
        if self.words[bargain] != "quarrel":
            raise NoQuarrel("the bargain is no quarrel")

    def keep(self):
        """Keeps a copy of all that a deed can change, for what is taken back."""
        consents = {key: self.consents[key] for key in self.consents}
        self.past.append((
            self.moment, self.shut, dict(self.standing), self.held, list(self.struck),
            list(self.words), dict(self.handed), consents, list(self.done), list(self.rows),
        ))

    def offer_of(self, member, palm):
        """The number of the member's offer with this palm that stands, or None."""
        for number, (holder, sign, price, left) in self.standing.items():
            if holder == member and sign[0] == palm:
                return number
        return None

    def lessen(self, offer, count):
        """Takes so many lots off an offer, which goes down without any left."""
        holder, sign, price, left = self.standing[offer]
        if left == count:
            del self.standing[offer]
        else:
            self.standing[offer] = (holder, sign, price, left - count)

    def wait(self, bargain):
        """One card is in."""
        self.words[bargain] = "half"
        return "waits"

    def compare(self, bargain):
        """Both cards are in: a deal where they agree, else a quarrel."""
        if self.quarrel(bargain):
            self.words[bargain] = "quarrel"
            return "quarrel"
        card = self.struck[bargain][6]
        return self.strike(bargain, card[3], card[4])

    def strike(self, bargain, price, count):
        """The bargain is done: a deal, of the bargain's moment, whoever handed in or consented when."""
        card = self.struck[bargain][6]
        seller, buyer = (card[0], card[1]) if card[2] == "sold" else (card[1], card[0])
        self.done.append((seller, buyer, price, count, card[5]))
        self.words[bargain] = "done"
        return "done"

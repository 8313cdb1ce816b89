"""Towns in which much happens: honest parties with wishes, and others who cheat, all by chance."""

import random

from tests.helpers import settings_with
from turnpike.errors import NotNow
from turnpike.money.bounds import wait_bound
from turnpike.money.keys import key_of
from turnpike.money.locks import was_opened
from turnpike.money.steps import next_state
from turnpike.money.tolls import must_come_in
from turnpike.party.member import end_of
from turnpike.town.town import Town

FEE = 20
ROOM = 8
CHEATS = (8, 9)


class Street:
    """A town, the chance that decides its deeds, and what is told of them."""

    def __init__(self, seed, *, honest=2, silence=2, shares=(1500, 1200), quiet=False, watch=None):
        self.chance = random.Random(seed)
        self.silence = silence
        self.honest = list(range(1, honest + 1))
        purses = [(number, shares[0]) for number in self.honest] + [(number, shares[1]) for number in CHEATS]
        self.money = sum([amount for _, amount in purses])
        self.bound = wait_bound(self.money, ROOM, FEE)
        wait = self.bound + silence + 1
        self.settings = settings_with(
            fee=FEE, lead=wait, margin=wait, delay=wait, far=12, least=1, farthest=5 * wait, reveal_lead=wait,
            base=2, per_mille=10, gap=self.chance.choice([0, 3, wait]),
        )
        self.town = Town(purses, [(number, self.settings) for number in self.honest], room=ROOM)
        # Streets differ in how fast blocks come, and in how much the cheats publish and fill.
        self.pace = self.chance.choice([0.02, 0.04, 0.04, 0.1])
        self.greed = self.chance.choice([0.02, 0.05, 0.1, 0.3])
        self.noise = self.chance.choice([0.05, 0.15, 0.4])
        self.untold = {number: 0 for number in self.honest}
        self.watch = watch
        # In a quiet street honest parties pay nothing themselves, so that nobody can take anything from them.
        self.quiet = quiet
        self.channels = 0
        self.next_secret = 1000
        self.cheat_tag = 0
        self.siege_end = 0
        self.cheat_secrets = []
        self.many = {}

    def do(self, deed):
        """Do the deed, and let the one who watches see it; return False if a wish cannot be done."""
        if self.watch is not None:
            self.watch.before(self, deed)
        try:
            told = self.town.do(deed)
        except NotNow:
            return False
        kind = deed[0] if deed[0] != "wish" else "wish " + deed[2][0]
        self.many[kind] = self.many.get(kind, 0) + 1
        if deed[0] == "block":
            for number in self.honest:
                self.untold[number] += 1
            for act, _, _, _, _ in told:
                self.many["done " + act[0]] = self.many.get("done " + act[0], 0) + 1
        if deed[0] == "tell":
            self.untold[deed[1]] = 0
        if self.watch is not None:
            self.watch.after(self, deed, told)
        return True

    @property
    def height(self):
        return self.town.ledger.height_now

    def member(self, number):
        return self.town.parties[number].now

    def new_secret(self):
        self.next_secret += 1
        return self.next_secret

    def block(self):
        """Make a block, and before it tell all who have not been told for long."""
        for number in self.honest:
            if self.untold[number] >= self.silence or self.chance.random() < 0.3:
                self.do(("tell", number))
        if self.height < self.siege_end:
            self.fill_block()
        self.do(("block",))

    def advance(self):
        """Let one thing happen by chance."""
        dice = self.chance.random()
        if dice < self.pace:
            self.block()
        elif dice < self.pace + 0.02:
            self.do(("tell", self.chance.choice(self.honest)))
        elif dice < self.pace + 0.025:
            self.do(("stop", self.chance.choice(self.honest)))
        elif dice < 0.45:
            self.pass_letter()
        elif dice < 0.75:
            self.wish_something(self.chance.choice(self.honest))
        elif dice < 0.95:
            self.cheat_says()
        else:
            self.cheat_offers()

    def pass_letter(self):
        many = len(self.town)
        if many == 0:
            return
        # Most letters arrive soon, and in order.
        place = self.chance.choice([0, 0, 0, self.chance.randrange(many), many - 1])
        kind = self.chance.choice(["deliver"] * 7 + ["lose", "copy"])
        if many > 12:
            kind = self.chance.choice(["deliver", "lose"])
        self.do((kind, place))

    # What honest parties wish.

    def wish_something(self, number):
        chance = self.chance
        ends = self.member(number).ends
        if len(ends) < chance.choice([1, 2, 2, 3]):
            self.wish_open(number)
            return
        end = chance.choice(ends)
        channel = end.opening[0]
        kind = chance.choice(
            ["pay"] * 4 + ["give"] * 6 + ["transfer"] * 2 + ["invoice"] * 2 + ["refuse", "splice", "splice", "finish"]
            + ["leave", "open"],
        )
        if self.quiet and kind in ("pay", "transfer"):
            kind = "give"
        if kind == "open" and chance.random() < 0.2:
            self.wish_open(number)
        elif kind == "pay":
            self.wish_pay(number, channel)
        elif kind == "give":
            self.wish_give(number, end)
        elif kind == "transfer":
            self.do(("wish", number, ("transfer", channel, chance.randint(1, 40))))
        elif kind == "invoice":
            self.do(("wish", number, ("invoice", self.new_secret(), chance.choice([0, 10, 25]))))
        elif kind == "refuse":
            self.do(("wish", number, ("refuse", channel, chance.randrange(3))))
        elif kind == "splice":
            self.wish_splice(number, end)
        elif kind == "finish" and chance.random() < 0.1:
            self.do(("wish", number, ("finish", channel)))
        elif kind == "leave" and chance.random() < 0.15:
            self.do(("wish", number, ("leave", channel)))

    def wish_open(self, number):
        chance = self.chance
        other = chance.choice([each for each in [*self.honest, *CHEATS] if each != number])
        self.channels += 1
        pair = chance.choice([(number, other), (other, number)])
        amounts = (chance.choice([0, 100, 250]), chance.choice([0, 100, 250]))
        delay = self.settings.delay + chance.choice([0, 3])
        opening = (self.channels, *pair, *amounts, delay, self.height + chance.randint(1, 12))
        self.do(("wish", number, ("open", opening)))
        if other in self.honest:
            self.do(("wish", other, ("open", opening)))
        else:
            self.cheat_offers_act(other, ("open", opening), pair)
            self.say(other, number, ("opening", opening))

    def some_key(self, number):
        """Return the key for a payment: of an invoice of another honest party, or of a secret of the cheats."""
        invoices = [
            secret for other in self.honest if other != number for secret, _ in self.member(other).invoices
        ]
        if invoices and self.chance.random() < 0.6:
            return key_of(self.chance.choice(invoices))
        return key_of(self.cheat_secret())

    def cheat_secret(self):
        if len(self.cheat_secrets) < 3 or self.chance.random() < 0.3:
            self.cheat_secrets.append(self.new_secret())
        return self.chance.choice(self.cheat_secrets[-6:])

    def wish_pay(self, number, channel):
        deadline = self.height + self.chance.randint(self.settings.lead // 2, self.settings.farthest)
        amount = self.chance.randint(5, 60)
        self.do(("wish", number, ("pay", channel, self.some_key(number), amount, deadline)))

    def wish_give(self, number, end):
        others = [each for each in self.member(number).ends if each.opening[0] != end.opening[0]]
        if not others:
            return
        other = self.chance.choice(others)
        for place, lock in enumerate(end.last[4]):
            amount = lock[1]
            while amount > 1 and must_come_in(self.settings.toll, amount) > lock[1]:
                amount -= 1
            deadline = lock[2] - self.settings.gap - self.chance.choice([0, 0, 1, 5])
            wish = ("give", end.opening[0], place, other.opening[0], amount, deadline)
            if self.do(("wish", number, wish)):
                return

    def wish_splice(self, number, end):
        chance = self.chance
        amounts = [chance.choice([0, 0, 30, 60]) for _ in range(4)]
        since = max(0, end.last[1] - chance.randint(0, 2))
        splice = (end.opening[0], end.footing.taken, since, self.height + chance.randint(0, 12), *amounts)
        self.do(("wish", number, ("splice", splice)))
        other = end.peer()
        if other in self.honest:
            self.do(("wish", other, ("splice", splice)))
        else:
            self.say(other, number, ("splice", splice))
            if chance.random() < 0.5:
                self.cheat_offers_act(other, ("splice", splice), end.opening[1:3])

    # What the cheats do.

    def say(self, sender, receiver, word):
        if receiver in self.honest:
            self.do(("say", sender, receiver, word))

    def known_secrets(self):
        """Return the secrets that the cheats know: their own ones, and those that were said or shown."""
        said = [
            move[2] for _, _, word in self.town if word[0] == "step" for move in word[3] if move[0] == "paid"
        ]
        return self.cheat_secrets + said + self.town.shown

    def cheat_says(self):
        chance = self.chance
        pairs = [
            (number, end) for number in self.honest for end in self.member(number).ends if end.peer() in CHEATS
        ]
        if not pairs:
            return
        number, end = chance.choice(pairs)
        channel = end.opening[0]
        if end.next is not None and chance.random() < 0.7:
            self.say(end.peer(), number, ("answer", channel, end.next[1]))
        elif end.is_turn():
            word = chance.choice([("turn", channel), ("turn", channel), ("opening", end.opening)])
            self.say(end.peer(), number, word)
        else:
            step = self.cheat_step(end)
            if next_state(end.last, step, cover=end.footing.cover()) is not None:
                self.say(end.peer(), number, ("step", channel, end.last[1] + 1, step))
                if step and step[-1][0] == "paid" and chance.random() < 0.3:
                    # What was paid late is of use to the cheats only if the party cannot show the secret in time.
                    self.siege_end = self.height + chance.randint(5, 40)
        if end.footing.splices and chance.random() < 0.2:
            splice = chance.choice(end.footing.splices)
            self.say(end.peer(), number, ("splice", splice))
            if chance.random() < 0.5:
                self.cheat_offers_act(end.peer(), ("splice", splice), end.opening[1:3])

    def cheat_step(self, end):
        moves = []
        for _ in range(self.chance.choice([0, 1, 1, 1, 2, 3])):
            move = self.cheat_move(end)
            if move is not None:
                moves.append(move)
        return tuple(moves)

    def cheat_move(self, end):
        chance = self.chance
        locks = list(enumerate(end.last[4]))
        kind = chance.choice(["lock"] * 5 + ["paid"] * 3 + ["dropped", "back", "transfer", "transfer", "finish"])
        if kind == "lock":
            key = chance.choice([self.some_key(0), key_of(self.cheat_secret())])
            deadline = self.height + chance.randint(self.settings.lead // 2, self.settings.farthest)
            return ("lock", key, chance.randint(1, 80), deadline)
        if kind == "paid":
            secrets = {key_of(secret): secret for secret in self.known_secrets()}
            fit = [(place, secrets[lock[0]]) for place, lock in locks
                   if lock[3] == end.as_first and lock[0] in secrets
                   and (lock[2] < self.height + self.settings.lead or chance.random() < 0.3)]
            return ("paid", *chance.choice(fit)) if fit else None
        if kind == "dropped":
            own = [place for place, lock in locks if lock[3] == end.as_first]
            return ("dropped", chance.choice(own)) if own else None
        if kind == "back":
            gone = [place for place, lock in locks if lock[3] != end.as_first and lock[2] < self.height
                    and not was_opened(lock, self.town.ledger.book.receipts)]
            return ("back", chance.choice(gone)) if gone else None
        if kind == "transfer":
            return ("transfer", chance.randint(1, 60))
        return ("finish",) if chance.random() < 0.1 else None

    def cheat_offers_act(self, payer, act, hands):
        self.cheat_tag += 1
        fee = self.chance.choice([1, FEE, FEE + 1, FEE + 1])
        thing = (act, tuple(hands), payer, fee, self.cheat_tag)
        if self.town.can_offer(thing):
            self.do(("offer", thing))

    def cheat_offers(self):
        chance = self.chance
        payer = chance.choice(CHEATS)
        kind = chance.choice(["publish"] * 4 + ["settle", "reveal", "reveal", "same", "pay", "fill"])
        if kind == "publish" and chance.random() < self.greed:
            self.cheat_publishes(payer)
        elif kind == "settle" and self.town.ledger.book.vaults:
            self.cheat_offers_act(payer, ("settle", chance.choice(list(self.town.ledger.book.vaults))), ())
        elif kind == "reveal" and chance.random() < 0.2:
            self.cheat_offers_act(payer, ("reveal", chance.choice(self.known_secrets() or [0])), ())
        elif kind == "same" and self.town.things:
            self.do(("offer", chance.choice(self.town.things[-5:])))
        elif kind == "pay":
            self.cheat_offers_act(payer, ("pay", chance.choice(self.honest), chance.randint(0, 3)), ())
        elif kind == "fill" and chance.random() < self.noise:
            for _ in range(chance.randint(1, 3)):
                self.fill_block()

    def fill_block(self):
        """Let the cheats fill a block, as long as they have money."""
        for place in range(ROOM):
            payer = CHEATS[place % 2]
            # A thing with a fee that is greater by one comes before all things of honest parties.
            if self.town.ledger.purse(payer) > FEE * ROOM:
                self.cheat_tag += 1
                self.do(("offer", (("pay", payer, 0), (), payer, FEE + 1, self.cheat_tag)))

    def cheat_publishes(self, payer):
        """Publish any state on which an honest party has given its hand, perhaps before many full blocks."""
        states = [
            (number, act) for number, act in self.town.hands
            if act[0] == "publish" and act[1][0] in self.town.ledger.book.vaults
        ]
        if states:
            number, act = self.chance.choice(states)
            opening = self.town.ledger.channel(act[1][0]).opening
            self.cheat_offers_act(payer, act, opening[1:3])
            if self.chance.random() < 0.5:
                self.siege_end = self.height + self.chance.randint(5, 40)

    def leave_all(self):
        """Let all honest parties leave all their channels."""
        for number in self.honest:
            if not self.town.parties[number].awake:
                self.do(("tell", number))
            for end in list(self.member(number).ends):
                self.do(("wish", number, ("leave", end.opening[0])))

    def find_end(self, number, channel):
        return end_of(self.member(number), channel)

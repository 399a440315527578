"""An acquirer: its purchases, its files, and the accounts of its merchants."""

from acquit.errors import BadStage
from acquit.house import House, to_switch


class Purchase:
    """A purchase as its acquirer sees it."""

    def __init__(self, merchant, card, amount):
        self.merchant = merchant
        self.card = card
        self.amount = amount
        self.stage = "asked"
        self.confirmed = False


class File:
    """The numbers of the purchases that were filed together."""

    def __init__(self, numbers):
        self.numbers = numbers
        self.confirmed = False


class Acquirer(House):
    """The state of an acquirer, what it does of itself, and what it does when it hears of something."""

    def __init__(self, entries, index, many, share, fee):
        House.__init__(self, entries, share, fee)
        self.index = index
        self.merchants = [0] * many
        self.purchases = []
        self.files = []

    def ask(self, merchant, card, amount):
        """Begin a purchase and return its name."""
        self.write(("asked", merchant, card, amount))
        return self._name(len(self.purchases) - 1)

    def take_back(self, number):
        """Begin to undo a purchase."""
        if self.purchases[number].stage not in ("asked", "granted"):
            raise BadStage()
        self.write(("undoing", number))

    def file_granted(self):
        """File what is granted and return the number of the file, or None."""
        numbers = tuple(self._numbers("granted"))
        if not numbers:
            return None
        self.write(("filed", numbers))
        return len(self.files) - 1

    def fight_back(self, number):
        """Fight a claim."""
        if self.purchases[number].stage != "claimed":
            raise BadStage()
        self.write(("fought", number))

    def due(self):
        """Return pairs (receiver, body) of what is sent at a tick."""
        asks = [("ask", *row) for row in self._rows(self._numbers("asked"))]
        undos = [("undo", self._name(n), self.purchases[n].card) for n in self._numbers("undoing")]
        waiting = [b for b, file in enumerate(self.files) if not file.confirmed]
        files = [("file", self.index, b, self._rows(self.files[b].numbers)) for b in waiting]
        fought = [n for n in self._numbers("fought") if not self.purchases[n].confirmed]
        fights = [("fight", self._name(n), self.purchases[n].card[0]) for n in fought]
        return to_switch([*asks, *undos, *files, *fights])

    def hear(self, sender, body):
        """Do what a message from the sender asks for; return pairs (receiver, body) of what is sent."""
        match body:
            case ("answer", (_, n), good):
                self._move("asked", "granted" if good else "refused", n)
            case ("undone", (_, n)):
                self._move("undoing", "undone", n)
            case ("filed", _, b):
                if not self.files[b].confirmed:
                    self.write(("paid", b))
            case ("claim", (_, n)):
                return self._hear_claim(n)
            case ("fought", (_, n)):
                if not self.purchases[n].confirmed:
                    self.write(("confirmed", n))
            case ("settle", cycle, net):
                return self.hear_settle(cycle, net)
        return []

    def apply(self, entry):
        """Change the state as an entry of the journal says."""
        match entry:
            case ("asked", merchant, card, amount):
                self.purchases.append(Purchase(merchant, card, amount))
            case ("filed", numbers):
                self.files.append(File(numbers))
                self._set_stages(numbers, "filed")
            case ("paid", b):
                self._pay_file(self.files[b])
            case ("claimed", n):
                self._pay(self.purchases[n], -1)
                self._set_stages((n,), "claimed")
            case ("fought", n):
                self._pay(self.purchases[n], 1)
                self._set_stages((n,), "fought")
            case ("confirmed", n):
                self.purchases[n].confirmed = True
            case ("settled", cycle, net):
                self.add_cycle(cycle, net)
            case (stage, n):
                self._set_stages((n,), stage)

    def told(self):
        """Return the state as show of the network tells it."""
        purchases = [(p.merchant, p.card, p.amount, p.stage, p.confirmed) for p in self.purchases]
        files = [(file.numbers, file.confirmed) for file in self.files]
        accounts = (tuple(self.merchants), self.income, self.clearing)
        return (accounts, tuple(purchases), tuple(files), tuple(sorted(self.cycles)))

    def worth(self):
        """Return the sum of all accounts."""
        return sum(self.merchants) + self.income + self.clearing

    def _name(self, number):
        return (self.index, number)

    def _numbers(self, stage):
        return [n for n, purchase in enumerate(self.purchases) if purchase.stage == stage]

    def _rows(self, numbers):
        return tuple([(self._name(n), self.purchases[n].card, self.purchases[n].amount) for n in numbers])

    def _move(self, before, behind, number):
        if self.purchases[number].stage == before:
            self.write((behind, number))

    def _hear_claim(self, number):
        self._move("paid", "claimed", number)
        purchase = self.purchases[number]
        # A purchase that is not paid yet has nothing to give back; the claim will come again.
        if purchase.stage not in ("claimed", "fought"):
            return []
        return to_switch([("claimed", self._name(number), purchase.card[0])])

    def _set_stages(self, numbers, stage):
        for number in numbers:
            self.purchases[number].stage = stage

    def _pay_file(self, file):
        file.confirmed = True
        for number in file.numbers:
            self._pay(self.purchases[number], 1)
        self._set_stages(file.numbers, "paid")

    def _pay(self, purchase, sign):
        part, fee = self.parts_of(purchase.amount)
        self.merchants[purchase.merchant] += sign * (purchase.amount - fee)
        self.income += sign * (fee - part)
        self.clearing -= sign * (purchase.amount - part)

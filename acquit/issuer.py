"""An issuer: what it has heard of purchases, and the balances of its holders."""

from acquit.errors import BadStage
from acquit.house import House, to_switch


class Charge:
    """A purchase as its issuer sees it."""

    def __init__(self, holder, amount, stage):
        self.holder = holder
        self.amount = amount
        self.stage = stage
        self.confirmed = False


class Issuer(House):
    """The state of an issuer, what it does of itself, and what it does when it hears of something."""

    def __init__(self, entries, balances, share, fee):
        House.__init__(self, entries, share, fee)
        self.balances = list(balances)
        self.held = [0] * len(balances)
        self.charges = {}

    def claim_back(self, name):
        """Claim a purchase, if it is posted here."""
        if name not in self.charges or self.charges[name].stage != "posted":
            raise BadStage()
        self.write(("claimed", name))

    def free(self, holder):
        """Return what a holder can spend."""
        return self.balances[holder] - self.held[holder]

    def due(self):
        """Return pairs (receiver, body) of what is sent at a tick."""
        claimed = [name for name, charge in self.charges.items() if charge.stage == "claimed" and not charge.confirmed]
        return to_switch([("claim", name) for name in sorted(claimed)])

    def hear(self, sender, body):
        """Do what a message from the sender asks for; return pairs (receiver, body) of what is sent."""
        match body:
            case ("ask", name, (_, holder), amount):
                return self._hear_ask(name, holder, amount)
            case ("undo", name, _):
                return self._hear_undo(name)
            case ("post", i, b, j, rows):
                self._hear_rows(rows)
                return to_switch([("posted", i, b, j)])
            case ("claimed", name, _):
                if not self.charges[name].confirmed:
                    self.write(("confirmed", name))
            case ("fight", name, _):
                return self._hear_fight(name)
            case ("settle", cycle, net):
                return self.hear_settle(cycle, net)
        return []

    def apply(self, entry):
        """Change the state as an entry of the journal says."""
        match entry:
            case ("held", name, holder, amount):
                self.charges[name] = Charge(holder, amount, "held")
                self.held[holder] += amount
            case ("refused", name, holder, amount):
                self.charges[name] = Charge(holder, amount, "refused")
            case ("undone", name):
                self._undo(name)
            case ("posted", names):
                self._post(names)
            case ("claimed", name):
                self._claim(self.charges[name])
            case ("confirmed", name):
                self.charges[name].confirmed = True
            case ("fought", name):
                self._fight(self.charges[name])
            case ("settled", cycle, net):
                self.add_cycle(cycle, net)

    def told(self):
        """Return the state as show of the network tells it."""
        charges = [(name, c.holder, c.amount, c.stage, c.confirmed) for name, c in self.charges.items()]
        accounts = (tuple(self.balances), self.income, self.clearing)
        return (accounts, tuple(sorted(charges, key=lambda row: row[0])), tuple(sorted(self.cycles)))

    def worth(self):
        """Return the sum of all accounts."""
        return sum(self.balances) + self.income + self.clearing

    def _hear_ask(self, name, holder, amount):
        if name not in self.charges:
            stage = "held" if self.free(holder) >= amount else "refused"
            self.write((stage, name, holder, amount))
        good = self.charges[name].stage not in ("refused", "undone")
        return to_switch([("answer", name, good)])

    def _hear_undo(self, name):
        if name not in self.charges or self.charges[name].stage == "held":
            self.write(("undone", name))
        return to_switch([("undone", name)])

    def _hear_rows(self, rows):
        names = tuple([name for name, _, _ in rows if self.charges[name].stage == "held"])
        if names:
            self.write(("posted", names))

    def _hear_fight(self, name):
        if self.charges[name].stage == "claimed":
            self.write(("fought", name))
        if self.charges[name].stage != "fought":
            return []
        return to_switch([("fought", name)])

    def _undo(self, name):
        # An undo that overtakes its ask knows neither holder nor amount, and bars the ask behind it.
        if name not in self.charges:
            self.charges[name] = Charge(None, None, "undone")
            return
        charge = self.charges[name]
        charge.stage = "undone"
        self.held[charge.holder] -= charge.amount

    def _post(self, names):
        for name in names:
            charge = self.charges[name]
            charge.stage = "posted"
            self.held[charge.holder] -= charge.amount
            self.balances[charge.holder] -= charge.amount
            self._earn(charge, 1)

    def _claim(self, charge):
        charge.stage = "claimed"
        self.balances[charge.holder] += charge.amount
        self._earn(charge, -1)

    def _fight(self, charge):
        charge.stage = "fought"
        charge.confirmed = True
        # The holder may have spent what came back with the claim; then the issuer bears the loss.
        if self.free(charge.holder) >= charge.amount:
            self.balances[charge.holder] -= charge.amount
        else:
            self.income -= charge.amount
        self._earn(charge, 1)

    def _earn(self, charge, sign):
        part, _ = self.parts_of(charge.amount)
        self.income += sign * part
        self.clearing += sign * (charge.amount - part)

"""What nodes have in common: journals, and the accounts that cycles settle."""

from acquit.money import parts
from acquit.names import SWITCH


class Keeper:
    """A node that changes by the entries of its journal alone."""

    def __init__(self, entries):
        self.entries = entries

    def write(self, entry):
        """Do what the entry says, and keep it."""
        # Replaying a journal runs the same apply, so nothing may be changed anywhere else.
        self.entries.append(entry)
        self.apply(entry)


class House(Keeper):
    """An acquirer or an issuer."""

    def __init__(self, entries, share, fee):
        Keeper.__init__(self, entries)
        self.share = share
        self.fee = fee
        self.income = 0
        self.clearing = 0
        self.cycles = {}

    def parts_of(self, amount):
        """Return the issuer's part and the merchant's fee of an amount."""
        return parts(amount, self.share, self.fee)

    def hear_settle(self, cycle, net):
        """Settle a cycle once, but confirm it each time, since a confirmation may be lost."""
        if cycle not in self.cycles:
            self.write(("settled", cycle, net))
        return to_switch([("settled", cycle)])

    def add_cycle(self, cycle, net):
        """Add the sum of a cycle to the clearing account."""
        self.cycles[cycle] = True
        self.clearing += net


def to_switch(bodies):
    """Return pairs (receiver, body) that take these to the switch, as all that a house sends."""
    return [(SWITCH, body) for body in bodies]

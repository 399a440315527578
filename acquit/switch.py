"""The switch: it sends on what houses say to each other, keeps files and makes cycles."""

from acquit.house import Keeper
from acquit.money import parts
from acquit.names import SWITCH, acquirer_node, issuer_node, nodes_of


class KeptFile:
    """The rows of a file, and of each issuer in it whether it has confirmed them."""

    def __init__(self, rows):
        self.rows = rows
        self.confirmed = {j: False for j in sorted({card[0] for _, card, _ in rows})}

    def is_done(self):
        """Tell whether all issuers have confirmed their rows."""
        return all(list(self.confirmed.values()))

    def rows_of(self, j):
        """Return the rows of an issuer."""
        return tuple([row for row in self.rows if row[1][0] == j])


class Cycle:
    """The sums of the nodes in a cycle, and of each of them whether it has confirmed it."""

    def __init__(self, sums):
        self.sums = sums
        self.confirmed = {node: False for node, _ in sums}


class Switch(Keeper):
    """The state of the switch, what it does of itself, and what it does when it hears of something."""

    def __init__(self, entries, setup):
        Keeper.__init__(self, entries)
        self.share = setup[2]
        self.fee = setup[3]
        self.files = {}
        self.rows = {}
        self.claims = {}
        self.fights = {}
        self.cycles = []
        # What was noted is kept as its sums alone: sums that are all 0 are then the same as nothing noted.
        self.owed = {house: 0 for house in nodes_of(setup) if house != SWITCH}

    def make_cycle(self):
        """Make a cycle and return its number, or None."""
        sums = tuple([(node, net) for node, net in self.owed.items() if net != 0])
        if not sums:
            return None
        self.write(("cycle", sums))
        return len(self.cycles) - 1

    def due(self):
        """Return pairs (receiver, body) of what is sent at a tick."""
        posts = [self.posts(i, b) for i, b in sorted(self.files)]
        settles = [self.settles(c) for c in range(len(self.cycles))]
        return [message for messages in [*posts, *settles] for message in messages]

    def posts(self, i, b):
        """Return pairs (receiver, body) for the issuers that have not confirmed a file."""
        file = self.files[(i, b)]
        missing = [j for j, confirmed in file.confirmed.items() if not confirmed]
        return [(issuer_node(j), ("post", i, b, j, file.rows_of(j))) for j in missing]

    def settles(self, c):
        """Return pairs (receiver, body) for the nodes that have not confirmed a cycle."""
        cycle = self.cycles[c]
        return [(node, ("settle", c, net)) for node, net in cycle.sums if not cycle.confirmed[node]]

    def hear(self, sender, body):
        """Do what a message from the sender asks for; return pairs (receiver, body) of what is sent."""
        match body:
            case ("file", i, b, rows):
                return self._hear_file(i, b, rows)
            case ("posted", i, b, j):
                if not self.files[(i, b)].confirmed[j]:
                    self.write(("posted", i, b, j))
                return []
            case ("settled", c):
                if not self.cycles[c].confirmed[sender]:
                    self.write(("settled", c, sender))
                return []
            case ("claimed", name, _):
                if name not in self.claims:
                    self.write(("claimed", name))
            case ("fought", name):
                if name not in self.fights:
                    self.write(("fought", name))
        return [(_way(body), body)]

    def apply(self, entry):
        """Change the state as an entry of the journal says."""
        match entry:
            case ("file", i, b, rows):
                self.files[(i, b)] = KeptFile(rows)
                self._know(rows)
            case ("posted", i, b, j):
                self._confirm_file(self.files[(i, b)], j)
            case ("claimed", name):
                self._note_claim(name)
            case ("fought", name):
                self._note_fight(name)
            case ("cycle", sums):
                self.cycles.append(Cycle(sums))
                self._clear()
            case ("settled", c, node):
                self.cycles[c].confirmed[node] = True

    def told(self):
        """Return the state as show of the network tells it."""
        files = [(at, self.files[at].rows, _those(self.files[at].confirmed)) for at in sorted(self.files)]
        cycles = [(cycle.sums, _those(cycle.confirmed)) for cycle in self.cycles]
        return (tuple(files), tuple(sorted(self.claims)), tuple(sorted(self.fights)), tuple(cycles))

    def worth(self):
        """Return the sum of all accounts: the switch has none."""
        return 0

    def _hear_file(self, i, b, rows):
        if (i, b) not in self.files:
            self.write(("file", i, b, rows))
            return self.posts(i, b)
        if self.files[(i, b)].is_done():
            return [(acquirer_node(i), ("filed", i, b))]
        return []

    def _know(self, rows):
        for name, card, amount in rows:
            part, _ = parts(amount, self.share, self.fee)
            self.rows[name] = (card[0], amount - part)

    def _confirm_file(self, file, j):
        file.confirmed[j] = True
        if file.is_done():
            for name, _, _ in file.rows:
                self._note(name, 1)

    def _clear(self):
        self.owed = {house: 0 for house in self.owed}

    def _note_claim(self, name):
        self.claims[name] = True
        self._note(name, -1)

    def _note_fight(self, name):
        # The word of the claim may have been lost on its way here, and the issuer will not repeat it.
        if name not in self.claims:
            self._note_claim(name)
        self.fights[name] = True
        self._note(name, 1)

    def _note(self, name, sign):
        j, net = self.rows[name]
        self.owed[acquirer_node(name[0])] += sign * net
        self.owed[issuer_node(j)] -= sign * net


def _way(body):
    """Return the node to which the switch sends this on."""
    if body[0] in ("ask", "undo"):
        return issuer_node(body[2][0])
    if body[0] in ("claimed", "fight"):
        return issuer_node(body[2])
    return acquirer_node(body[1][0])


def _those(confirmed):
    return tuple([who for who, has in confirmed.items() if has])

"""A bobbin: its lay, the wire that is left on it, and the joints in that wire."""

# A lay is told in thousandths of a metre of wire for one metre of strand.
METRE = 1000


class Bobbin:
    def __init__(self, lay, left):
        self.lay = lay
        self.left = left
        self.joints = []

    def place(self, laid, at):
        """Where in the strand a joint comes to lie that is at metres from the end that runs out first."""
        return laid + at * METRE // self.lay

    def places_behind(self, laid, metres):
        """Where the joints come to lie that remain once so many metres are cut off."""
        return [self.place(laid, at - metres) for at in self.joints if at >= metres]

    def places_within(self, laid, metres):
        """Where the joints come to lie that are in the first so many metres, as they lie."""
        return [self.place(laid, at) for at in self.joints if at < metres]

    def wire_for(self, metres):
        """How much wire so many metres of strand take, rounded up."""
        return (metres * self.lay + METRE - 1) // METRE

    def lasts_for(self):
        """The most strand for which what is left is enough."""
        # Rounded up it takes no more than what is left just where it takes no more unrounded.
        return self.left * METRE // self.lay

    def add_joint(self, at):
        self.joints = sorted(self.joints + [at])

    def lengthen(self, metres):
        # What was empty has no end to which the new wire could be joined.
        if self.left > 0:
            self.add_joint(self.left)
        self.left += metres

    def shorten(self, metres):
        """So many metres go from the end that runs out first, with the joints in them."""
        self.joints = [at - metres for at in self.joints if at >= metres]
        self.left -= metres

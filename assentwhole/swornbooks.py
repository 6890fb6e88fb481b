"""What sworn runs keep besides: laid bases, echoes, votes, and what is locked by them."""

from assentwhole.crowdjoins import joined_houses
from assentwhole.deeds import charter_told
from assentwhole.runbooks import RunBook


class SwornBook(RunBook):
    """The state of a sworn run; a desk is (promise, reign, roll, echo reign, echo base, echo roll).

    A line is (reign, base, roll), where base begins roll.
    """

    def __init__(self, pact, liars):
        super().__init__(pact, liars, (0, 0, (), 0, (), ()))
        self.laid_bases = {}
        # For each line the houses that ever echoed, or voted, a roll that its roll begins.
        self.echoed = {}
        self.voted = {}
        self.locked_lines = {}
        self.settled_lines = {}
        # The pairs (reign, roll) of locked lines.
        self.locks = {}

    def used(self):
        """The reigns for which a base is laid."""
        return [reign for reign, base in self.laid_bases]

    def is_lock(self, reign, roll):
        """Whether (reign, roll) is (0, ()) or a lock of reign."""
        return (reign, roll) == (0, ()) or (reign, roll) in self.locks

    def has_echoed(self, line, crowd):
        """The houses of crowd have echoed a roll that the line's roll begins."""
        self.echoed[line] = joined_houses(self.echoed.get(line, self.nobody), crowd)
        reign, base, roll = line
        if line in self.locked_lines:
            return
        if self.takes("echo", charter_told(base), self.kind(reign), self.echoed[line]):
            self.locked_lines[line] = True
            self.locks[(reign, roll)] = True
            self.try_to_settle(line)

    def has_voted(self, line, crowd):
        """The houses of crowd have voted a roll that the line's roll begins."""
        self.voted[line] = joined_houses(self.voted.get(line, self.nobody), crowd)
        self.try_to_settle(line)

    def try_to_settle(self, line):
        """Settle a line if it is locked and enough houses ever voted it."""
        if line in self.settled_lines or line not in self.locked_lines or line not in self.voted:
            return
        reign, _, roll = line
        if self.takes("vote", charter_told(roll), self.kind(reign), self.voted[line]):
            self.settled_lines[line] = True
            self.sealed[(reign, roll)] = True


def lines_of(reign, base, roll):
    """The lines of reign and base whose rolls begin roll, the shortest first."""
    return [(reign, base, roll[:length]) for length in range(len(base), len(roll) + 1)]


def longest_lines(lines):
    """The ascending lines without those whose roll begins a longer one of the same reign and base."""
    begun = {(reign, base, roll[:-1]): True for reign, base, roll in lines if len(roll) > len(base)}
    return tuple(sorted(line for line in lines if line not in begun))

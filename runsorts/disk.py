"""A disk of blocks: what is written stays for certain only once it is settled, and it may stop at any deed."""

from runsorts.errors import BadBlock, Stopped
from runsorts.orders import is_number

MANY_BLOCKS = 600
MOST_WEIGHT = 40


def check_block(block):
    """Refuse a block that there isn't."""
    if not is_number(block) or not 0 <= block < MANY_BLOCKS:
        raise BadBlock("the blocks are numbered from 0 to 599")


def check_weight(what):
    """Refuse what a block can't take, or what weighs more than it may."""
    # Tuples within one another are gone through without a call for each, as they may lie deep.
    left, weight = [what], 0
    while left:
        part = left.pop()
        if isinstance(part, tuple):
            left.extend(part)
        elif part is None or isinstance(part, (int, str)):
            weight += 1
        else:
            raise BadBlock("a block takes numbers, texts, truths, None, and tuples of such")
    if weight > MOST_WEIGHT:
        raise BadBlock("what is put into a block weighs at most 40")


class Disk:
    """Blocks that are written and settled, until the disk stops."""

    def __init__(self):
        self.certain = [None] * MANY_BLOCKS
        self.newest = [None] * MANY_BLOCKS
        self.unsettled = []
        self.has_stopped = False
        self.deeds_left = None
        self.picks = []

    def write(self, block, what):
        """Put something into a block."""
        check_block(block)
        check_weight(what)
        self.do_deed()
        self.newest[block] = what
        self.unsettled.append((block, what))

    def settle(self):
        """Make certain what was written."""
        self.do_deed()
        self.certain = list(self.newest)
        self.unsettled = []

    def read(self, block):
        """Tell what was written last into a block."""
        check_block(block)
        self.check_runs()
        return self.newest[block]

    def arm(self, deeds, picks):
        """Let so many more deeds be done, and stop at the next one by the picks."""
        if not self.has_stopped:
            self.deeds_left = deeds
            self.picks = list(picks)

    def stop(self, picks):
        """Stop at once: of the writes that aren't settled those stay that are picked."""
        if self.has_stopped:
            return
        for (block, what), pick in zip(self.unsettled, picks):
            if pick:
                self.certain[block] = what
        self.has_stopped = True
        self.let_go()

    def again(self):
        """Run on, or anew, with what is settled, and with nothing armed."""
        self.has_stopped = False
        self.let_go()

    def blocks(self):
        """Tell all blocks as they are settled."""
        return list(self.certain)

    def let_go(self):
        """Go back to what is settled, with nothing armed."""
        self.newest = list(self.certain)
        self.unsettled = []
        self.deeds_left = None

    def do_deed(self):
        """Count a write or settle that is to be done, or refuse it."""
        if self.deeds_left == 0:
            self.stop(self.picks)
        self.check_runs()
        if self.deeds_left is not None:
            self.deeds_left -= 1

    def check_runs(self):
        """Refuse what a disk that has stopped doesn't do."""
        if self.has_stopped:
            raise Stopped("the disk has stopped")

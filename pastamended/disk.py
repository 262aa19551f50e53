"""A disk of blocks that hold texts, and whose power may be lost."""

from pastamended.errors import BadBlock, PowerLost

LONGEST = 64
PERCENT_SIGN = 37


class Disk:
    """Blocks whose writes wait for the next sync."""

    def __init__(self, size):
        self.size = size
        self.lasting = [""] * size
        self.now = [""] * size
        self.queue = []
        self.steps_left = None
        self.lost = False

    def block(self, index):
        """The text of a block, also if its write still waits."""
        self._check_power()
        self._check_index(index)
        return self.now[index]

    def write(self, index, text):
        """Gives a block a text, which lasts from the next sync on."""
        self._check_power()
        self._check_index(index)
        if len(text) > LONGEST or not all([_may_stand(character) for character in text]):
            raise BadBlock(index)
        self._step()
        self.queue.append((index, text))
        self.now[index] = text

    def sync(self):
        """Makes all waiting writes last."""
        self._check_power()
        self._step()
        self.lasting = list(self.now)
        self.queue = []

    def waiting(self):
        """The number of waiting writes."""
        return len(self.queue)

    def fall_after(self, n):
        """The power will be lost after n more writes and syncs; None: it will not."""
        self.steps_left = n

    def restart(self, choice):
        """The power comes back; the binary digits of the choice say which of the waiting writes last."""
        for at, (index, text) in enumerate(self.queue):
            if (choice >> at) & 1:
                self.lasting[index] = text
        self.now = list(self.lasting)
        self.queue = []
        self.steps_left = None
        self.lost = False

    def _check_power(self):
        if self.lost:
            raise PowerLost()

    def _check_index(self, index):
        if not 0 <= index < self.size:
            raise BadBlock(index)

    def _step(self):
        """Counts a write or sync; loses the power if it is one too many."""
        if self.steps_left == 0:
            self.lost = True
            raise PowerLost()
        if self.steps_left is not None:
            self.steps_left -= 1


def _may_stand(character):
    """Whether a block may have this character."""
    return character == "\n" or (" " <= character <= "~" and ord(character) != PERCENT_SIGN)

"""One device: what it remembers, and how it reads, writes and flushes."""

from mirrorpool.blocks import BLOCK_BYTES, told_bytes, whole_block


# A block that is kept is never changed in place, only replaced by another:
# one list may be on its way to several devices at once.
class Device:
    def __init__(self, size):
        self.size = size
        self.sure = {}
        self.coming = []
        self.sick = {}
        self.gone = False

    def has_block(self, k):
        return k < self.size

    def sure_block(self, k):
        if k in self.sure:
            return self.sure[k]
        return whole_block([])

    def block_now(self, k):
        for sent in reversed(self.coming):
            if sent[0] == k:
                return sent[1]
        return self.sure_block(k)

    def read(self, k):
        if not self.has_block(k) or k in self.sick:
            return None
        return self.block_now(k)

    # This alone is what a failed write does that is taken all the same:
    # a sick block stays sick.
    def take(self, k, block):
        if self.has_block(k):
            self.coming.append((k, block))

    def write(self, k, block):
        if not self.has_block(k):
            return False
        self.take(k, block)
        self.sick.pop(k, None)
        return True

    def flush(self):
        for sent in self.coming:
            self.sure[sent[0]] = sent[1]
        self.coming = []

    # This asks nothing of the device: what's sick or gone is told all the same.
    def peek(self, k):
        memory = [1 if self.gone else 0, 1 if k in self.sick else 0, len(self.coming)]
        if not self.has_block(k):
            return memory
        return memory + told_bytes(self.block_now(k))

    def leave(self):
        self.gone = True

    def sicken(self, k):
        self.sick[k] = True

    def rot(self, k, j, v):
        self.flush()
        if self.has_block(k) and j < BLOCK_BYTES:
            block = list(self.sure_block(k))
            block[j] = v % 256
            self.sure[k] = block

    def lose_power(self, mask, length):
        arriving = [sent for at, sent in enumerate(self.coming) if (mask >> (at % 64)) % 2 == 1]
        self.coming = arriving[:-1]
        self.flush()
        if len(arriving) > 0:
            self.tear(arriving[-1], length)

    def tear(self, sent, length):
        k = sent[0]
        self.sure[k] = sent[1][:length] + self.sure_block(k)[length:]

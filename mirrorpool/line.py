"""The devices of a line, asked one ask after another, and the script of what happens to them."""

from mirrorpool.hardware import Device

NOTHING = -1
FAIL = 0
TAKEN = 1
GOES = 2
SICK = 3
ROT = 4
OFF = 5


class PowerGone(Exception):
    pass


def first_entries(script):
    entries = {}
    for entry in script:
        entries.setdefault(entry[0], entry)
    return entries


def strike(device, entry):
    if entry[1] == GOES:
        device.leave()
    elif entry[1] == SICK:
        device.sicken(entry[2])
    elif entry[1] == ROT:
        device.rot(entry[2], entry[3], entry[4])


class Line:
    def __init__(self, sizes, script):
        self.devices = [Device(size) for size in sizes]
        self.entries = first_entries(script)
        self.ask_count = 0

    def there(self, d):
        return d < len(self.devices)

    # The ask in which the power goes counts as well:
    # else each later ask would meet the same entry again.
    def count_ask(self, d):
        entry = self.entries.get(self.ask_count)
        self.ask_count += 1
        if entry is None:
            return NOTHING
        if entry[1] == OFF:
            self.switch_off(entry[2], entry[3])
            raise PowerGone()
        if self.there(d):
            strike(self.devices[d], entry)
        return entry[1]

    def switch_off(self, mask, length):
        for device in self.devices:
            device.lose_power(mask, length)

    def peek(self, d, k):
        if not self.there(d):
            return [0, 0, 0]
        return self.devices[d].peek(k)

    def alive(self, d):
        return self.there(d) and not self.devices[d].gone

    # None where the device fails.
    def read(self, d, k):
        happened = self.count_ask(d)
        if happened in (FAIL, TAKEN) or not self.alive(d):
            return None
        return self.devices[d].read(k)

    def write(self, d, k, block):
        happened = self.count_ask(d)
        if happened == FAIL or not self.alive(d):
            return False
        if happened == TAKEN:
            self.devices[d].take(k, block)
            return False
        return self.devices[d].write(k, block)

    def flush(self, d):
        happened = self.count_ask(d)
        if happened in (FAIL, TAKEN) or not self.alive(d):
            return False
        self.devices[d].flush()
        return True

"""The addresses that a bridge has heard of."""

MOST_ADDRESSES = 1024
GROUP_BIT = 0x010000000000


class Addresses:
    """By address: the port's place and how old that is. The one heard of last is the dict's last."""

    def __init__(self):
        self.heard = {}

    def hear(self, address, place):
        if address & GROUP_BIT != 0:
            return
        # Taken out first, so that an address heard of again becomes the last one.
        self.heard.pop(address, None)
        self.heard[address] = (place, 0)
        if len(self.heard) > MOST_ADDRESSES:
            self.heard.pop(list(self.heard)[0])

    def place_of(self, address):
        """The place of the port by which the address is known; 0: it isn't known."""
        return self.heard.get(address, (0, 0))[0]

    def forget_place(self, place):
        kept = {}
        for address, entry in self.heard.items():
            if entry[0] != place:
                kept[address] = entry
        self.heard = kept

    def grow_older(self, oldest):
        """By a second; those that are then of this age or more are forgotten."""
        kept = {}
        for address, entry in self.heard.items():
            age = entry[1] + 1
            if age < oldest:
                kept[address] = (entry[0], age)
        self.heard = kept

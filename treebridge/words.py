"""What the bridge's parts are made of: a net's leader, the times, a message, a port."""

OFF = 0
BLOCKING = 1
LISTENING = 2
LEARNING = 3
FORWARDING = 4


class Leader:
    """What leads a net to the root. It's replaced, never changed, so it may be shared."""

    def __init__(self, root, cost, bridge, port):
        self.root = root
        self.cost = cost
        self.bridge = bridge
        self.port = port


class Times:
    """How old things may be, between tellings, to wait: in seconds. Replaced, never changed."""

    def __init__(self, oldest, between, wait):
        self.oldest = oldest
        self.between = between
        self.wait = wait


class Said:
    """A message of the kind "what's said"."""

    def __init__(self, leader, age, times, change, known):
        self.leader = leader
        self.age = age
        self.times = times
        self.change = change
        self.known = known


class Port:
    """A port. An age or a timer that doesn't run is None."""

    def __init__(self, place):
        self.place = place
        self.own_number = 32768 + place
        self.way_cost = 0
        # The document gives a port at the beginning nothing but "off": nothing leads its net yet.
        self.leader = Leader(0, 0, 0, 0)
        self.turn_off()

    def turn_off(self):
        """All as at the beginning, but the cost and what leads the net."""
        self.state = OFF
        self.age = None
        self.wait = None
        self.hold = None
        self.forget_notes()

    def forget_notes(self):
        self.to_tell = False
        self.to_call_known = False

    def start_forwarding(self):
        if self.state == BLOCKING:
            self.state = LISTENING
            self.wait = 0

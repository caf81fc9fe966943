"""The bridge, and what it does to agree on a tree with others."""

from treebridge.addresses import Addresses
from treebridge.messages import changed_frame, said_frame
from treebridge.words import BLOCKING, FORWARDING, LEARNING, OFF, Leader, Port, Said, Times


def standard_times():
    return Times(20, 2, 15)


def is_better(new, old, own_id):
    """Whether the leader that's said is better than the one that a port knows."""
    if new.root != old.root:
        return new.root < old.root
    if new.cost != old.cost:
        return new.cost < old.cost
    if new.bridge != old.bridge:
        return new.bridge < old.bridge
    return new.bridge != own_id or new.port <= old.port


def rank(port):
    """What ports are chosen by as the root port: the least is the best."""
    leader = port.leader
    return (leader.root, leader.cost + port.way_cost, leader.bridge, leader.port, port.place)


class Bridge:
    """A bridge. A timer that doesn't run is None; sent holds the frames of the call that's under way."""

    def __init__(self, own_id, how_many):
        self.own_id = own_id
        self.ports = [Port(place) for place in range(1, how_many + 1)]
        self.root = own_id
        self.cost = 0
        self.root_port = 0
        self.times = standard_times()
        self.change_found = False
        self.change_there = False
        self.telling = 0
        self.asking = None
        self.changing = None
        self.addresses = Addresses()
        self.sent = []

    def port_at(self, place):
        """The port; None if there's no such port."""
        if place < 1 or place > len(self.ports):
            return None
        return self.ports[place - 1]

    def is_root(self):
        return self.root == self.own_id

    def is_led(self, port):
        return port.leader.bridge == self.own_id and port.leader.port == port.own_number

    def leads_any_net(self):
        """Whether this bridge leads a port's net, by whatever port."""
        return any([port.leader.bridge == self.own_id for port in self.ports])

    def send(self, place, frame):
        self.sent.append((place, frame))

    def tell(self, port):
        if port.hold is not None:
            port.to_tell = True
            return
        age = self.told_age()
        if age >= self.times.oldest:
            return
        said = Said(self.own_leader(port), age, self.times, self.change_there, port.to_call_known)
        self.send(port.place, said_frame(self.own_id, said))
        port.forget_notes()
        port.hold = 0

    def told_age(self):
        if self.is_root():
            return 0
        age = self.port_at(self.root_port).age
        return 0 if age is None else age + 1

    def all_tell(self):
        for port in self.ports:
            if port.state != OFF and self.is_led(port):
                self.tell(port)

    def start_asking(self):
        self.asking = 0
        self.ask()

    def ask(self):
        # The root port as its number is: 0 where the bridge's own words came back and made it the root.
        self.send(self.root_port, changed_frame(self.own_id))

    def choose(self):
        chosen = min([port for port in self.ports if self.may_be_chosen(port)], key=rank, default=None)
        if chosen is None:
            self.root_port = 0
            self.root = self.own_id
            self.cost = 0
        else:
            self.root_port = chosen.place
            self.root = chosen.leader.root
            self.cost = chosen.leader.cost + chosen.way_cost

    def may_be_chosen(self, port):
        return port.state != OFF and not self.is_led(port) and port.leader.root < self.own_id

    def own_leader(self, port):
        return Leader(self.root, self.cost, self.own_id, port.own_number)

    def lead(self, port):
        port.leader = self.own_leader(port)

    def is_to_lead(self, port):
        leader = port.leader
        if self.is_led(port) or leader.root != self.root:
            return True
        if leader.cost != self.cost:
            return leader.cost > self.cost
        if leader.bridge != self.own_id:
            return leader.bridge > self.own_id
        return leader.port >= port.own_number

    def update_tree(self):
        self.choose()
        for port in self.ports:
            if self.is_to_lead(port):
                self.lead(port)

    def set_states(self):
        for port in self.ports:
            if port.state != OFF:
                self.set_state(port)

    def set_state(self, port):
        if port.place == self.root_port:
            port.forget_notes()
            port.start_forwarding()
        elif self.is_led(port):
            port.age = None
            port.start_forwarding()
        else:
            port.forget_notes()
            self.block(port)

    def block(self, port):
        if port.state == BLOCKING:
            return
        if port.state == LEARNING or port.state == FORWARDING:
            self.find_change()
        port.state = BLOCKING
        port.wait = None

    def settle(self):
        """The tree and the states anew, when what a port knew is gone."""
        was_root = self.is_root()
        self.update_tree()
        self.set_states()
        if self.is_root() and not was_root:
            self.become_root()

    def find_change(self):
        if self.is_root():
            self.change_found = True
            self.change_there = True
            self.changing = 0
        elif not self.change_found:
            self.change_found = True
            self.start_asking()

    def become_root(self):
        self.times = standard_times()
        self.asking = None
        self.find_change()
        self.all_tell()
        self.telling = 0

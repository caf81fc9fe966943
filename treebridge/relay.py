"""What the bridge does with a frame that comes to one of its ports."""

from treebridge.messages import BRIDGES_ADDRESS, is_changed, message_body, read_said, row_number
from treebridge.tree import is_better
from treebridge.words import FORWARDING, LEARNING

FIRST_KEPT_ADDRESS = 0x0180C2000001
LAST_KEPT_ADDRESS = 0x0180C200000F


def take_frame(bridge, port, frame):
    """A frame of 14 bytes at least, on a port that's on."""
    if row_number(frame[0:6]) == BRIDGES_ADDRESS:
        take_message(bridge, port, message_body(frame))
    else:
        take_other(bridge, port, frame)


def take_message(bridge, port, body):
    if is_changed(body):
        take_changed(bridge, port)
        return
    said = read_said(body)
    if said is None:
        return
    if is_better(said.leader, port.leader, bridge.own_id):
        take_better(bridge, port, said)
    elif bridge.is_led(port):
        bridge.tell(port)


def take_changed(bridge, port):
    if bridge.is_led(port):
        bridge.find_change()
        port.to_call_known = True
        bridge.tell(port)


def take_better(bridge, port, said):
    was_root = bridge.is_root()
    port.leader = said.leader
    port.age = said.age
    bridge.update_tree()
    bridge.set_states()
    if was_root and not bridge.is_root():
        stop_being_root(bridge)
    if port.place == bridge.root_port:
        follow_root(bridge, said)


def stop_being_root(bridge):
    bridge.telling = None
    if bridge.change_found:
        bridge.changing = None
        bridge.start_asking()


def follow_root(bridge, said):
    """The message came by the root port: what it says of times and changes holds."""
    bridge.times = said.times
    bridge.change_there = said.change
    bridge.all_tell()
    if said.known:
        bridge.change_found = False
        bridge.asking = None


def take_other(bridge, port, frame):
    if port.state == LEARNING or port.state == FORWARDING:
        bridge.addresses.hear(row_number(frame[6:12]), port.place)
    target = row_number(frame[0:6])
    is_kept = FIRST_KEPT_ADDRESS <= target <= LAST_KEPT_ADDRESS
    if port.state == FORWARDING and not is_kept:
        pass_on(bridge, port, target, frame)


def pass_on(bridge, source, target, frame):
    known_place = bridge.addresses.place_of(target)
    for port in bridge.ports:
        if port.state == FORWARDING and port.place != source.place and known_place in (0, port.place):
            bridge.send(port.place, frame)

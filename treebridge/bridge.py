"""The calls on a bridge, read from one list of whole numbers, and their answers as another."""

from treebridge.relay import take_frame
from treebridge.seconds import pass_second
from treebridge.tree import Bridge
from treebridge.words import BLOCKING, OFF

BR_BEGIN = 0
BR_ON = 1
BR_OFF = 2
BR_FRAME = 3
BR_SECOND = 4
BR_PORT = 5
BR_ROOT = 6

# By a call's number: how many numbers it has with its own, br_frame's frame not counted.
CALL_LENGTHS = {0: 3, 1: 3, 2: 2, 3: 3, 4: 1, 5: 2, 6: 1, 7: 2}

MOST_PORTS = 16
MOST_COST = 65535
LEAST_BYTES = 14
MOST_BYTES = 2048


def answers(calls):
    """The answers to the calls, one behind another, each with how many numbers it has before it."""
    given = []
    bridge = None
    at = 0
    while at < len(calls):
        end = at + call_length(calls, at)
        call = calls[at:end]
        if call[0] != BR_BEGIN:
            answer = answer_call(bridge, call)
        elif 1 <= call[2] <= MOST_PORTS:
            bridge = Bridge(call[1], call[2])
            answer = [0]
        else:
            answer = refusal()
        given.append(len(answer))
        given.extend(answer)
        at = end
    return given


def call_length(calls, at):
    length = CALL_LENGTHS[calls[at]]
    if calls[at] == BR_FRAME:
        return length + calls[at + 2]
    return length


def answer_call(bridge, call):
    if call[0] == BR_ON:
        return br_on(bridge, call[1], call[2])
    if call[0] == BR_OFF:
        return br_off(bridge, call[1])
    if call[0] == BR_FRAME:
        return br_frame(bridge, call[1], call[3:])
    if call[0] == BR_SECOND:
        return br_second(bridge)
    if call[0] == BR_PORT:
        return br_port(bridge, call[1])
    if call[0] == BR_ROOT:
        return br_root(bridge)
    return br_find(bridge, call[1])


def refusal():
    return [-1]


def br_on(bridge, place, cost):
    port = bridge.port_at(place)
    if port is None or cost < 1 or cost > MOST_COST:
        return refusal()
    if port.state == OFF:
        port.state = BLOCKING
        port.way_cost = cost
        bridge.lead(port)
        bridge.set_states()
    return take_sent(bridge)


def br_off(bridge, place):
    port = bridge.port_at(place)
    if port is None:
        return refusal()
    if port.state != OFF:
        port.turn_off()
        bridge.lead(port)
        bridge.addresses.forget_place(place)
        bridge.settle()
    return take_sent(bridge)


def br_frame(bridge, place, frame):
    port = bridge.port_at(place)
    if port is None or len(frame) > MOST_BYTES:
        return refusal()
    if port.state != OFF and len(frame) >= LEAST_BYTES:
        take_frame(bridge, port, frame)
    return take_sent(bridge)


def br_second(bridge):
    pass_second(bridge)
    return take_sent(bridge)


def br_port(bridge, place):
    port = bridge.port_at(place)
    if port is None:
        return refusal()
    leader = port.leader
    return [0, port.state, leader.root, leader.cost, leader.bridge, leader.port]


def br_root(bridge):
    return [0, bridge.root, bridge.cost, bridge.root_port]


def br_find(bridge, address):
    return [bridge.addresses.place_of(address)]


def take_sent(bridge):
    """The frames that the call has sent, as it answers them; the next call begins with none."""
    answer = [len(bridge.sent)]
    for place, frame in bridge.sent:
        answer.append(place)
        answer.append(len(frame))
        answer.extend(frame)
    bridge.sent = []
    return answer

"""The calls on a bridge, read from one list of whole numbers, and their answers as another."""

from treebridge.relay import take_frame
from treebridge.tree import Bridge
from treebridge.words import BLOCKING, OFF

BR_BEGIN = 0
BR_ON = 1
BR_OFF = 2
BR_FRAME = 3

# By a call's number: how many numbers it has with its own, br_frame's frame not counted.
CALL_LENGTHS = {0: 3, 1: 3, 2: 2, 3: 3}

MOST_PORTS = 16
MOST_COST = 65535
LEAST_BYTES = 14
MOST_BYTES = 2048


def answers(calls):
    """The answers to the calls, one behind another, each with how many numbers it has before it."""
    given = []
    bridge = None
    at = 0
    while at < len(calls):
        end = at + call_length(calls, at)
        call = calls[at:end]
        if call[0] != BR_BEGIN:
            answer = answer_call(bridge, call)
        elif 1 <= call[2] <= MOST_PORTS:
            bridge = Bridge(call[1], call[2])
            answer = [0]
        else:
            answer = refusal()
        given.append(len(answer))
        given.extend(answer)
        at = end
    return given


def call_length(calls, at):
    length = CALL_LENGTHS[calls[at]]
    if calls[at] == BR_FRAME:
        return length + calls[at + 2]
    return length


def answer_call(bridge, call):
    if call[0] == BR_ON:
        return br_on(bridge, call[1], call[2])
    if call[0] == BR_OFF:
        return br_off(bridge, call[1])
    return br_frame(bridge, call[1], call[3:])


def refusal():
    return [-1]


def br_on(bridge, place, cost):
    port = bridge.port_at(place)
    if port is None or cost < 1 or cost > MOST_COST:
        return refusal()
    if port.state == OFF:
        port.state = BLOCKING
        port.way_cost = cost
        bridge.lead(port)
        bridge.set_states()
    return take_sent(bridge)


def br_off(bridge, place):
    port = bridge.port_at(place)
    if port is None:
        return refusal()
    if port.state != OFF:
        was_root = bridge.is_root()
        port.turn_off()
        bridge.lead(port)
        bridge.addresses.forget_place(place)
        bridge.update_tree()
        bridge.set_states()
        if bridge.is_root() and not was_root:
            bridge.become_root()
    return take_sent(bridge)


def br_frame(bridge, place, frame):
    port = bridge.port_at(place)
    if port is None or len(frame) > MOST_BYTES:
        return refusal()
    if port.state != OFF and len(frame) >= LEAST_BYTES:
        take_frame(bridge, port, frame)
    return take_sent(bridge)


def take_sent(bridge):
    """The frames that the call has sent, as it answers them; the next call begins with none."""
    answer = [len(bridge.sent)]
    for place, frame in bridge.sent:
        answer.append(place)
        answer.append(len(frame))
        answer.extend(frame)
    bridge.sent = []
    return answer

"""What the tests share: calls and frames written number by number, and answers read back.

Nothing of the package is used to write or read here, so that the tests don't repeat its faults.
"""

import unittest

from treebridge.bridge import answer_call, answers
from treebridge.tree import Bridge

BRIDGES = 0x0180C2000000
OWN_ID = 0x8000_0000_0000_0A00
OWN_ADDRESS = 0x0000_0000_0A00
LESS = 0x1000_0000_0000_0001
LEAST = 0x0000_0000_0000_0005
GREATER = 0x9000_0000_0000_0002

SECOND = [4]
ROOT = [6]


def row(number, length):
    return list(number.to_bytes(length, "big"))


def frame_to(target, sender, rest):
    return row(target, 6) + row(sender, 6) + rest


def with_length(body, length=None, link=(0x42, 0x42, 0x03), sender=0x0000_0000_BEEF):
    """A frame to the bridges' address with this body behind the three bytes of link."""
    behind = list(link) + body
    counted = len(behind) if length is None else length
    return frame_to(BRIDGES, sender, row(counted, 2) + behind)


def said_body(root, cost, bridge, port, age=0, oldest=20, between=2, wait=15, byte=0):
    """Times may be whole seconds, or a tuple of seconds and 256ths."""
    body = [0, 0, 0, 0, byte] + row(root, 8) + row(cost, 4) + row(bridge, 8) + row(port, 2)
    for time in (age, oldest, between, wait):
        body += list(time) if isinstance(time, tuple) else [time, 0]
    return body


def said(root, cost, bridge, port, sender=0x0000_0000_BEEF, **more):
    return with_length(said_body(root, cost, bridge, port, **more), sender=sender)


def changed(sender=0x0000_0000_BEEF):
    return with_length([0, 0, 0, 128], sender=sender)


def told(root, cost, place, own=OWN_ID, **more):
    """What the bridge itself sends by the port at this place."""
    frame = said(root, cost, own, 32768 + place, sender=own % 2 ** 48, **more)
    return (place, frame)


def asked(place, own=OWN_ID):
    return (place, changed(sender=own % 2 ** 48))


def begin(own=OWN_ID, n=3):
    return [0, own, n]


def on(place, cost=10):
    return [1, place, cost]


def off(place):
    return [2, place]


def frame(place, bytes_):
    return [3, place, len(bytes_)] + bytes_


def seconds(how_many):
    """So many calls of br_second."""
    return [SECOND] * how_many


def port(place):
    return [5, place]


def find(address):
    return [7, address]


def data(target, sender, rest=(8, 0, 1, 2, 3)):
    """A frame that's no message."""
    return frame_to(target, sender, list(rest))


def reach(*states):
    """The calls that bring the ports, from the first on, to these states."""
    def places(state):
        return [place for place, wanted in enumerate(states, start=1) if wanted == state]

    calls = [begin(n=len(states))]
    calls += [on(place) for place in places(4)] + seconds(15)
    calls += [on(place) for place in places(3)] + seconds(15)
    calls += [on(place) for place in places(2) + places(1)]
    # The bridge's own words, as if by a port of a lesser number: it's that one that leads the net.
    calls += [frame(place, said(OWN_ID, 0, OWN_ID, 1)) for place in places(1)]
    return calls


def parts(flat):
    """The answers, one list each."""
    result = []
    at = 0
    while at < len(flat):
        end = at + 1 + flat[at]
        result.append(flat[at + 1:end])
        at = end
    assert at == len(flat)
    return result


def sent(answer):
    """The frames of an answer: tuples of the port's place and the bytes."""
    result = []
    at = 1
    for nothing in range(answer[0]):
        end = at + 2 + answer[at + 1]
        result.append((answer[at], answer[at + 2:end]))
        at = end
    assert at == len(answer)
    return result


def bridge_after(*calls):
    """The bridge itself behind a br_begin and other calls, for what no answer tells."""
    bridge = Bridge(calls[0][1], calls[0][2])
    for call in calls[1:]:
        answer_call(bridge, call)
    return bridge


class BridgeCase(unittest.TestCase):
    maxDiff = None

    def answers_of(self, *calls):
        """The answers to the calls, which are handed in as lists of their own."""
        flat = parts(answers(sum(calls, [])))
        self.assertEqual(len(flat), len(calls))
        return flat

    def last_sent(self, *calls):
        """The frames that the last of the calls sends."""
        return sent(self.answers_of(*calls)[-1])

    def check_last(self, calls, expected):
        self.assertEqual(self.last_sent(*calls), expected)

    def check_answers(self, calls, expected):
        """The answers to the last calls, as many as there are of the expected ones."""
        self.assertEqual(self.answers_of(*calls)[-len(expected):], expected)

    def check_sent(self, calls, expected):
        """The frames that each of the last calls sends, as many as there are of the expected ones."""
        last = self.answers_of(*calls)[-len(expected):]
        self.assertEqual([sent(answer) for answer in last], expected)

    def check_states(self, calls, *states):
        """The states of the ports, from the first on."""
        asked_for = [port(place) for place in range(1, len(states) + 1)]
        last = self.answers_of(*calls, *asked_for)[-len(states):]
        self.assertEqual(tuple(answer[1] for answer in last), states)

    def check_root(self, calls, root, cost, root_port):
        self.check_answers(list(calls) + [ROOT], [[0, root, cost, root_port]])

    def check_find(self, calls, places):
        """By which ports addresses are known: a dict of places."""
        asked_for = [find(address) for address in places]
        self.check_answers(list(calls) + asked_for, [[place] for place in places.values()])

    def check_tree(self, calls, root, cost, root_port, age=1, **more):
        """Asks by the bridge's last port, 16, which is off till then: what the bridge knows is told by it."""
        probe = list(calls) + [on(16), frame(16, changed())]
        if root_port == 0:
            expected = [told(root, cost, 16, byte=129, **more)]
        else:
            expected = [asked(root_port), told(root, cost, 16, age=age, byte=128, **more)]
        self.check_last(probe, expected)

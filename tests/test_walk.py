"""The whole program on lists of calls made by a random source of a fixed beginning: what holds at every step."""

import copy
import random
import unittest

from tests.helper import BRIDGES, ROOT, begin, changed, data, find, frame, off, on, parts, port, said, seconds, sent
from treebridge.bridge import answers

OWN = 9
PORTS = 4
IDS = (0, 1, 5, 8, OWN, OWN, 12)
NUMBERS = (1, 32769, 32770, 32771, 32772, 65535)
ADDRESSES = (0xA, 0xB, 0xC, 0xD, 0xFFFFFFFFFFFF, BRIDGES + 1, BRIDGES + 15, BRIDGES + 16)
HOW_MANY = 60


def random_message(chance):
    times = {"age": chance.choice((0, 1, 19)), "oldest": chance.choice((1, 3, 20, 40)),
             "between": chance.choice((0, 1, 2)), "wait": chance.choice((0, 1, 2, 15))}
    return said(chance.choice(IDS), chance.choice((0, 4, 4294967295)), chance.choice(IDS), chance.choice(NUMBERS),
                byte=chance.choice((0, 1, 128, 129)), **times)


def random_calls(chance):
    kind = chance.randrange(20)
    place = chance.randrange(1, PORTS + 1)
    if kind < 6:
        return seconds(chance.choice((1, 2, 15, 30)))
    if kind < 9:
        return [frame(place, random_message(chance))]
    if kind < 10:
        return [frame(place, changed())]
    if kind < 18:
        return [frame(place, data(chance.choice(ADDRESSES), chance.choice(ADDRESSES)))]
    return [off(place)] if kind < 19 else [on(place, chance.choice((1, 10, 65535)))]


def walk(beginning):
    """The calls, with br_port of each port, br_root and br_find ahead of each."""
    chance = random.Random(beginning)
    plain = [on(place) for place in range(1, PORTS + 1)] + seconds(30)
    while len(plain) < 90:
        plain += random_calls(chance)
    calls = [begin(OWN, PORTS)]
    for call in plain:
        calls += [port(place) for place in range(1, PORTS + 1)] + [ROOT] + [find(address) for address in (0xA, 0xB)]
        calls += [call]
    return calls


def is_message(bytes_):
    return bytes_[0:6] == [0x01, 0x80, 0xC2, 0, 0, 0]


class EveryStep(unittest.TestCase):
    def check_passed_on(self, call, answer, states):
        """Frames that aren't messages go out only as they came in, by and to ports that forward."""
        passed = [(place, bytes_) for place, bytes_ in sent(answer) if not is_message(bytes_)]
        for place, bytes_ in passed:
            self.assertEqual((call[0], bytes_), (3, call[3:]))
            self.assertNotEqual(place, call[1])
            self.assertEqual((states[call[1] - 1], states[place - 1]), (4, 4))
        return len(passed)

    def check_ports(self, told, root):
        """The root port is on and not blocked; a blocked port's net has another to lead it, to the same root."""
        self.assertEqual(root[1] == OWN, root[3] == 0)
        for place, answer in enumerate(told, start=1):
            is_led = answer[4:6] == [OWN, 32768 + place]
            if place == root[3]:
                self.assertGreaterEqual(answer[1], 2)
                self.assertFalse(is_led)
            elif is_led:
                self.assertNotEqual(answer[1], 1)
                self.assertEqual(answer[2:4], root[1:3])
            elif answer[1] != 0:
                self.assertEqual((answer[1], answer[2]), (1, root[1]))

    def test_walks(self):
        passed = 0
        for beginning in range(HOW_MANY):
            calls = walk(beginning)
            given = parts(answers(sum(calls, [])))
            self.assertEqual(len(given), len(calls))
            for at in range(1, len(calls), PORTS + 4):
                told, root = given[at:at + PORTS], given[at + PORTS]
                self.check_ports(told, root)
                step = at + PORTS + 3
                passed += self.check_passed_on(calls[step], given[step], [answer[1] for answer in told])
        # Else the walks show nothing.
        self.assertGreater(passed, 200)

    def test_nothing_is_changed_and_nothing_kept(self):
        for beginning in range(10):
            calls = sum(walk(beginning), [])
            before = copy.deepcopy(calls)
            first = answers(calls)
            self.assertEqual(calls, before)
            self.assertEqual(answers(calls), first)

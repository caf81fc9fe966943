"""Promise 4, br_frame: which frames are refused, which do nothing, and which are messages."""

from tests.helper import (
    BRIDGES, GREATER, LESS, OWN_ID, BridgeCase, asked, begin, bridge_after, changed, frame, on, reach, row, said,
    said_body, told, with_length)
from treebridge.bridge import br_frame

WORSE_BODY = said_body(GREATER, 0, GREATER, 1)
WORSE = with_length(WORSE_BODY)
REPLY = [told(OWN_ID, 0, 1)]
CHANGED_REPLY = [told(OWN_ID, 0, 1, byte=129)]


class Refusals(BridgeCase):
    def test_ports_that_there_are_not(self):
        for n in (1, 3, 16):
            for place in (0, n + 1, 32769, 4294967295):
                for bytes_ in ([], WORSE):
                    with self.subTest(n=n, place=place, bytes=len(bytes_)):
                        self.assertEqual(self.answers_of(begin(n=n), frame(place, bytes_)), [[0], [-1]])

    def test_the_longest_frame(self):
        self.assertEqual(self.answers_of(begin(), on(1), frame(1, [7] * 2048)), [[0], [0], [0]])

    def test_more_than_2048_bytes(self):
        self.assertEqual(self.answers_of(begin(), on(1), frame(1, [7] * 2049)), [[0], [0], [-1]])
        self.assertEqual(self.answers_of(begin(), frame(1, [7] * 2049)), [[0], [-1]])


class Nothing(BridgeCase):
    def test_a_port_that_is_off(self):
        for bytes_ in ([], WORSE, changed(), said(LESS, 5, LESS, 1)):
            with self.subTest(bytes=len(bytes_)):
                self.assertEqual(self.answers_of(begin(), on(2), frame(1, bytes_)), [[0], [0], [0]])

    def test_a_port_that_is_off_learns_nothing_of_the_root(self):
        self.check_tree([begin(n=16), frame(1, said(LESS, 5, LESS, 1)), on(1)], OWN_ID, 0, 0)

    def test_short_frames(self):
        for length in range(15):
            with self.subTest(length=length):
                self.assertEqual(self.answers_of(begin(), on(1), frame(1, WORSE[:length])), [[0], [0], [0]])

    def test_short_frames_on_a_port_that_forwards(self):
        bridge = bridge_after(*reach(4, 4))
        short = row(0xB, 6) + row(0xA, 6) + [8]
        for length in range(14):
            with self.subTest(length=length):
                self.assertEqual(br_frame(bridge, 1, short[:length]), [0])
        self.assertEqual(bridge.addresses.heard, {})
        self.assertEqual(br_frame(bridge, 1, short + [9]), [1, 2, 14] + short + [9])
        self.assertEqual(bridge.addresses.heard, {0xA: (1, 0)})


class MessageCase(BridgeCase):
    def reply(self, bytes_):
        return self.last_sent(begin(), on(1), frame(1, bytes_))


class Length(MessageCase):
    def test_as_it_should_be(self):
        self.assertEqual(self.reply(WORSE), REPLY)
        self.assertEqual(self.reply(changed()), CHANGED_REPLY)

    def test_more_than_there_is(self):
        for length in (39, 40, 256, 1500, 65535):
            with self.subTest(length=length):
                self.assertEqual(self.reply(with_length(WORSE_BODY, length)), [])
        for length in (8, 9, 65535):
            with self.subTest(length=length):
                self.assertEqual(self.reply(with_length([0, 0, 0, 128], length)), [])

    def test_exactly_what_there_is(self):
        self.assertEqual(self.reply(with_length(WORSE_BODY, 38)), REPLY)

    def test_below_3(self):
        for length in (0, 1, 2):
            with self.subTest(length=length):
                self.assertEqual(self.reply(with_length(WORSE_BODY, length)), [])
                self.assertEqual(self.reply(with_length([0, 0, 0, 128], length)), [])

    def test_3_alone(self):
        self.assertEqual(self.reply(with_length(WORSE_BODY, 3)), [])
        self.assertEqual(self.reply(with_length([])), [])

    def test_what_is_behind_the_length_is_not_there(self):
        for length in (4, 6, 37):
            with self.subTest(length=length):
                self.assertEqual(self.reply(with_length(WORSE_BODY, length)), [])
        self.assertEqual(self.reply(with_length([0, 0, 0, 128], 6)), [])

    def test_the_high_byte_counts(self):
        self.assertEqual(self.reply(with_length(WORSE_BODY + [0] * 221, 259)), REPLY)
        self.assertEqual(self.reply(with_length(WORSE_BODY + [0] * 221, 256 * 38)), [])


class Bytes(MessageCase):
    def test_other_bytes_than_42_42_03(self):
        for link in ((0x43, 0x42, 3), (0x42, 0x43, 3), (0x42, 0x42, 2), (0xAA, 0xAA, 3), (0, 0, 0)):
            with self.subTest(link=link):
                self.assertEqual(self.reply(with_length(WORSE_BODY, link=link)), [])
                self.assertEqual(self.reply(with_length([0, 0, 0, 128], link=link)), [])

    def test_fewer_than_35_bytes(self):
        for length in range(35):
            with self.subTest(length=length):
                self.assertEqual(self.reply(with_length(WORSE_BODY[:length])), [])

    def test_fewer_than_4_bytes(self):
        for length in range(4):
            with self.subTest(length=length):
                self.assertEqual(self.reply(with_length([0, 0, 0, 128][:length])), [])

    def test_more_bytes_do_not_count(self):
        for more in (1, 2, 8, 1000):
            with self.subTest(more=more):
                self.assertEqual(self.reply(with_length(WORSE_BODY + [255] * more)), REPLY)
                self.assertEqual(self.reply(with_length([0, 0, 0, 128] + [255] * more)), CHANGED_REPLY)

    def test_more_bytes_do_not_count_as_times_either(self):
        lesser = with_length(said_body(LESS, 5, LESS, 1) + [255, 255])
        calls = [begin(), on(1), on(2), frame(1, lesser)]
        self.check_last(calls, [told(LESS, 15, 2, age=1)])
        times = bridge_after(*calls).times
        self.assertEqual((times.oldest, times.between, times.wait), (20, 2, 15))

    def test_bytes_behind_the_length_do_not_count(self):
        self.assertEqual(self.reply(WORSE + [1, 2, 3]), REPLY)
        self.assertEqual(self.reply(changed() + [0] * 39), CHANGED_REPLY)

    def test_other_first_bytes(self):
        for place in range(4):
            for byte in (1, 2, 127, 128, 129, 255):
                if (place, byte) == (3, 128):
                    continue
                with self.subTest(place=place, byte=byte):
                    body = list(WORSE_BODY)
                    body[place] = byte
                    self.assertEqual(self.reply(with_length(body)), [])

    def test_the_net_has_changed_with_other_first_bytes(self):
        for place in range(3):
            with self.subTest(place=place):
                body = [0, 0, 0, 128]
                body[place] = 1
                self.assertEqual(self.reply(with_length(body)), [])

    def test_the_sender_does_not_count(self):
        for sender in (0, OWN_ID % 2 ** 48, BRIDGES, 0xFFFFFFFFFFFF):
            with self.subTest(sender=sender):
                self.assertEqual(self.reply(with_length(WORSE_BODY, sender=sender)), REPLY)

    def test_other_bits_of_the_byte_do_not_count(self):
        times = [begin(), on(1), on(2)]
        for byte, there in ((0x7E, 0), (0x7F, 1)):
            with self.subTest(byte=byte):
                lesser = said(LESS, 5, LESS, 1, byte=byte)
                self.check_last(times + [frame(1, lesser)], [told(LESS, 15, 2, age=1, byte=there)])


class Ages(MessageCase):
    def test_an_age_not_below_how_old_it_may_be(self):
        for age, oldest in ((20, 20), (21, 20), (255, 20), (0, 0), (1, 1), (255, 255)):
            with self.subTest(age=age, oldest=oldest):
                self.assertEqual(self.reply(said(GREATER, 0, GREATER, 1, age=age, oldest=oldest)), [])

    def test_an_age_below(self):
        for age, oldest in ((19, 20), (0, 20), (0, 1), (254, 255)):
            with self.subTest(age=age, oldest=oldest):
                self.assertEqual(self.reply(said(GREATER, 0, GREATER, 1, age=age, oldest=oldest)), REPLY)

    def test_parts_of_a_second_do_not_count(self):
        for age, oldest, expected in (((19, 255), (20, 0), REPLY), ((19, 0), (19, 255), []), ((0, 1), (0, 255), [])):
            with self.subTest(age=age, oldest=oldest):
                self.assertEqual(self.reply(said(GREATER, 0, GREATER, 1, age=age, oldest=oldest)), expected)

    def test_parts_of_a_second_are_not_told(self):
        lesser = said(LESS, 5, LESS, 1, age=(3, 255), oldest=(30, 128), between=(3, 1), wait=(16, 77))
        calls = [begin(), on(1), on(2), frame(1, lesser)]
        self.check_last(calls, [told(LESS, 15, 2, age=4, oldest=30, between=3, wait=16)])
        bridge = bridge_after(*calls)
        self.assertEqual((bridge.times.oldest, bridge.times.between, bridge.times.wait), (30, 3, 16))
        self.assertEqual(bridge.ports[0].age, 3)


class Targets(MessageCase):
    def test_only_the_address_of_bridges_is_a_messages(self):
        for target in (BRIDGES + 1, BRIDGES - 1, BRIDGES + 16, 0x0180C3000000, 0xFFFFFFFFFFFF, 0):
            with self.subTest(target=target):
                self.assertEqual(self.reply(row(target, 6) + WORSE[6:]), [])

    def test_what_is_not_a_message_is_not_passed_on(self):
        for bytes_ in (with_length([1, 2, 3, 4]), with_length(WORSE_BODY, 2), WORSE[:14], with_length([], link=())):
            with self.subTest(bytes=len(bytes_)):
                bridge = bridge_after(*reach(4, 4))
                self.assertEqual(br_frame(bridge, 1, bytes_), [0])
                self.assertEqual(bridge.addresses.heard, {})

    def test_a_message_is_not_passed_on_and_its_sender_not_learned(self):
        bridge = bridge_after(*reach(4, 4))
        self.assertEqual(br_frame(bridge, 1, WORSE)[0:2], [1, 1])
        self.assertEqual(bridge.addresses.heard, {})


class Frames(BridgeCase):
    """The bytes that are sent, each written out."""

    def test_what_is_said(self):
        own = 0x0102030405060708
        frames = self.last_sent(begin(own), on(2), frame(2, changed()))
        self.assertEqual(frames, [(2, [
            0x01, 0x80, 0xC2, 0x00, 0x00, 0x00,
            0x03, 0x04, 0x05, 0x06, 0x07, 0x08,
            0, 38,
            0x42, 0x42, 0x03,
            0, 0, 0, 0,
            129,
            1, 2, 3, 4, 5, 6, 7, 8,
            0, 0, 0, 0,
            1, 2, 3, 4, 5, 6, 7, 8,
            0x80, 0x02,
            0, 0, 20, 0, 2, 0, 15, 0])])

    def test_the_net_has_changed(self):
        own = 0x0102030405060708
        calls = [begin(own), on(1), on(2), frame(1, said(1, 0, 1, 1)), frame(2, changed())]
        self.check_last(calls, [(1, [
            0x01, 0x80, 0xC2, 0x00, 0x00, 0x00,
            0x03, 0x04, 0x05, 0x06, 0x07, 0x08,
            0, 7,
            0x42, 0x42, 0x03,
            0, 0, 0, 128])])
        self.check_last(calls, [asked(1, own=own)])

    def test_all_numbers_are_read_and_told_whole(self):
        root, bridge_id = 0x0102030405060708, 0x1112131415161718
        lesser = said(root, 0x21222324, bridge_id, 0x3132, age=1, oldest=200, between=101, wait=102)
        calls = [begin(), on(1, 0x0101), on(2), frame(1, lesser)]
        self.check_last(calls, [told(root, 0x21222425, 2, age=2, oldest=200, between=101, wait=102)])
        leader = bridge_after(*calls).ports[0].leader
        self.assertEqual((leader.root, leader.cost, leader.bridge, leader.port),
                         (root, 0x21222324, bridge_id, 0x3132))

    def test_of_the_cost_the_lower_32_bits_are_told(self):
        calls = [begin(), on(1, 3), on(2), frame(1, said(LESS, 0xFFFFFFFF, LESS, 1))]
        self.check_last(calls, [told(LESS, 2, 2, age=1)])
        self.assertEqual(bridge_after(*calls).cost, 0x100000002)

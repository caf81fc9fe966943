"""Promise 4, br_frame: the net has changed."""

from tests.helper import (
    GREATER, LEAST, LESS, OWN_ID, BridgeCase, asked, begin, bridge_after, changed, frame, on, said, told)
from treebridge.bridge import br_frame

WAY = said(LESS, 5, LESS, 1)


class OnAPortThatIsLed(BridgeCase):
    def test_by_the_root(self):
        calls = [begin(), on(1), on(2), frame(2, changed())]
        self.check_last(calls, [told(OWN_ID, 0, 2, byte=129)])
        bridge = bridge_after(*calls)
        self.assertEqual((bridge.change_found, bridge.change_there), (True, True))
        self.assertEqual((bridge.changing, bridge.asking, bridge.telling), (0, None, 0))

    def test_by_the_root_changing_runs_from_0_again(self):
        bridge = bridge_after(begin(), on(1), frame(1, changed()))
        bridge.changing = 20
        br_frame(bridge, 1, changed())
        self.assertEqual(bridge.changing, 0)

    def test_by_another(self):
        calls = [begin(), on(1), frame(1, WAY), on(2), frame(2, changed())]
        self.check_last(calls, [asked(1), told(LESS, 15, 2, age=1, byte=128)])
        bridge = bridge_after(*calls)
        self.assertEqual((bridge.change_found, bridge.change_there), (True, False))
        self.assertEqual((bridge.changing, bridge.asking, bridge.telling), (None, 0, None))

    def test_by_another_with_a_change_there(self):
        calls = [begin(), on(1), frame(1, said(LESS, 5, LESS, 1, byte=1)), on(2), frame(2, changed())]
        self.check_last(calls, [asked(1), told(LESS, 15, 2, age=1, byte=129)])

    def test_by_another_that_found_one_already(self):
        calls = [begin(), on(1), frame(1, WAY), on(2), on(3), frame(2, changed()), frame(3, changed())]
        self.check_last(calls, [told(LESS, 15, 3, age=1, byte=128)])

    def test_asking_does_not_begin_again_then(self):
        bridge = bridge_after(begin(), on(1), frame(1, WAY), on(2), frame(2, changed()))
        bridge.asking = 1
        br_frame(bridge, 2, changed())
        self.assertEqual(bridge.asking, 1)

    def test_hold_runs_so_both_are_noted(self):
        worse = said(GREATER, 0, GREATER, 1)
        calls = [begin(), on(1), frame(1, worse), frame(1, changed())]
        self.check_last(calls, [])
        port = bridge_after(*calls).ports[0]
        self.assertEqual((port.to_tell, port.to_call_known, port.hold), (True, True, 0))

    def test_it_is_called_known_once(self):
        calls = [begin(), on(1), frame(1, changed())]
        port = bridge_after(*calls).ports[0]
        self.assertEqual((port.to_tell, port.to_call_known), (False, False))

    def test_it_is_called_known_by_that_port_alone(self):
        calls = [begin(), on(1), on(2), frame(1, changed()), frame(2, said(GREATER, 0, GREATER, 1))]
        self.check_last(calls, [told(OWN_ID, 0, 2, byte=1)])


class OnAPortThatIsNotLed(BridgeCase):
    def check_nothing(self, *calls):
        self.check_last(calls, [])
        bridge = bridge_after(*calls)
        self.assertEqual((bridge.change_found, bridge.change_there), (False, False))
        self.assertEqual((bridge.changing, bridge.asking), (None, None))
        self.assertEqual([port.to_call_known for port in bridge.ports], [False, False, False])

    def test_the_root_port(self):
        self.check_nothing(begin(), on(1), on(2), frame(1, WAY), frame(1, changed()))

    def test_a_blocked_port(self):
        self.check_nothing(begin(), on(1), on(2), frame(1, said(LEAST, 5, LEAST, 1)),
                           frame(2, said(LEAST, 6, LESS, 1)), frame(2, changed()))

    def test_a_port_led_by_another_port_of_this_bridge(self):
        self.check_nothing(begin(), on(1), on(2), frame(2, said(OWN_ID, 0, OWN_ID, 32769)), frame(2, changed()))

    def test_a_port_with_its_own_number_led_by_another_bridge(self):
        self.check_nothing(begin(), on(1), frame(1, said(LESS, 5, LESS, 32769)), frame(1, changed()))
        self.check_nothing(begin(), on(1), frame(1, said(LESS, 5, GREATER, 32769)), frame(1, changed()))

    def test_a_port_that_is_off(self):
        self.check_nothing(begin(), on(1), frame(2, changed()))

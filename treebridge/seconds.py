"""What the bridge does when a second goes by."""

from treebridge.words import FORWARDING, LEARNING, LISTENING

ASKING_SECONDS = 2
CHANGING_SECONDS = 35
HOLD_SECONDS = 1
ADDRESS_SECONDS = 300


def pass_second(bridge):
    # One loop for each timer of the ports: all ages go ahead of the first wait, all waits ahead of the first hold.
    count_telling(bridge)
    count_asking(bridge)
    count_changing(bridge)
    for port in bridge.ports:
        count_age(bridge, port)
    for port in bridge.ports:
        count_wait(bridge, port)
    for port in bridge.ports:
        count_hold(bridge, port)
    bridge.addresses.grow_older(address_seconds(bridge))


def one_more(timer):
    return None if timer is None else timer + 1


def is_out(timer, seconds):
    return timer is not None and timer >= seconds


def count_telling(bridge):
    bridge.telling = one_more(bridge.telling)
    if is_out(bridge.telling, bridge.times.between):
        bridge.all_tell()
        bridge.telling = 0


def count_asking(bridge):
    bridge.asking = one_more(bridge.asking)
    if is_out(bridge.asking, ASKING_SECONDS):
        bridge.start_asking()


def count_changing(bridge):
    bridge.changing = one_more(bridge.changing)
    if is_out(bridge.changing, CHANGING_SECONDS):
        bridge.changing = None
        bridge.change_found = False
        bridge.change_there = False


def count_age(bridge, port):
    port.age = one_more(port.age)
    if is_out(port.age, bridge.times.oldest):
        # It stops with the states: a port that's led has no age.
        bridge.lead(port)
        bridge.settle()


def count_wait(bridge, port):
    port.wait = one_more(port.wait)
    if not is_out(port.wait, bridge.times.wait):
        return
    if port.state == LISTENING:
        port.state = LEARNING
        port.wait = 0
    else:
        port.state = FORWARDING
        port.wait = None
        if bridge.leads_any_net():
            bridge.find_change()


def count_hold(bridge, port):
    port.hold = one_more(port.hold)
    if is_out(port.hold, HOLD_SECONDS):
        port.hold = None
        if port.to_tell:
            bridge.tell(port)


def address_seconds(bridge):
    """How old an address may not become."""
    return bridge.times.wait if bridge.change_there else ADDRESS_SECONDS

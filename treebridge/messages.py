"""The messages between bridges, as the bytes of frames."""

from treebridge.words import Leader, Said, Times

BRIDGES_ADDRESS = 0x0180C2000000
CHANGE_KNOWN = 128
CHANGE_THERE = 1
SAID_LENGTH = 35


def number_row(number, length):
    """The number's lower bytes, so many, the highest first."""
    return [(number >> (8 * place)) & 255 for place in range(length - 1, -1, -1)]


def row_number(row):
    number = 0
    for byte in row:
        number = number * 256 + byte
    return number


def message_frame(own_id, body):
    # The bridge's address is the lower 48 bits of its id.
    behind = [0x42, 0x42, 0x03] + body
    return number_row(BRIDGES_ADDRESS, 6) + number_row(own_id, 6) + number_row(len(behind), 2) + behind


def changed_frame(own_id):
    return message_frame(own_id, [0, 0, 0, 128])


def said_frame(own_id, said):
    leader = said.leader
    times = said.times
    body = [0, 0, 0, 0, notes_byte(said)]
    body.extend(number_row(leader.root, 8))
    body.extend(number_row(leader.cost, 4))
    body.extend(number_row(leader.bridge, 8))
    body.extend(number_row(leader.port, 2))
    for seconds in [said.age, times.oldest, times.between, times.wait]:
        body.extend(number_row(seconds * 256, 2))
    return message_frame(own_id, body)


def notes_byte(said):
    known = CHANGE_KNOWN if said.known else 0
    there = CHANGE_THERE if said.change else 0
    return known + there


def message_body(frame):
    """What follows 42H 42H 03H, as far as the length says; nothing where these or the length are wrong."""
    length = row_number(frame[12:14])
    if length < 3 or length > len(frame) - 14 or frame[14:17] != [0x42, 0x42, 0x03]:
        return []
    return frame[17:14 + length]


def is_changed(body):
    return body[0:4] == [0, 0, 0, 128]


def read_said(body):
    """What's said by the body; None if it isn't such a message."""
    if len(body) < SAID_LENGTH or body[0:4] != [0, 0, 0, 0]:
        return None
    times = Times(row_seconds(body[29:31]), row_seconds(body[31:33]), row_seconds(body[33:35]))
    age = row_seconds(body[27:29])
    if age >= times.oldest:
        return None
    leader = Leader(row_number(body[5:13]), row_number(body[13:17]), row_number(body[17:25]), row_number(body[25:27]))
    return Said(leader, age, times, body[4] & CHANGE_THERE != 0, body[4] & CHANGE_KNOWN != 0)


def row_seconds(row):
    # Parts of a second don't count.
    return row_number(row) // 256

"""Records: the bytes that deeds and copies are written as."""

MAKE = 1
GO = 2
KEEP = 3
FORGET = 4
COPIED_FIRST = 5
COPIED_OTHER = 6
COPIED_END = 7


def record(body):
    return [len(body), 255 - len(body)] + body + [sum(body) % 256, 255]


def record_size(body):
    return len(body) + 4


# The bodies of the records that stand one behind another, up to the first that is not right.
def read(written):
    bodies = []
    place = 0
    body = body_at(written, place)
    while body is not None:
        bodies.append(body)
        place = place + record_size(body)
        body = body_at(written, place)
    return bodies


# None where no right record stands at that place.
def body_at(written, place):
    if place >= len(written):
        return None
    body = written[place + 2:place + 2 + written[place]]
    # Written anew it must be the same: this holds lengths, sum and end to what they ought to be, all at once.
    if body == [] or written[place:place + record_size(body)] != record(body):
        return None
    return body if is_right(body) else None


def is_right(body):
    sort = body[0]
    many = len(body)
    if sort == MAKE:
        return many >= 3
    if sort == GO or sort == FORGET:
        return many == 2
    if sort == KEEP:
        return many == 3 and body[2] <= 1
    if sort == COPIED_FIRST:
        return many >= 3 and body[2] <= 1
    if sort == COPIED_OTHER:
        return many >= 6 and body[3] <= 1
    if sort == COPIED_END:
        return many >= 5 and many % 2 == 1
    return False

"""What the tests share: calls as lists of numbers, and their answers taken apart."""

import struct

from linkpieces.desk import answers

EVERYBODY = 2 ** 32 - 1
NET = 0x0A000000
HERE = 0x0A000001
ROUTER = 0x0A0000FE
# The machine's address on a second link, another machine on that link, and one on no link at all.
THERE = 0x0B000001
FAR = 0x0B000007
OTHER = 0x0C000009

LOWEST = -2147483648
HIGHEST = 2147483647

DONE = [0]
WRONG = [-1]
NOT_THERE = [-2]
NOT_AS_TOLD = [-3]
NOT_NOW = [-4]
NO_ROOM = [-5]
TOO_LONG = [-7]

MORE = 1
UNCUT = 2


def new():
    return [0]


def link(k, address, bits=24, fits=1500):
    return [1, k, address, bits, fits]


def pass_on(on):
    return [2, on]


def way(address, bits, link_number, next_machine=0):
    return [3, address, bits, link_number, next_machine]


def away(address, bits):
    return [4, address, bits]


def best(address):
    return [5, address]


def send(body=(), what=2, sender=0, to=FAR, hops=64, uncut=0, by=-1):
    return [6, what, sender, to, hops, uncut, by, len(body), *body]


def take(data, by=0):
    return [7, by, len(data), *data]


def error(data, kind=4, number=0):
    return [8, kind, number, len(data), *data]


def tick(now):
    return [9, now]


def told():
    return [10]


def counted(ways=0, pieces=0, name=0, upward=0, passed=0, stopped=0):
    return [0, ways, pieces, name, upward, passed, stopped]


def filled(count, first=1):
    """A body of so many bytes that no part of it is like another near it."""
    return [(first + n * 7 + n // 256) % 256 for n in range(count)]


def checksum(data):
    data = bytes(data) + bytes(len(data) % 2)
    total = sum(word for (word,) in struct.iter_unpack(">H", data))
    # Adding what's above 16 bits till nothing's above leaves the rest modulo 65535, but 65535 where that's 0.
    return 65535 - ((total - 1) % 65535 + 1 if total else 0)


def packet(body=(), what=2, sender=FAR, to=HERE, hops=64, flags=0, name=0, place=0, first=0x51, length=None,
           wrong_sum=None):
    """A packet's bytes; what's told by name alone makes it wrong."""
    length = 20 + len(body) if length is None else length
    front = struct.pack(">BBBBHHH", first, hops, what, flags, length, name, place)
    back = struct.pack(">II", sender, to)
    summed = checksum(front + bytes(2) + back) if wrong_sum is None else wrong_sum
    return [*front, *struct.pack(">H", summed), *back, *body]


def error_body(kind, number, about):
    back = [*struct.pack(">I", number), *about[:28]]
    return [kind, 0, *struct.pack(">H", checksum([kind, 0, 0, 0, *back])), *back]


def error_packet(kind, number, about, sender=HERE, to=FAR, name=0):
    return packet(error_body(kind, number, about), 1, sender, to, 64, 0, name)


def upward(by, data):
    """What's told of a packet that's told upward."""
    return [0, by, *data[:20], len(data) - 20, *data[20:]]


def sent(by, address, *packets):
    """What's told of packets that go out by one link to one machine."""
    return [number for data in packets for number in (1, by, address, len(data), *data)]


def found(link_number, next_machine, bits):
    return [0, link_number, next_machine, bits]


def ask(*calls):
    """The answer to each call; fails if the list that's given back isn't laid out as one."""
    numbers = answers([number for call in calls for number in call])
    taken = []
    at = 0
    while at < len(numbers):
        end = at + 1 + numbers[at]
        taken.append(numbers[at + 1:end])
        at = end
    if at != len(numbers) or len(taken) != len(calls):
        raise AssertionError(f"{len(calls)} calls, but answered was {numbers}")
    return taken


def ask_behind(before, calls):
    """The answers to calls alone, with others before them."""
    return ask(*before, *calls)[len(before):]


def ask_last(*calls):
    return ask(*calls)[-1]


TWO_LINKS = [link(0, HERE, 24, 1500), link(1, THERE, 24, 600)]

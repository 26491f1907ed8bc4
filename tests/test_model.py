"""All calls in long mixed lists, against a second machine that is written from the document in another way."""

import random
import struct
import unittest

from tests.asking import (EVERYBODY, MORE, UNCUT, ask, away, best, checksum, error, error_body, error_packet, link,
                          new, packet, pass_on, send, sent, take, tick, told, upward, way)

OWN = (0x0A000001, 0x0A000002, 0x0B000001)
OTHERS = (0x0A000007, 0x0A000009, 0x0B000005, 0x0C000001)
STARTS = ((0, 0), (0x0A000000, 24), (0x0B000000, 8), (0x0C000001, 32), (0x0A000000, 28))


def head_of(data):
    return struct.unpack(">BBBBHHHHII", bytes(data[:20]))


def is_right_error(body):
    return len(body) >= 8 and body[1] == 0 and checksum(body[:2] + [0, 0] + body[4:]) == body[2] * 256 + body[3]


def masked(address, bits):
    return f"{address:032b}"[:bits]


class Model:
    def __init__(self):
        self.new()

    def new(self):
        self.links, self.ways, self.on, self.now, self.name = {}, {}, 0, 0, 0
        self.gathered, self.answered = [], []
        return [0]

    def link(self, k, address, bits, fits):
        self.links.pop(k, None)
        if address:
            self.links[k] = (address, bits, fits)
        return [0]

    def pass_on(self, on):
        self.on = on
        return [0]

    def way(self, address, bits, k, handed_to):
        self.ways[address, bits] = (k, handed_to)
        return [0]

    def away(self, address, bits):
        return [-2] if self.ways.pop((address, bits), None) is None else [0]

    def route(self, address):
        rows = [(-bits, 0, k, address) for k, (own, bits, fits) in self.links.items()
                if masked(own, bits) == masked(address, bits)]
        rows += [(-bits, 1, k, handed_to or address) for (start, bits), (k, handed_to) in self.ways.items()
                 if k in self.links and masked(start, bits) == masked(address, bits)]
        return min(rows) if rows else None

    def best(self, address):
        row = self.route(address)
        return [0, row[2], row[3], -row[0]] if row else [-2]

    def owns(self, address):
        return any(own == address for own, bits, fits in self.links.values())

    def out(self, k, address, data):
        """What's told of a packet that goes out, whole or cut."""
        fits = self.links[k][2]
        if len(data) <= fits:
            return sent(k, address, data)
        first, hops, what, flags, length, name, place, summed, sender, to = head_of(data)
        most = (fits - 20) // 8
        head = packet(data[20:20 + most * 8], what, sender, to, hops, flags | MORE, name, place)
        rest = packet(data[20 + most * 8:], what, sender, to, hops, flags, name, place + most)
        return sent(k, address, head) + self.out(k, address, rest)

    def back(self, kind, number, data):
        sender, to = struct.unpack(">II", bytes(data[12:20]))
        row = self.route(sender)
        if data[2] == 1 or data[8:10] != [0, 0] or to == EVERYBODY or row is None:
            return []
        self.name += 1
        if self.owns(sender):
            return upward(4, error_packet(kind, number, data, sender, sender, self.name - 1))
        made = error_packet(kind, number, data, self.links[row[2]][0], sender, self.name - 1)
        return self.out(row[2], row[3], made)

    def send(self, body, what, sender, to, hops, uncut, by):
        if sender and not self.owns(sender):
            return [-1]
        if by >= 0 and by not in self.links:
            return [-4]
        inside = by < 0 and self.owns(to)
        row = self.route(to) if by < 0 else (0, 0, by, to)
        if by < 0 and to == EVERYBODY or row is None:
            return [-2]
        if not inside and uncut and len(body) + 20 > self.links[row[2]][2]:
            return [-7]
        sender = sender or (to if inside else self.links[row[2]][0])
        data = packet(body, what, sender, to, hops, uncut * UNCUT, self.name)
        self.name += 1
        return [0] + (upward(4, data) if inside else self.out(row[2], row[3], data))

    def take(self, data, by):
        if by not in self.links:
            return [-4]
        if not self.is_packet(data):
            return [-3]
        answer = self.come(data, by)
        self.answered.append(answer[0])
        return answer

    def is_packet(self, data, whole=True):
        if len(data) < 20:
            return False
        first, hops, what, flags, length, name, place, summed, sender, to = head_of(data)
        body = length - 20
        return (first == 0x51 and hops > 0 and what in (1, 2, 3, 4) and flags in (0, 1, 2, 3) and body >= 0
                and (len(data) == length if whole else len(data) <= length) and place * 8 + body <= 65515
                and summed == checksum(data[:10] + data[12:20]) and sender not in (0, EVERYBODY) and to != 0
                and not (flags & MORE and (body == 0 or body % 8)))

    def come(self, data, by):
        first, hops, what, flags, length, name, place, summed, sender, to = head_of(data)
        if to == EVERYBODY or self.owns(to):
            if flags & MORE or place:
                return self.gather((sender, to, what, name), place * 8, bool(flags & MORE), data, by)
            return self.rise(data, by)
        row = self.route(to)
        if not self.on:
            return [5]
        if hops == 1 or row is None:
            return [4] + self.back(2 if hops == 1 else 1, 0, data)
        fits = self.links[row[2]][2]
        if flags & UNCUT and length > fits:
            return [4] + self.back(3, fits, data)
        return [2] + self.out(row[2], row[3], packet(data[20:], what, sender, to, hops - 1, flags, name, place))

    def rise(self, data, by):
        if data[2] == 1 and not is_right_error(data[20:]):
            return [5]
        return [1] + upward(by, data)

    def gather(self, key, start, more, data, by):
        """Every byte that's there stands by its place; spoiled: None in the place of the bytes."""
        packets = [one for one in self.gathered if one["key"] == key]
        if not packets:
            packets = [{"key": key, "began": self.now, "bytes": {}, "seen": [], "end": None, "first": None}]
            self.gathered = self.gathered[-63:] + packets
        one = packets[0]
        body = data[20:]
        end = start + len(body)
        if one["bytes"] is None:
            return [5]
        if (start, more, body) in one["seen"]:
            return [3]
        reach = max(one["bytes"], default=-1) + 1
        if (any(at in one["bytes"] for at in range(start, end)) or (one["end"] is not None and end > one["end"])
                or (not more and (one["end"] is not None or reach > end))):
            one["bytes"] = None
            return [5]
        one["seen"].append((start, more, body))
        one["bytes"].update(zip(range(start, end), body))
        if start == 0:
            one["first"] = data
        if not more:
            one["end"] = end
        if one["end"] is None or any(at not in one["bytes"] for at in range(one["end"])):
            return [3]
        self.gathered.remove(one)
        return self.rise(one["first"][:20] + [one["bytes"][at] for at in range(one["end"])], by)

    def error(self, data, kind, number):
        return [0] + self.back(kind, number, data) if self.is_packet(data, False) else [-3]

    def tick(self, now):
        if now < self.now:
            return [-1]
        self.now = now
        answer = [0]
        for one in [one for one in self.gathered if one["began"] <= now - 30000]:
            self.gathered.remove(one)
            if one["bytes"] is not None and one["first"] is not None:
                answer += self.back(5, 0, one["first"])
        return answer

    def told(self):
        counts = [self.answered.count(1), self.answered.count(2), self.answered.count(4) + self.answered.count(5)]
        return [0, len(self.ways), len(self.gathered), self.name, *counts]


CALLS = {"new": new, "link": link, "pass_on": pass_on, "way": way, "away": away, "best": best, "send": send,
         "take": take, "error": error, "tick": tick, "told": told}


class Player:
    """Picks calls from few values, so that packets meet."""

    def __init__(self, seed):
        self.pick = random.Random(seed)
        self.now = 0

    def body(self, lengths):
        length = self.pick.choice(lengths)
        return [self.pick.randrange(256)] * length

    def packet(self):
        pick = self.pick
        flags = pick.choice((0, 0, MORE, MORE, UNCUT, MORE + UNCUT))
        body = self.body((8, 8, 16, 24, 80, 160) if flags & MORE else (0, 0, 5, 8, 16, 80, 200))
        what = pick.choice((1, 2, 2, 3))
        if what == 1 and not flags & MORE:
            body = pick.choice((body, error_body(pick.randrange(1, 6), 0, body)))
        return packet(body, what, pick.choice(OWN + OTHERS * 2), pick.choice(OWN * 3 + OTHERS + (EVERYBODY,)),
                      pick.choice((1, 2, 64)), flags, pick.randrange(2), pick.choice((0, 0, 0, 1, 2, 3)))

    def piece(self, names):
        """A piece of one of few packets, of which all that come agree but for some."""
        start = self.pick.choice((0, 0, 1, 2, 3))
        body = [start, 0, 253, 9, 5, 6, 7, 8] if self.pick.random() < 0.95 else self.body((8, 16))
        flags = 0 if start == 3 else MORE
        return packet(body, 2, OTHERS[0], OWN[0], 9, flags, self.pick.randrange(names), start)

    def spoilt(self, data):
        """Some are no packet any more, or only a beginning."""
        chance = self.pick.random()
        if chance < 0.05 and data:
            data[self.pick.randrange(len(data))] ^= 1 << self.pick.randrange(8)
        elif chance < 0.1:
            data = data[:self.pick.randrange(len(data) + 1)]
        elif chance < 0.12:
            data = data + [0]
        return data

    def call(self, names):
        pick = self.pick
        chance = pick.random()
        if chance < 0.45:
            data = self.piece(names) if pick.random() < 0.6 else self.packet()
            return "take", (self.spoilt(data), pick.choice((0, 0, 0, 1, 2)))
        if chance < 0.6:
            return "send", (self.body((0, 1, 48, 49, 60, 300)), pick.randrange(1, 5),
                            pick.choice((0, 0, *OWN, OTHERS[0])),
                            pick.choice(OWN + OTHERS * 2 + (EVERYBODY,)), pick.choice((1, 255)), pick.randrange(2),
                            pick.choice((-1, -1, -1, 0, 1, 2, 3)))
        if chance < 0.7:
            return "error", (self.spoilt(self.packet()), pick.randrange(1, 6), pick.choice((0, 7, EVERYBODY)))
        if chance < 0.78:
            self.now = max(0, self.now + pick.choice((-1, 0, 1, 5000, 15000, 29999, 30000)))
            return "tick", (self.now,)
        if chance < 0.84:
            return "told", ()
        if chance < 0.92:
            start = pick.choice(STARTS)
            return pick.choice((("way", (*start, pick.randrange(3), pick.choice((0, OTHERS[1], 5)))), ("away", start),
                                ("best", (pick.choice(OWN + OTHERS),))))
        if chance < 0.94:
            return "pass_on", (int(pick.random() < 0.8),)
        if chance < 0.995:
            return self.link(pick.randrange(3), pick.random() < 0.85)
        return "new", ()

    def link(self, k, on):
        fits = self.pick.choice((68, 71, 75, 76, 100, 1500))
        return "link", (k, OWN[k] if on else 0, self.pick.choice((0, 8, 24, 28)), fits)


class ModelTest(unittest.TestCase):
    def play(self, seed, count, names):
        player, model = Player(seed), Model()
        calls = [player.link(k, True) for k in range(3)] + [("pass_on", (1,))]
        calls += [player.call(names) for n in range(count - len(calls))]
        wanted = [getattr(model, name)(*values) for name, values in calls]
        answered = ask(*[CALLS[name](*values) for name, values in calls])
        for n in range(count):
            self.assertEqual(answered[n], wanted[n], (seed, n, calls[n]))
        return [(name, answer[0]) for (name, values), answer in zip(calls, wanted)]

    def test_mixed_calls(self):
        seen = {}
        for seed in range(120):
            for one in self.play(seed, 300, (1, 3, 200)[seed % 3]):
                seen[one] = seen.get(one, 0) + 1
        # Else the lists would test less than they seem to.
        for one in (("send", 0), ("send", -1), ("send", -2), ("send", -4), ("send", -7), ("take", -3), ("take", -4),
                    ("take", 1), ("take", 2), ("take", 3), ("take", 4), ("take", 5), ("error", 0), ("error", -3),
                    ("tick", 0), ("tick", -1), ("told", 0), ("new", 0)):
            self.assertGreater(seen.get(one, 0), 50, one)

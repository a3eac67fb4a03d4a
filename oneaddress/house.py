"""The house: its bindings, and the calls on it."""

from oneaddress.packet import ECHO_ANSWER, ECHO_REQUEST, PROTOCOL_PLACE, RECEIVER_PLACE, SENDER_PLACE
from oneaddress.packet import STEPS_PLACE, TCP
from oneaddress.packet import address_at, carries_known, is_piece, is_whole
from oneaddress.packet import receiver_port_place, rewrite, sender_port_place, word_at

BEGIN = 0
OUT = 1
COME_IN = 2
COUNT = 3
FIND = 4

# How many numbers each call has, by its number; out and come_in have their packet behind these.
CALL_SIZES = (2, 3, 3, 2, 4)

NOT_WHOLE = -1
NOT_CARRIED = -2
NO_STEP_LEFT = -3
NO_ROOM = -4
NOBODYS = -5
NOT_FOUND = -1

MOST_BINDINGS = 256
LEAST_PORT = 1024
TCP_SECONDS = 7200
OTHER_SECONDS = 300
ROUND_OF_SECONDS = 4294967296


class Binding:
    def __init__(self, protocol, address, port, outside_port, used):
        self.protocol = protocol
        self.address = address
        self.port = port
        self.outside_port = outside_port
        self.used = used

    def is_dead(self, now):
        limit = TCP_SECONDS if self.protocol == TCP else OTHER_SECONDS
        return (now - self.used) % ROUND_OF_SECONDS >= limit


class House:
    def __init__(self):
        self.outside = 0
        self.bindings = []

    def begin(self, outside):
        self.outside = outside
        self.bindings = []
        return 0

    # out and come_in change the packet in place, and answer 0 or a refusal.
    def out(self, packet, now):
        self.forget_dead(now)
        refusal = refusal_both_ways(packet, ECHO_REQUEST)
        if refusal != 0:
            return refusal
        protocol = packet[PROTOCOL_PLACE]
        address = address_at(packet, SENDER_PLACE)
        port_place = sender_port_place(packet)
        port = word_at(packet, port_place)
        binding = self.bound_inside(protocol, address, port)
        if binding is None:
            if len(self.bindings) >= MOST_BINDINGS:
                return NO_ROOM
            binding = Binding(protocol, address, port, self.free_port(protocol, port), now)
            self.bindings.append(binding)
        binding.used = now
        rewrite(packet, SENDER_PLACE, port_place, self.outside, binding.outside_port)
        return 0

    def come_in(self, packet, now):
        self.forget_dead(now)
        refusal = refusal_both_ways(packet, ECHO_ANSWER)
        if refusal != 0:
            return refusal
        if address_at(packet, RECEIVER_PLACE) != self.outside:
            return NOBODYS
        port_place = receiver_port_place(packet)
        binding = self.bound_outside(packet[PROTOCOL_PLACE], word_at(packet, port_place))
        if binding is None:
            return NOBODYS
        binding.used = now
        rewrite(packet, RECEIVER_PLACE, port_place, binding.address, binding.port)
        return 0

    def count(self, now):
        return len([binding for binding in self.bindings if not binding.is_dead(now)])

    def find(self, protocol, port, now):
        binding = self.bound_outside(protocol, port)
        if binding is None or binding.is_dead(now):
            return [NOT_FOUND]
        return [0, binding.address, binding.port]

    def forget_dead(self, now):
        self.bindings = [binding for binding in self.bindings if not binding.is_dead(now)]

    def bound_inside(self, protocol, address, port):
        for binding in self.bindings:
            if binding.protocol == protocol and binding.address == address and binding.port == port:
                return binding
        return None

    def bound_outside(self, protocol, port):
        for binding in self.bindings:
            if binding.protocol == protocol and binding.outside_port == port:
                return binding
        return None

    def free_port(self, protocol, wished):
        taken = [binding.outside_port for binding in self.bindings if binding.protocol == protocol]
        if wished >= LEAST_PORT and wished not in taken:
            return wished
        port = LEAST_PORT
        while port in taken:
            port = port + 1
        return port


# What out and come_in refuse alike, but for the kind of echo that goes their way; 0 if nothing.
def refusal_both_ways(packet, echo_kind):
    if not is_whole(packet):
        return NOT_WHOLE
    if is_piece(packet) or not carries_known(packet, echo_kind):
        return NOT_CARRIED
    if packet[STEPS_PLACE] <= 1:
        return NO_STEP_LEFT
    return 0


def answers(calls):
    house = House()
    told = []
    start = 0
    while start < len(calls):
        end = start + call_size(calls, start)
        answer = answer_one(house, calls[start:end])
        told.append(len(answer))
        told.extend(answer)
        start = end
    return told


def call_size(calls, start):
    size = CALL_SIZES[calls[start]]
    if calls[start] == OUT or calls[start] == COME_IN:
        return size + calls[start + 2]
    return size


def answer_one(house, call):
    if call[0] == BEGIN:
        return [house.begin(call[1])]
    if call[0] == COUNT:
        return [house.count(call[1])]
    if call[0] == FIND:
        return house.find(call[1], call[2], call[3])
    # A slice is a copy, so what was handed in stays as it is while the packet is rewritten.
    packet = call[CALL_SIZES[OUT]:]
    if call[0] == OUT:
        refusal = house.out(packet, call[1])
    else:
        refusal = house.come_in(packet, call[1])
    return [refusal] + packet

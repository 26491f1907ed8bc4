"""Addresses, and their first bits."""

NOBODY = 0
EVERYBODY = 4294967295
ADDRESS_BITS = 32


def is_one_machine(address):
    return NOBODY < address < EVERYBODY


def is_bit_count(bits):
    return 0 <= bits <= ADDRESS_BITS


def first_bits(address, bits):
    others = ADDRESS_BITS - bits
    return (address >> others) << others

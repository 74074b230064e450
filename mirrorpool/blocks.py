"""Blocks of 1024 bytes: how they are told and how they are answered."""

BLOCK_BYTES = 1024


def is_block(told):
    return len(told) <= BLOCK_BYTES


def whole_block(told):
    return told + [0] * (BLOCK_BYTES - len(told))


def told_bytes(block):
    end = len(block)
    while end > 0 and block[end - 1] == 0:
        end -= 1
    return block[:end]

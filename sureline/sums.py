"""The sum that a packet bears: the CRC-32C of the bytes ahead of it."""

ONES = 0xFFFFFFFF
FEEDBACK = 0x82F63B78


def crc_of(octets):
    crc = ONES
    for octet in octets:
        crc = crc ^ octet
        for bit in range(8):
            if crc % 2 == 1:
                crc = crc // 2 ^ FEEDBACK
            else:
                crc = crc // 2
    return crc ^ ONES

"""The check at a message's end: CRC-32C."""

ALL_ONES = 0xFFFFFFFF

# Four steps of the polynomial 82F63B78H at once, for each value of the low four
# bits: a message may be sent again at every tick, and single steps would be slow.
FOUR_STEPS = (
    0x00000000, 0x105EC76F, 0x20BD8EDE, 0x30E349B1,
    0x417B1DBC, 0x5125DAD3, 0x61C69362, 0x7198540D,
    0x82F63B78, 0x92A8FC17, 0xA24BB5A6, 0xB21572C9,
    0xC38D26C4, 0xD3D3E1AB, 0xE330A81A, 0xF36E6F75,
)


def check_of(numbers):
    value = ALL_ONES
    for number in numbers:
        value = value ^ number
        value = (value >> 4) ^ FOUR_STEPS[value & 15]
        value = (value >> 4) ^ FOUR_STEPS[value & 15]
    return value ^ ALL_ONES

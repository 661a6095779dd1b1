"""The field of bytes, in which the sum of two bytes is their exclusive or."""


def double(a):
    """The double of a byte."""
    twice = 2 * a
    if twice < 256:
        return twice
    return twice ^ 285


def product(a, b):
    """The product of two bytes."""
    total = 0
    for bit in range(8):
        if b >> bit & 1:
            total = total ^ a
        a = double(a)
    return total


def products(a):
    """The products of a byte with all 256 bytes, in the order of these."""
    row = [0]
    for _ in range(8):
        row = row + [known ^ a for known in row]
        a = double(a)
    return row


def inverse(a):
    """The inverse of a byte other than 0."""
    # The 255th power of each byte other than 0 is 1, so its 254th power is the inverse:
    # the product of the powers 2, 4, 8 and so on up to 128.
    total = 1
    for _ in range(7):
        a = product(a, a)
        total = product(total, a)
    return total

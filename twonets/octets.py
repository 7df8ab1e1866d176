"""Lists of bytes: the numbers in them, and their sums. No list is changed; a new one is given back."""


def number_at(data, place, size):
    number = 0
    for octet in data[place:place + size]:
        number = number * 256 + octet
    return number


def octets_of(number, size):
    octets = []
    rest = number
    for place in range(size):
        octets.append(rest % 256)
        rest = rest // 256
    octets.reverse()
    return octets


def with_number(data, place, size, number):
    return data[:place] + octets_of(number, size) + data[place + size:]


def sum_of(data):
    """The usual sum; of data that holds its own right sum it is 0."""
    total = sum(data[0::2]) * 256 + sum(data[1::2])
    while total > 65535:
        total = total % 65536 + total // 65536
    return 65535 - total

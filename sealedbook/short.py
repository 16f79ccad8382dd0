"""Short numbers, written and read, and the reader that goes through octets from their beginning."""

# No number of a book needs more octets, and a longer row is refused without reading on.
LONGEST_SHORT = 10


class WrongPage(Exception):
    """What is read isn't just as it would have been written."""


def write_short(number):
    """The octets of a short number: seven bits each, the lowest first."""
    octets = []
    rest = number
    while rest > 127:
        octets.append(rest % 128 + 128)
        rest = rest // 128
    octets.append(rest)
    return octets


class Reader:
    """Takes octets one behind another; raises WrongPage where they don't suffice."""

    def __init__(self, octets):
        self.octets = octets
        self.place = 0

    def is_done(self):
        return self.place == len(self.octets)

    def take_octets(self, count):
        behind = self.place + count
        if behind > len(self.octets):
            raise WrongPage()
        taken = self.octets[self.place:behind]
        self.place = behind
        return taken

    def take_short(self, highest):
        """A short number from 0 to highest, written as short as can be."""
        number = 0
        weight = 1
        for step in range(LONGEST_SHORT):
            octet = self.take_octets(1)[0]
            number += octet % 128 * weight
            weight *= 128
            if octet < 128:
                # A last octet of 0 behind others adds nothing: a shorter row tells the same.
                if number > highest or (octet == 0 and step > 0):
                    raise WrongPage()
                return number
        raise WrongPage()

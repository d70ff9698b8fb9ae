"""Bounds for all values where a part alone was kept."""

from latewood.errors import NoDealing, NoPlace
from latewood.pieces import is_whole


class Values:
    """Values of which some were kept, and the others, so many, are from low to high and come to a total."""

    def __init__(self, kept, many, low, high, total):
        self.kept = kept
        self.many = many
        self.low = low
        self.high = high
        self.total = total

    def turned(self):
        """Tell these values with all signs turned, so that the greatest come to be the least."""
        total = None if self.total is None else -self.total
        return Values([-value for value in self.kept], self.many, -self.high, -self.low, total)

    def in_all(self):
        """Tell how many values there are."""
        return len(self.kept) + self.many

    def has_dealing(self):
        """Tell whether there is a dealing."""
        return self.total is None or self.many * self.low <= self.total <= self.many * self.high

    def least_total(self):
        """Tell to what the values that weren't kept come, or the least of it where that is open."""
        return self.many * self.low if self.total is None else self.total

    def most_dealt(self, number):
        """Tell how many of the values that weren't kept can be at most no greater than a number."""
        if number >= self.high:
            return self.many
        if number < self.low:
            return 0
        # Each of these falls short of high by so much at least, all together by no more than what lacks.
        return min(self.many, (self.many * self.high - self.least_total()) // (self.high - number))

    def most_under(self, number):
        """Tell how many of all values can be at most no greater than a number."""
        return self.most_dealt(number) + len([value for value in self.kept if value <= number])

    def dealing_under(self, number):
        """Tell a dealing by which as many as can be are no greater than a number."""
        under = self.most_dealt(number)
        lacks = self.least_total() - self.many * self.low
        dealing = []
        # The greatest are dealt first and each as great as it may be, so what is dealt falls.
        for at in range(self.many):
            end = self.high if at < self.many - under else min(number, self.high)
            dealing.append(self.low + min(lacks, end - self.low))
            lacks -= dealing[-1] - self.low
        return dealing[::-1]

    def least_at(self, place):
        """Tell the least that the value at a place, of all sorted, can be."""
        least = min(self.kept + [self.low])
        most = max(self.kept + [self.high])
        # The value at the place can be no greater than a number just where so many values can, and one more.
        while least < most:
            middle = (least + most) // 2
            if self.most_under(middle) > place:
                most = middle
            else:
                least = middle + 1
        return least


def place_bounds(kept, many, low, high, total, place):
    """Tell (least, most) that the value at a place, of all sorted, can be."""
    values = values_with_place(kept, many, low, high, total, place)
    back = values.in_all() - 1 - place
    return (values.least_at(place), -values.turned().least_at(back))


def place_dealing(kept, many, low, high, total, place, greatest=False):
    """Tell a dealing by which the value at a place is the least, or the greatest, that it can be."""
    values = values_with_place(kept, many, low, high, total, place)
    if greatest:
        turned = values.turned()
        return turned_dealing(turned, turned.least_at(values.in_all() - 1 - place))
    return values.dealing_under(values.least_at(place))


def over_bounds(kept, many, low, high, total, number):
    """Tell (least, most) of how many of all values can be no less than a number."""
    values = values_dealt(kept, many, low, high, total)
    return (values.in_all() - values.most_under(number - 1), values.turned().most_under(-number))


def over_dealing(kept, many, low, high, total, number, greatest=False):
    """Tell a dealing by which the least, or the most, of all values are no less than a number."""
    values = values_dealt(kept, many, low, high, total)
    if greatest:
        return turned_dealing(values.turned(), -number)
    return values.dealing_under(number - 1)


def values_dealt(kept, many, low, high, total):
    """Tell the values, or refuse them with NoDealing where there is no dealing."""
    values = Values(kept, many, low, high, total)
    if not values.has_dealing():
        raise NoDealing("no such values come to the total")
    return values


def values_with_place(kept, many, low, high, total, place):
    """Tell the values, or refuse with NoPlace what is no place of theirs, then with NoDealing."""
    if not is_whole(place) or not 0 <= place < len(kept) + many:
        raise NoPlace("the values have no such place")
    return values_dealt(kept, many, low, high, total)


def turned_dealing(turned, number):
    """Tell a dealing of values handed in turned, by which as many as can be are no greater than a number."""
    return [-value for value in turned.dealing_under(number)[::-1]]

"""Ways among marks: whether they touch one, and their strings.

The hanging lines are a list of pairs, a mark's letter (going east) and the mark, in the order in which
a step that goes east comes to them.
"""

from racelogs.places import cross, is_on_straight, vector


def hanging_lines(marks):
    numbered = [(marks[k][0], k + 1, marks[k]) for k in range(len(marks))]
    return [(letter, mark) for x, letter, mark in sorted(numbered)]


def step_touches(hanging, c, d):
    west = min(c[0], d[0])
    east = max(c[0], d[0])
    # Few marks lie between the step's ends: that is asked first, as it is quick.
    return any([is_on_straight(mark, c, d) for letter, mark in hanging if west <= mark[0] <= east])


def letters_to_the_east(hanging, west, east):
    step = vector(west, east)
    # Looking east a mark that the step passes below is on the left.
    return [
        letter for letter, mark in hanging
        if west[0] < mark[0] <= east[0] and cross(step, vector(west, mark)) > 0]


def letters_of_step(hanging, c, d):
    if c[0] < d[0]:
        return letters_to_the_east(hanging, c, d)
    return [-letter for letter in reversed(letters_to_the_east(hanging, d, c))]


# A way that grows place by place; only its string is kept, and the place it has come to.
class Way:
    def __init__(self, hanging, first):
        self.hanging = hanging
        self.string = []
        self.last_place = first
        self.is_free = True

    def go_to(self, place):
        if step_touches(self.hanging, self.last_place, place):
            self.is_free = False
        for letter in letters_of_step(self.hanging, self.last_place, place):
            self.take_letter(letter)
        self.last_place = place

    def take_letter(self, letter):
        # The string has no two letters to take out, so only the last can go with the new one.
        if self.string[-1:] == [-letter]:
            self.string.pop()
        else:
            self.string.append(letter)

    # Another way: this one, and one place behind it.
    def with_end(self, place):
        longer = Way(self.hanging, self.last_place)
        longer.string = list(self.string)
        longer.is_free = self.is_free
        longer.go_to(place)
        return longer

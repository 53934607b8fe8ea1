"""Standing: what stands in the fields of a sheet, and which numbers its empty fields can have."""

from bedsheet.boards import groups_of, refuse_no_sheet


def groups_at(high, wide, place):
    size = high * wide
    row = place // size
    column = place % size
    box = row // high * high + column // wide
    return [row, size + column, 2 * size + box]


class State:
    def __init__(self, high, wide, sheet):
        refuse_no_sheet(high, wide, sheet)
        self.high = high
        self.wide = wide
        self.groups = groups_of(high, wide)
        self.numbers = list(sheet)
        # Empty fields alone are keys here, so that any other whole number as a place is simply not found.
        self.can = {}
        for place, number in enumerate(sheet):
            if number == 0:
                self.can[place] = self.numbers_for(place)

    def numbers_for(self, place):
        seen = {}
        for group in groups_at(self.high, self.wide, place):
            for field in self.groups[group]:
                seen[self.numbers[field]] = True
        return [number for number in range(1, self.high * self.wide + 1) if number not in seen]

    def put(self, place, number):
        self.numbers[place] = number
        self.can.pop(place)
        for group in groups_at(self.high, self.wide, place):
            for field in self.groups[group]:
                if number in self.can.get(field, []):
                    self.can[field] = [other for other in self.can[field] if other != number]

    def behind(self, place, number):
        state = State(self.high, self.wide, self.numbers)
        state.put(place, number)
        return state

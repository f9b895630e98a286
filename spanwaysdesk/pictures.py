"""The first list of spans that lie as they may, its numbers from 0 up and none left out."""

from spanwaysdesk.ways import spans_within, ways_among


# Sets of numbers are told by bits here: at each, how many below its greatest it leaves out.
def left_out_by_numbers(last):
    table = [0]
    for numbers in range(1, 1 << (last + 1)):
        table.append(table[numbers >> 1] + 1 - (numbers & 1))
    return table


# The spans' ends are twice as many as they, so numbers with none left out stay below that.
class ListSearch:
    def __init__(self, count, sets):
        last = 2 * count - 1
        self.sets = sets
        self.spans = spans_within(last)
        self.rows = ways_among(self.spans)
        self.marks = [(1 << begin) | (1 << end) for begin, end in self.spans]
        self.left_out = left_out_by_numbers(last)

    # What the spans behind the chosen one may still be, once that one is there.
    def narrowed(self, chosen, number, choices):
        row = self.rows[chosen]
        later = []
        for step in range(1, len(choices)):
            ways = self.sets[(number, number + step)]
            later.append([span for span in choices[step] if (ways >> row[span]) & 1])
        return later

    # Choices are tried in the spans' order, so the first list that is found is the first of all.
    # A span to come fills two numbers at most: where more are left out, none can fill them.
    def grown(self, taken, choices, numbers):
        if not choices:
            return taken
        for span in choices[0]:
            marked = numbers | self.marks[span]
            if self.left_out[marked] > 2 * (len(choices) - 1):
                continue
            later = self.narrowed(span, len(taken), choices)
            if [] in later:
                continue
            found = self.grown(taken + [span], later, marked)
            if found:
                return found
        return []


# Spans must be there that lie as they may.
def first_list(count, sets):
    search = ListSearch(count, sets)
    choices = [list(range(len(search.spans))) for number in range(count)]
    return [search.spans[place] for place in search.grown([], choices, 0)]

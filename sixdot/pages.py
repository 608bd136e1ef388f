"""Where pages may end, the pages of least cost, and prices that show that no pages cost less."""

from sixdot.errors import NoLayout


def may_part(block, many, done):
    """Returns True if a page may end behind so many of the lines of a block, when further lines of the book follow."""
    if block[0] == "head":
        return False
    # Neither the first line of a block nor its last one is left alone.
    return done == many or 1 < done < many - 1


def parting_places(blocks, lines):
    """Returns a list that has, for each line and for the end, True if a page may end ahead of it."""
    places = [False]
    for block, many in zip(blocks, lines):
        places.extend([may_part(block, many, done) for done in range(1, many + 1)])
    # Behind the last line of the book nothing is parted, not even a head from what follows it.
    places[-1] = True
    return places


def may_end(blocks, lines, at):
    """Returns True if a page may end ahead of the line with the number `at`."""
    found = parting_places(blocks, lines)
    return 0 <= at < len(found) and found[at]


class Pages:
    """The pages that may be for the lines of a book; a page is told by its first line and the line behind it."""

    def __init__(self, height, blocks, lines):
        self.most = height - 1
        self.parting = parting_places(blocks, lines)
        self.total = len(self.parting) - 1
        self.behind_stops = {}
        at = 0
        for block, many in zip(blocks, lines):
            # A number below 0 adds no lines, as little as 0 does.
            at += max(many, 0)
            if block[0] == "break":
                self.behind_stops[at] = True

    def ends_from(self, begin):
        """Returns the ascending list of the ends of the pages that may be and begin with a line."""
        found = []
        for end in range(begin + 1, min(begin + self.most, self.total) + 1):
            if self.parting[end]:
                found.append(end)
            if end in self.behind_stops:
                break
        return found

    def cost(self, begin, end):
        """Returns the cost of a page."""
        if end in self.behind_stops or end == self.total:
            return 0
        return (self.most - (end - begin)) ** 2

    def last_beginning(self):
        """Returns the greatest number of a line at which a page can begin, behind any pages that may be."""
        reached = {0: True}
        for begin in range(self.total):
            if begin in reached:
                for end in self.ends_from(begin):
                    reached[end] = True
        return max(list(reached))

    def least_costs(self):
        """Returns the list of the least costs of pages from each line on, and from the end.

        A line from which no pages lead to the end has a number above the cost of any pages.
        """
        endless = self.most ** 2 * self.total + 1
        least = [0] * (self.total + 1)
        for begin in range(self.total - 1, -1, -1):
            costs = [self.cost(begin, end) + least[end] for end in self.ends_from(begin)]
            least[begin] = min(costs + [endless])
        if least[0] == endless:
            raise NoLayout(self.last_beginning())
        return least

    def are_all(self, ends):
        """Returns True if these are the ends of pages that may be, and that have all lines of the book."""
        begin = 0
        for end in ends:
            if end not in self.ends_from(begin):
                return False
            begin = end
        return begin == self.total


def page_ends(height, blocks, lines):
    """Returns the list of the ends of the pages with the least sum of costs, each the number of the line behind it."""
    pages = Pages(height, blocks, lines)
    least = pages.least_costs()
    ends = []
    begin = 0
    while begin < pages.total:
        found = [end for end in pages.ends_from(begin) if pages.cost(begin, end) + least[end] == least[begin]]
        # Among equal ways the page has the most lines.
        begin = found[-1]
        ends.append(begin)
    return ends


def make_prices(height, blocks, lines):
    """Returns prices that are accepted for the pages of least cost."""
    return Pages(height, blocks, lines).least_costs()


def are_low(pages, prices):
    """Returns True if the price of each line is low enough for all pages that may be and begin with it."""
    for begin in range(pages.total):
        for end in pages.ends_from(begin):
            if prices[begin] > pages.cost(begin, end) + prices[end]:
                return False
    return True


def are_reached(pages, ends, prices):
    """Returns True if each of the pages costs as much as the prices of its beginning and its end differ."""
    begins = [0] + ends[:-1]
    return all([prices[begin] == pages.cost(begin, end) + prices[end] for begin, end in zip(begins, ends)])


def accepts_prices(height, blocks, lines, ends, prices):
    """Returns True if the prices are accepted for the pages that the list of ends tells."""
    pages = Pages(height, blocks, lines)
    return (
        len(prices) == pages.total + 1
        and prices[-1] == 0
        and pages.are_all(ends)
        and are_low(pages, prices)
        and are_reached(pages, ends, prices)
    )

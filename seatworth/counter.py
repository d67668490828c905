"""A counter that sells the seats of a sale as the asks come."""

from seatworth.errors import Nothing, Over
from seatworth.fractions import added
from seatworth.marks import opened
from seatworth.sales import need_class, need_sale
from seatworth.worths import worth


class Counter:
    """A counter of a sale: what came so far, and what is left and earned ahead of and behind each period of that."""

    def __init__(self, sale):
        need_sale(sale)
        self.sale = sale
        self.past = []
        self.stands = [(sale[0], 0)]

    def ask(self, number):
        """In the next period an ask of the class comes; tell whether it was sold: it is where the class is open."""
        need_class(self.sale, number)
        self.need_period()
        seats, periods, cases, classes = self.sale
        fare, share, size = classes[number]
        sold = self.left() in opened(self.sale, number, self.time())
        self.pass_period(number, size if sold else 0, fare if sold else 0)
        return sold

    def none(self):
        """In the next period no ask comes."""
        self.need_period()
        self.pass_period(None, 0, 0)

    def undo(self):
        """Undo the last ask or none that stands."""
        if len(self.past) == 0:
            raise Nothing("nothing came that could be undone")
        self.past.pop()
        self.stands.pop()

    def left(self):
        """Tell how many seats are left."""
        return self.stands[-1][0]

    def time(self):
        """Tell how many periods are to come."""
        return self.sale[1] - len(self.past)

    def earned(self):
        """Tell what is earned."""
        return self.stands[-1][1]

    def came(self):
        """Tell what came so far, a new list of numbers of classes and None."""
        return list(self.past)

    def worth_now(self):
        """Tell what is earned and the worth of what is left, together."""
        return added((self.earned(), 1), worth(self.sale, self.time(), self.left()))

    def twin(self):
        """Tell another counter at which the same came, and can be undone."""
        other = Counter(self.sale)
        other.past = list(self.past)
        other.stands = list(self.stands)
        return other

    def need_period(self):
        """Refuse where no period is to come."""
        if self.time() == 0:
            raise Over("no period is to come")

    def pass_period(self, number, size, fare):
        """Let a period go by in which this comes, and so many seats are sold for the fare."""
        self.past.append(number)
        self.stands.append((self.left() - size, self.earned() + fare))

    def __len__(self):
        return len(self.past)

    def __eq__(self, other):
        return isinstance(other, Counter) and self.sale == other.sale and self.past == other.past

    def __repr__(self):
        return f"Counter({self.left()} left, {self.time()} to come, {self.earned()} earned)"

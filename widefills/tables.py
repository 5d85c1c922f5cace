"""Tables: the classes of words that machines lead alike from each of their states."""

from widefills.basics import is_below, is_listing
from widefills.errors import InvalidClass, InvalidMachines, InvalidPosition, InvalidTable
from widefills.least import explored, first_words_to
from widefills.machines import Machine, check_like_letters, led_to
from widefills.words import SIGNS, check_word

MOST_MACHINES = 3
MOST_CLASSES = 24


class Table:
    """One to three machines, and the classes of words that they tell apart.

    class_steps are, for each class, the classes of its words with one letter more; products those of two classes.
    """

    def __init__(self, machines):
        check_machines(machines)
        self._machines = tuple(machines)
        self._letters = machines[0].letters
        self.class_steps = classes_of(self._machines)
        self._words = first_words_to(self.class_steps)
        self.products = [[class_behind(self.class_steps, one, word) for word in self._words]
                         for one in range(len(self._words))]

    @property
    def letters(self):
        """How many letters the machines have."""
        return self._letters

    @property
    def classes(self):
        """How many classes there are."""
        return len(self._words)

    def machines(self):
        """The list of the machines."""
        return list(self._machines)

    def words(self):
        """The list of the first words, by classes."""
        return list(self._words)

    def __eq__(self, other):
        return isinstance(other, Table) and self._machines == other._machines


def check_machines(machines):
    """Raise unless this is a list of 1 to 3 Machines with as many letters."""
    if not is_listing(machines) or not 1 <= len(machines) <= MOST_MACHINES:
        raise InvalidMachines(machines)
    if not all([isinstance(machine, Machine) for machine in machines]):
        raise InvalidMachines(machines)
    for machine in machines:
        check_like_letters(machines[0], machine)


def classes_of(machines):
    """For each class the classes of its words with one letter more: TooMany if there are too many classes."""
    # All states of all machines stand in one row; a class is told by where it leads each of them.
    rows = []
    for machine in machines:
        shift = len(rows)
        rows = rows + [[shift + after for after in row] for row in machine.steps()]

    def lead(places, letter):
        return tuple([rows[place][letter] for place in places])

    _, steps = explored(tuple(range(len(rows))), machines[0].letters, lead, "classes", MOST_CLASSES)
    return steps


def class_behind(class_steps, one, word):
    """The class of the words of a class with a word behind."""
    for sign in word:
        one = class_steps[one][SIGNS.index(sign)]
    return one


def check_table(table):
    """Raise unless this is a Table."""
    if not isinstance(table, Table):
        raise InvalidTable(table)


def check_position(table, position):
    """Raise unless this is a position of a machine of the table."""
    if not is_below(position, len(table.machines())):
        raise InvalidPosition(position)


def check_class(table, one):
    """Raise unless this is a class of the table."""
    if not is_below(one, table.classes):
        raise InvalidClass(one)


def class_of(table, word):
    """The class of the word."""
    check_table(table)
    check_word(table.letters, word)
    return class_behind(table.class_steps, 0, word)


def product(table, one, other):
    """The class of the words of one class, followed by words of the other one."""
    check_table(table)
    check_class(table, one)
    check_class(table, other)
    return table.products[one][other]


def passed(table, position):
    """The lot of the classes with a word that the machine at the position lets."""
    check_table(table)
    check_position(table, position)
    machine = table.machines()[position]
    ends = machine.ends()
    return [one for one, word in enumerate(table.words()) if led_to(machine, word) in ends]

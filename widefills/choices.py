"""The search for all greatest right fillings, with lots of classes and whole fillings as integers.

A CHOICE is a name and a class for it; a filling is an integer, its WHOLE, with a bit for each choice.
"""

from widefills.errors import TooMany
from widefills.fillings import lot_of, mask_of, masks_of
from widefills.tables import class_behind, passed

MOST_CHOICES = 24
MOST_FILLINGS = 60


class Choices:
    """Which fillings of so many names by lots of a table are right for sayings, and which of them are greatest.

    What was found out stays known: what is made of masks, which wholes are right, and the greatest ones so far.
    """

    def __init__(self, table, many, sayings):
        self._table = table
        self._many = many
        self._patterns = [pattern for pattern, _ in sayings]
        self._lets = [mask_of(passed(table, position)) for _, position in sayings]
        self._behinds = {}
        self._rights = {}
        self._greatest = []

    def everything(self):
        """The whole of the filling by all classes."""
        return (1 << (self._many * self._table.classes)) - 1

    def behind_masks(self, near, far):
        """The mask of the products of classes of two masks."""
        if (near, far) not in self._behinds:
            products, found, others = self._table.products, 0, lot_of(far)
            for one in lot_of(near):
                row = products[one]
                for other in others:
                    found |= 1 << row[other]
            self._behinds[near, far] = found
        return self._behinds[near, far]

    def rounds_mask(self, mask):
        """The mask of the class 0 and all products of classes of the mask."""
        found, grown = 0, 1
        while found != grown:
            found = grown
            grown |= self.behind_masks(found, mask)
        return found

    def made_mask(self, pattern, masks):
        """The mask of the classes of what the pattern makes."""
        kind = pattern[0]
        if kind == "word":
            return 1 << class_behind(self._table.class_steps, 0, pattern[1])
        if kind == "name":
            return masks[pattern[1]]
        near = self.made_mask(pattern[1], masks)
        if kind == "round":
            return self.rounds_mask(near)
        far = self.made_mask(pattern[2], masks)
        return near | far if kind == "either" else self.behind_masks(near, far)

    def is_right(self, whole):
        """Whether all that is made of the filling is let."""
        if whole not in self._rights:
            masks = masks_of(whole, self._many, self._table.classes)
            self._rights[whole] = all([not self.made_mask(pattern, masks) & ~let
                                       for pattern, let in zip(self._patterns, self._lets)])
        return self._rights[whole]

    def grown(self, whole, within):
        """A right filling, with as many choices put in, of those within, as can be."""
        for choice in lot_of(within):
            if self.is_right(whole | (1 << choice)):
                whole |= 1 << choice
        return whole

    def is_greatest(self, whole):
        """Whether the filling is right, and no choice can be put in."""
        return self.is_right(whole) and self.grown(whole, self.everything()) == whole

    def all_greatest(self, within):
        """All greatest ones of the right fillings within this one: TooMany("fillings", 60)."""
        self._greatest = []
        if self.is_right(0):
            self.search(0, lot_of(within), within)
        return self._greatest

    def search(self, whole, choices, within):
        """Find all greatest ones that hold this right filling, and further ones of the choices alone."""
        able = [choice for choice in choices if self.is_right(whole | (1 << choice))]
        asked = self.fewest_beyond(whole, able)
        if asked is None:
            # It lies within none that is known: so what it grows to is a new one.
            self._greatest.append(self.grown(whole, within))
            if len(self._greatest) > MOST_FILLINGS:
                raise TooMany("fillings", MOST_FILLINGS)
            asked = self.fewest_beyond(whole, able)
        for choice in asked:
            self.search(whole | (1 << choice), able, within)
            # All greatest ones with this choice are known now.
            able = [other for other in able if other != choice]

    def fewest_beyond(self, whole, able):
        """Choices of which each further greatest one has one: those beyond a known one that holds the filling.

        The fewest of them; None if no known one holds the filling.
        """
        fewest = None
        for known in self._greatest:
            if whole & ~known == 0:
                beyond = [choice for choice in able if not (known >> choice) & 1]
                if fewest is None or len(beyond) < len(fewest):
                    fewest = beyond
        return fewest

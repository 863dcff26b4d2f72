"""Which nodes stand for the same tree."""


class Groups:
    """Nodes in groups, which are split until each group stands for one tree.

    At first the nodes that look alike are together. A group that is due is
    the reason to split each group in which some nodes have a part in it, and
    others have none there. Of two halves only the smaller one becomes due, as
    the larger one then tells nothing new; so n nodes take n log n steps.
    """

    def __init__(self, looks, parts):
        self.group_of = []
        self._members = []
        self._wholes = [[] for _ in looks]
        numbers = {}
        for k, look in enumerate(looks):
            group = numbers.setdefault(look, len(numbers))
            if group == len(self._members):
                self._members.append({})
            self._members[group][k] = True
            self.group_of.append(group)
        for whole, row in enumerate(parts):
            for place, part in enumerate(row):
                self._wholes[part].append((place, whole))
        self._due = list(range(len(self._members)))

    def refine(self):
        """Splits groups until none is due."""
        while self._due:
            group = self._due.pop()
            for wholes in self._wholes_by_place(group):
                self._split_by(wholes)

    def _wholes_by_place(self, group):
        by_place = {}
        for part in self._members[group]:
            for place, whole in self._wholes[part]:
                by_place.setdefault(place, []).append(whole)
        return list(by_place.values())

    def _split_by(self, wholes):
        by_group = {}
        for whole in wholes:
            by_group.setdefault(self.group_of[whole], {})[whole] = True
        for group, found in by_group.items():
            if len(found) < len(self._members[group]):
                self._split(group, found)

    def _split(self, group, found):
        rest = self._members[group]
        for k in found:
            del rest[k]
        small, large = (found, rest) if len(found) < len(rest) else (rest, found)
        new = len(self._members)
        self._members[group] = large
        self._members.append(small)
        for k in small:
            self.group_of[k] = new
        self._due.append(new)


def grouped(looks, parts):
    """Returns the list of the groups of nodes, which two nodes share exactly if they stand for the same tree.

    `looks` has for each node what it is, apart from its parts (a key), and
    `parts` the list or tuple of its parts; nodes that look alike have equally many.
    """
    groups = Groups(looks, parts)
    groups.refine()
    return groups.group_of

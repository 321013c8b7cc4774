"""Proofs that worths are like by some facts: the entries of papers, and the lemmas on which they lean."""

from lawsleft.completion import Making, needed_lemmas, renumbered, turned_about
from lawsleft.normals import done_together, normal_and_turns


class Proofs:
    """Paths by some facts, and by lemmas, that lead counts to their normals."""

    def __init__(self, ground, given):
        self.making = Making(ground, given)
        self.row_made, self.shown_by = self.making.finished()
        self.found = {}

    def normal_and_path(self, worth):
        """Return the normal of a worth, and a path that leads there."""
        if worth not in self.found:
            end, turns = normal_and_turns(self.row_made, worth)
            path = []
            for steps, times in turns:
                path.extend(self.path_of_turn(steps, times))
            self.found[worth] = (end, tuple(path))
        return self.found[worth]

    def path_of_turn(self, steps, times):
        """Return the path that does such steps so often, by a lemma if that is more than once."""
        path = tuple([(self.shown_by[index], 1, often) for index, often in steps])
        if times == 1:
            return path
        left, right = done_together(self.row_made, steps)
        return ((self.making.show(left, right, path), 1, times),)

    def entry(self, v, w):
        """Return the entry that tells why two worths are like."""
        one, to_one = self.normal_and_path(v)
        _, to_two = self.normal_and_path(w)
        if one is None:
            return ("all", to_one, to_two)
        return ("like", to_one + turned_about(to_two))

    def with_lemmas(self, entries):
        """Return only the lemmas on which some entries lean, and these entries with the numbers that are then right."""
        numbers = [step[0] for entry in entries for path in entry[1:] for step in path]
        lemmas, new = needed_lemmas(self.making.many_facts, self.making.lemmas, numbers)
        return lemmas, tuple([renumbered_entry(entry, new) for entry in entries])


def renumbered_entry(entry, new):
    """Return an entry whose steps have new numbers, which are told by the old ones."""
    return entry[:1] + tuple([renumbered(path, new) for path in entry[1:]])

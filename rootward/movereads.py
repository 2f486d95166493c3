"""What some moves make of all names, each read from its last label on.

A name is read label by label into a word, the end of it that is read and not moved yet. As long as the word with the
next label is at the end of a move's name, it is read on. Otherwise the tree with the most labels at the word's end, if
there is one, moves the name, and what stands instead of the word, and the next label, is read anew. So a word and a
next label have a fate: another word, with that label read, too; or the end of the chase; or a ring; or growth. As long
as there are labels that are not read, no alias moves the name, but the one that has all of them."""

# Stands for all labels that are in no move's name; no name that is moved has it.
OTHER = "*"
READ = "read"
ENDED = "ended"
RING = "ring"
GROWS = "grows"


class Frame:
    """What is read anew of one word and label: a text of labels, of which so many are left."""

    def __init__(self, key, labels):
        self.key = key
        self.labels = labels
        self.left = len(labels)
        self.word = ()
        # To get here the name was moved once.
        self.steps = 1


class Reading:
    """The fates of all words and labels: tuples (what, word, steps), the word for READ and ENDED alone."""

    def __init__(self, book):
        self.book = book
        self.words = _ends_of(list(book.alias_targets) + list(book.tree_targets))
        self.signs = {label: True for word in self.words for label in word}
        self.signs[OTHER] = True
        self.owners = {word: _owner(book, word) for word in self.words}
        self.fates = {}
        # The keys of the fates, those ahead on which the others hang; keys that hang on one another together.
        self.groups = []
        for word in self.words:
            for sign in self.signs:
                if self.fate(word, sign) is None:
                    self.settle((word, sign))
        # How the chases of the words themselves end.
        self.ends = {word: self.end(word) for word in self.words}

    def sign(self, label):
        """Return what stands for a label."""
        return label if label in self.signs else OTHER

    def fate(self, word, label):
        """Return the fate of a word and a label, None if it is not known yet."""
        if (label,) + word in self.owners:
            return (READ, (label,) + word, 0)
        if self.owners[word] is None:
            return (ENDED, (label,) + word, 0)
        found = self.fates.get((word, self.sign(label)))
        if found is not None and found[0] == ENDED and found[1][0] == OTHER:
            return (ENDED, (label,) + found[1][1:], found[2])
        return found

    def anew(self, word, label):
        """Return the labels that are read anew behind a word and a label."""
        owner = self.owners[word]
        return (label,) + word[:len(word) - len(owner)] + self.book.tree_targets[owner]

    def settle(self, key):
        """Find the fate of a word and a label, and all those on which it hangs."""
        frames = [Frame(key, self.anew(key[0], key[1]))]
        while len(frames) > 0:
            frame = frames[-1]
            if frame.left == 0:
                self.close(frames, (READ, frame.word, frame.steps))
                continue
            label = frame.labels[frame.left - 1]
            found = self.fate(frame.word, label)
            if found is None:
                self.enter(frames, (frame.word, self.sign(label)))
            elif found[0] == READ:
                frame.left = frame.left - 1
                frame.word = found[1]
                frame.steps = frame.steps + found[2]
            elif found[0] == ENDED:
                self.close(frames, (ENDED, frame.labels[:frame.left - 1] + found[1], frame.steps + found[2]))
            else:
                self.close(frames, found)

    def close(self, frames, fate):
        """Note the fate of the last one of some frames."""
        key = frames.pop().key
        self.fates[key] = fate
        self.groups.append([key])

    def enter(self, frames, key):
        """Begin with a word and a label on which the last frame hangs; none of the frames ends if they hang on it."""
        keys = [frame.key for frame in frames]
        if key not in keys:
            frames.append(Frame(key, self.anew(key[0], key[1])))
            return
        start = keys.index(key)
        # The name comes again if nothing is left behind what is read again.
        what = RING if all([frame.left == 1 for frame in frames[start:]]) else GROWS
        for one in keys:
            self.fates[one] = (what, None, 0)
        self.groups.append(keys[start:])
        self.groups.extend([[one] for one in keys[:start][::-1]])
        frames.clear()

    def read(self, name):
        """Return the fate of a name, all of its labels being read."""
        word, steps = (), 0
        for many in range(len(name), 0, -1):
            what, found, more = self.fate(word, name[many - 1])
            steps = steps + more
            if what == ENDED:
                return (ENDED, name[:many - 1] + found, steps)
            if what != READ:
                return (what, None, 0)
            word = found
        return (READ, word, steps)

    def end(self, name):
        """Return the fate of a name of which there are no more labels: it is no READ."""
        seen = {}
        steps = 0
        while True:
            what, word, more = self.read(name)
            steps = steps + more
            if what != READ:
                return (what, word, steps)
            if word in seen:
                return (RING, None, 0)
            seen[word] = True
            name = self.book.moved(word)
            if name is None:
                return (ENDED, word, steps)
            steps = steps + 1


def _ends_of(names):
    """Return all ends of some names, each once, the root ahead of all."""
    ends = {(): True}
    for name in names:
        for many in range(len(name) + 1):
            ends[name[len(name) - many:]] = True
    return list(ends)


def _owner(book, word):
    """Return the tree that moves a name behind whose word there is another label, None if there is none."""
    return word if word in book.tree_targets else book.tree_above(word)

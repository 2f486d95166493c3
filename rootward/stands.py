"""Stands of a net of seconds: which serials its nodes have, and where rows of moves lead from there."""

from rootward.serials import newer


class Stands:
    """The stands to which moves lead; one is told as a tuple of the serials of the nodes, ascending, and the first."""

    def __init__(self, seconds, serial, stand):
        self._nodes = sorted(seconds)
        self._start = tuple([stand[node] for node in self._nodes] + [serial])
        # The first stands behind all nodes.
        places = {up: place for place, up in enumerate(self._nodes + [None])}
        self._ups = [[(up, places[up]) for up in seconds[node][1]] for node in self._nodes]
        serials = sorted({one: True for one in self._start})
        self._newer = {(one, other): True for one in serials for other in serials if newer(one, other)}
        self.many = 1
        for _ in self._nodes:
            self.many *= len(serials)

    def moves(self):
        """Return the moves from the stand at first, in order."""
        return [(node, up) for at, node in enumerate(self._nodes) for up, place in self._ups[at]
                if (self._start[place], self._start[at]) in self._newer]

    def _steps(self, state):
        """Return the tuples (move, stand behind it) of a stand, one for each stand behind a move."""
        found = []
        for at, node in enumerate(self._nodes):
            got = {state[at]: True}
            for up, place in self._ups[at]:
                serial = state[place]
                if serial not in got and (serial, state[at]) in self._newer:
                    got[serial] = True
                    found.append(((node, up), state[:at] + (serial,) + state[at + 1:]))
        return found

    def settled(self):
        """Return the settled stands to which rows of moves lead, each as a list of tuples (node, serial), in order."""
        seen = {self._start: True}
        states, found = [self._start], []
        while len(states) > 0:
            state = states.pop()
            steps = self._steps(state)
            if len(steps) == 0:
                found.append(state)
            for _, onward in steps:
                if onward not in seen:
                    seen[onward] = True
                    states.append(onward)
        return [list(zip(self._nodes, state)) for state in sorted(found)]

    def endless(self):
        """Return moves to a stand and those of a ring from there back to it; None if each row of moves ends."""
        on_way, ended = {self._start: 0}, {}
        rows, moves = [(self._start, self._steps(self._start))], []
        while len(rows) > 0:
            state, steps = rows[-1]
            if len(steps) == 0:
                rows.pop()
                if len(moves) > 0:
                    moves.pop()
                del on_way[state]
                ended[state] = True
                continue
            move, onward = steps.pop()
            if onward in on_way:
                return (moves[:on_way[onward]], moves[on_way[onward]:] + [move])
            if onward not in ended:
                on_way[onward] = len(rows)
                rows.append((onward, self._steps(onward)))
                moves.append(move)
        return None

    def behind(self, moves):
        """Return the stands ahead of and behind each of some moves, None if one of them is not there."""
        state = self._start
        found = [state]
        for node, up in moves:
            at = self._nodes.index(node)
            serial = state[-1] if up is None else state[self._nodes.index(up)]
            if (serial, state[at]) not in self._newer:
                return None
            state = state[:at] + (serial,) + state[at + 1:]
            found.append(state)
        return found

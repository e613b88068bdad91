"""A bench on which units come and go."""

from linkneed.basing import need_of
from linkneed.benchstates import has_unit, state_behind
from linkneed.bundling import bundle
from linkneed.changes import changes_between
from linkneed.compiling import compile_unit
from linkneed.errors import InvalidEvent, Missing, NothingToUndo, NotUsable, Twice, Unlike
from linkneed.kinds import is_number, is_size
from linkneed.linking import link
from linkneed.objectsheets import sheets_of_object
from linkneed.passes import are_passes
from linkneed.rowruns import run_linked
from linkneed.unittexts import unit_text


class LiveBench:
    """Units with unlike titles, names of passes and a size, changed by events that can be taken back."""

    def __init__(self, registers, names):
        if not is_size(registers):
            raise NotUsable("registers", -1)
        if not are_passes(names):
            raise NotUsable("names", -1)
        self.first_size = registers
        self.first_names = names
        # The events done and not taken back, and the states ahead of each of them.
        self.events_kept = []
        self.states_kept = []
        self.units_kept = ()
        self.names_kept = names
        self.size_kept = registers
        self.objects = {}
        self.many_done = 0
        self.many_refused = 0
        self.many_undone = 0
        self.many_compiled = 0

    @property
    def units_now(self):
        """The units, ascending."""
        return self.units_kept

    @property
    def passes_now(self):
        """The names of passes."""
        return self.names_kept

    @property
    def registers_now(self):
        """The size."""
        return self.size_kept

    @property
    def log(self):
        """The size and names as first given, and the events done and not taken back."""
        return (self.first_size, self.first_names, tuple(self.events_kept))

    @property
    def tally(self):
        """How many events were done, refused, taken back."""
        return (self.many_done, self.many_refused, self.many_undone)

    @property
    def compiled(self):
        """How many functions have been compiled."""
        return self.many_compiled

    def __len__(self):
        return len(self.units_kept)

    def __iter__(self):
        return iter(self.units_kept)

    def __contains__(self, thing):
        return has_unit(self.units_kept, thing)

    def __eq__(self, other):
        return (isinstance(other, LiveBench) and self.units_kept == other.units_kept
                and self.names_kept == other.names_kept and self.size_kept == other.size_kept)

    def go(self, event):
        """Does the event; what changes, or None if main or a function lacks something ahead or behind."""
        state = self._state_let(event)
        told = self._changes_to(state)
        self._do(event, state)
        return told

    def tried(self, event):
        """What go would return or raise, without doing the event."""
        return self._changes_to(self._state_let(event))

    def undo(self, many=1):
        """Takes back the last many events, and returns them in the order in which they were done."""
        if not is_number(many):
            raise NotUsable("many", -1)
        if many > len(self.events_kept):
            raise NothingToUndo(len(self.events_kept))
        if many == 0:
            return ()
        kept = len(self.events_kept) - many
        undone = tuple(self.events_kept[kept:])
        self._show(self.states_kept[kept])
        self.events_kept = self.events_kept[:kept]
        self.states_kept = self.states_kept[:kept]
        self.many_undone += many
        return undone

    def do_all(self, events, *, keep=False):
        """Does the events in order, and returns how many; a refused one is left out if keep, else ends it all."""
        if not isinstance(events, tuple):
            raise NotUsable("events", -1)
        if not isinstance(keep, bool):
            raise NotUsable("keep", -1)
        done = 0
        for event in events:
            try:
                self._do(event, self._state_let(event))
                done += 1
            except InvalidEvent:
                if not keep:
                    self.undo(done)
                    raise
        return done

    def object_now(self):
        """The bundle of the objects of all units."""
        return self._bundled(self._state())

    def linked_now(self):
        """What link gives for the object and the size."""
        return link(self.object_now(), self.size_kept)

    def run(self, args, most):
        """The outcome of the linked rows."""
        return run_linked(self.linked_now(), args, most)

    def present_need(self):
        """The need, whatever the size."""
        return need_of(sheets_of_object(self.object_now()))

    def unit_of(self, name):
        """The unit of this title."""
        for unit in self.units_kept:
            if unit[0] == name:
                return unit
        raise Missing(name)

    def _state(self):
        return (self.units_kept, self.names_kept, self.size_kept)

    def _show(self, state):
        self.units_kept, self.names_kept, self.size_kept = state

    def _do(self, event, state):
        self.events_kept.append(event)
        self.states_kept.append(self._state())
        self._show(state)
        self.many_done += 1

    def _state_let(self, event):
        # The state that the event would leave; counts what is compiled for it, and a refusal.
        try:
            state = state_behind(self._state(), event)
            self._check_state(event, state)
        except InvalidEvent:
            self.many_refused += 1
            raise
        return state

    def _check_state(self, event, state):
        try:
            self._bundled(state)
        except Twice:
            raise InvalidEvent(event, "twice") from None
        except Unlike:
            raise InvalidEvent(event, "unlike") from None

    def _changes_to(self, state):
        try:
            return changes_between(self.object_now(), self._bundled(state))
        except Missing:
            return None

    def _bundled(self, state):
        return bundle(tuple([self._compiled_unit(unit, state[1]) for unit in state[0]]))

    def _compiled_unit(self, unit, names):
        # A unit's text stands for the unit here, whose tuples may be nested too deep for a key.
        key = (unit_text(unit), names)
        if key not in self.objects:
            self.objects[key] = compile_unit(unit, names)
            self.many_compiled += len(unit[3])
        return self.objects[key]

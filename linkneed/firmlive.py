"""A bench whose units stay linked."""

from linkneed.errors import Beyond, InvalidEvent, LinkError, Missing
from linkneed.linking import link
from linkneed.live import LiveBench


class FirmBench(LiveBench):
    """A LiveBench that refuses events behind which its units do not link any more."""

    def __init__(self, registers, names):
        super().__init__(registers, names)

    def _check_state(self, event, state):
        super()._check_state(event, state)
        if not self._links():
            return
        try:
            self._linked_for(state)
        except Missing:
            raise InvalidEvent(event, "missing") from None
        except Beyond:
            raise InvalidEvent(event, "beyond") from None

    def _links(self):
        try:
            self.linked_now()
        except LinkError:
            return False
        return True

    def _linked_for(self, state):
        return link(self._bundled(state), state[2])

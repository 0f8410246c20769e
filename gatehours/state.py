"""What a session keeps from call to call."""

from gatehours.limits import max_gates_allowed, max_wait_allowed, per_gate_allowed
from gatehours.refusals import out_of_range


class Planner:
    """The settings, and the arrivals of each minute."""

    def __init__(self, per_gate, max_gates, max_wait):
        self.per_gate = per_gate
        self.max_gates = max_gates
        self.max_wait = max_wait
        self.arrivals = []

    def has_minute(self, minute):
        return minute < len(self.arrivals)


class Session:
    """The planner that the calls work on; None until one has been created."""

    def __init__(self):
        self.planner = None

    def create(self, per_gate, max_gates, max_wait):
        allowed = per_gate_allowed(per_gate) and max_gates_allowed(max_gates) and max_wait_allowed(max_wait)
        if not allowed:
            return out_of_range()
        self.planner = Planner(per_gate, max_gates, max_wait)
        return [0]

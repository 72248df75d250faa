"""Cacaoworks: vats, pipes and valves turned. The calls are in cacaoworks.plant."""

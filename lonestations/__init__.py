"""Single stations of a queueing network, computed exactly."""

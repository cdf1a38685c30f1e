"""Run forward and backward: a small machine's run, gone through in both directions."""

"""The heavy keys of a stream, in few counters."""

"""An eight-bit machine with five flags, run step by step."""

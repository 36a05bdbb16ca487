"""quietsweep: a collector that works beside the program."""

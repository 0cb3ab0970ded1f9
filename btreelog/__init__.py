"""An ordered store in blocks, with a log ahead."""

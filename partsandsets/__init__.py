"""Parts and sets: sets of things by their size, each with its own number, and partitions."""

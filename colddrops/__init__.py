"""Cold lorries by drops: how cold a load must be for a row of drops, and which row is best."""

"""What layers cost: the calls are answered by layercosts.layers.answers."""

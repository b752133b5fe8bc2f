"""What's ready: sources say what's on, sets watch them and are woken when they turn ready."""

"""A signal box: tracks, trains, and routes from signal to signal."""

"""Things that move on a map and stay near one another."""

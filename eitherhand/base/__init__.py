"""What everything else stands on: words, promises, places and calls."""

"""What everything else stands on: words and promises."""

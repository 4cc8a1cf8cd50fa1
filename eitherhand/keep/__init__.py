"""Plans and counters: which promises can be kept, and with how few calls."""

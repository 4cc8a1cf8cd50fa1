"""What is given ahead: sets of worlds, books of promises, and answers amid the play."""

"""Programs over lists that share: see runs.answers."""

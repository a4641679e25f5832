"""Cards at the gangway: who leaves a ship, and who comes back."""

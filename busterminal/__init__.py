"""A terminal on an aircraft's bus."""

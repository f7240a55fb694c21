"""Pages that a shop could have printed."""

"""An outline kept by many hands."""

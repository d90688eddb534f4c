"""What one index does for one question, worked out exactly."""

"""Sequential tests with two outcomes, planned and computed exactly."""

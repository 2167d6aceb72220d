"""Orders in casks: which casks fill an order."""

"""What one call may become, where services call one another."""

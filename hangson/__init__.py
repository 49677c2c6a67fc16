"""What hangs on what in an attribute grammar."""

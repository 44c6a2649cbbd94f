"""What one would rather have: wishes told one by one, all else alike."""

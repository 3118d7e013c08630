"""What can stand together: independent sets of many kinds."""

"""What's shown, and read back. The calls are in shownback.desk."""

"""Things that cannot be parted, dealt to heirs who each have a mind of their own."""

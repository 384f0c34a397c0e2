"""Two-person card trick: encoding a hidden card."""

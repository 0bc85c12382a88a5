"""What words are worth: machines that tell it letter by letter."""

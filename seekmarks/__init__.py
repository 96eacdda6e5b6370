"""seekmarks: needles found in texts as a reader would find them, and how far texts are apart."""

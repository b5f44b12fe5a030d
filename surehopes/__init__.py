"""Sure, though it goes wrong: rules that come to what is wanted, whatever comes."""

"""What's seen on the way: wanderers on nets of places that have no names."""

"""Messages of 64 bytes in a window that a device watches, each written as one."""

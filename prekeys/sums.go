package prekeys

const sumSize = 4

// sumSteps is by what half a byte changes a CRC-32 (P9): four turns of its rule at once.
var sumSteps = [16]uint32{
	0x00000000, 0x1db71064, 0x3b6e20c8, 0x26d930ac, 0x76dc4190, 0x6b6b51f4, 0x4db26158, 0x5005713c,
	0xedb88320, 0xf00f9344, 0xd6d6a3e8, 0xcb61b38c, 0x9b64c2b0, 0x86d3d2d4, 0xa00ae278, 0xbdbdf21c,
}

// sumOf tells a body's CRC-32 as its bytes in the log.
func sumOf(body string) string {
	sum := ^uint32(0)
	for i := range len(body) {
		sum ^= uint32(body[i])
		sum = sum>>4 ^ sumSteps[sum&15]
		sum = sum>>4 ^ sumSteps[sum&15]
	}
	return string(appendNumber(nil, uint64(^sum), sumSize))
}

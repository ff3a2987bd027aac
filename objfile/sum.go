package objfile

const sumBytes = 4

// turned is the document's polynomial without x^32, turned round as the bytes' bits are: x^31 is the lowest bit.
const turned = 0xEDB88320

// sum is the CRC-32 of s. Bit by bit: a file is short, and a table would say no more.
func sum(s string) uint32 {
	c := ^uint32(0)
	for i := range len(s) {
		c ^= uint32(s[i])
		for range 8 {
			odd := c&1 == 1
			c >>= 1
			if odd {
				c ^= turned
			}
		}
	}
	return ^c
}

// sumText is the sum as it stands in a file, the lowest byte first.
func sumText(s string) string {
	c := sum(s)
	return string([]byte{byte(c), byte(c >> 8), byte(c >> 16), byte(c >> 24)})
}

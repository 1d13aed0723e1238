package prekeys

// Where FNV-1a of 64 bits starts, and by what it goes on (P4).
const (
	sealStart uint64 = 14695981039346656037
	sealPrime uint64 = 1099511628211
)

// addToSeal leans on the wrap-round of uint64, which is P4's modulo 2^64.
func addToSeal(sum uint64, text string) uint64 {
	for i := range len(text) {
		sum ^= uint64(text[i])
		sum *= sealPrime
	}
	return sum
}

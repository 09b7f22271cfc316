// Package impl: what was looked at and what came out.
package impl

// MaxWidth and MaxBlobs: bytes of a sum, texts of a store.
const (
	MaxWidth = 8
	MaxBlobs = 5000
)

// What a sum begins as, and what it is multiplied by for each byte.
const (
	sumStart  uint64 = 14695981039346656037
	sumFactor uint64 = 1099511628211
)

// Sum gives the sum of a text.
func Sum(text string, width int) string {
	if !validWidth(width) {
		return ""
	}
	sum := sumBytes(text, width)
	return string(sum[:width])
}

// Clash looks for two different texts with one sum.
func Clash(texts []string, width int) (string, string, bool) {
	if len(texts) > MaxBlobs {
		return "", "", false
	}
	return clashOfAny(texts, width)
}

// clashOfAny is Clash for a list of any length.
func clashOfAny(texts []string, width int) (string, string, bool) {
	if !validWidth(width) {
		return "", "", false
	}
	// As long as there is no clash, all texts with one sum are the same, so
	// the first place of a sum stands for every later one.
	first := make(map[[MaxWidth]byte]int)
	for place, text := range texts {
		sum := sumBytes(text, width)
		earlier, met := first[sum]
		if !met {
			first[sum] = place
		} else if texts[earlier] != text {
			return texts[earlier], text, true
		}
	}
	return "", "", false
}

func validWidth(width int) bool {
	return width >= 1 && width <= MaxWidth
}

// sumBytes gives a sum in the first width places. It is an array, so that it
// can be a map's key; the places behind stay 0, which is no matter among sums
// of one width.
func sumBytes(text string, width int) [MaxWidth]byte {
	sum := sumStart
	for i := range len(text) {
		sum ^= uint64(text[i])
		sum *= sumFactor
	}
	var out [MaxWidth]byte
	for i := width - 1; i >= 0; i-- {
		out[i] = byte(sum)
		sum >>= 8
	}
	return out
}

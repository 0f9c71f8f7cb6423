// Package impl: a store of texts by their sums, cleared while it is used.
package impl

import "strings"

// Limits of things.
const (
	MaxText  = 2000
	MaxRefs  = 30
	MaxWidth = 8
)

// What a sum begins as, and what it is multiplied by for each byte.
const (
	sumStart  uint64 = 14695981039346656037
	sumFactor uint64 = 1099511628211
)

// Thing is a text and the sums of what it stands on.
type Thing struct {
	Text string
	Refs []string
}

// sumBytes has a sum at its front and zeros behind it, so that two sums of
// one width are the same exactly if their arrays are.
type sumBytes [MaxWidth]byte

// Sum gives the sum of a text.
func Sum(text string, width int) string {
	if !isWidth(width) {
		return ""
	}
	sum := lastBytes(mix(text), width)
	return string(sum[:width])
}

func isWidth(width int) bool {
	return width >= 1 && width <= MaxWidth
}

func mix(text string) uint64 {
	sum := sumStart
	for i := range len(text) {
		sum ^= uint64(text[i])
		sum *= sumFactor
	}
	return sum
}

func lastBytes(sum uint64, width int) sumBytes {
	var out sumBytes
	for i := range width {
		out[i] = byte(sum >> (8 * (width - 1 - i)))
	}
	return out
}

// FormThing writes a thing.
func FormThing(t Thing, width int) string {
	if !validThing(t, width) {
		return ""
	}
	var form strings.Builder
	form.WriteByte(byte(len(t.Refs)))
	for _, ref := range t.Refs {
		form.WriteString(ref)
	}
	form.WriteString(t.Text)
	return form.String()
}

// ReadThing reads a thing.
func ReadThing(s string, width int) (Thing, bool) {
	if !isWidth(width) || s == "" {
		return Thing{}, false
	}
	count, rest := int(s[0]), s[1:]
	if len(rest) < count*width {
		return Thing{}, false
	}
	t := Thing{Text: rest[count*width:]}
	for i := range count {
		t.Refs = append(t.Refs, rest[i*width:(i+1)*width])
	}
	if !validThing(t, width) {
		return Thing{}, false
	}
	return t, true
}

func validThing(t Thing, width int) bool {
	return isWidth(width) && len(t.Text) <= MaxText && validRefs(t.Refs, width)
}

func validRefs(refs []string, width int) bool {
	if len(refs) > MaxRefs {
		return false
	}
	for i, ref := range refs {
		if len(ref) != width || i > 0 && refs[i-1] >= ref {
			return false
		}
	}
	return true
}

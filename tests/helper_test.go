package tests

import (
	"slices"
	"strings"

	"loop.example/kilnvault/impl"
)

// words gives all texts of up to most bytes, each of the given alphabet.
func words(alphabet string, most int) []string {
	out := []string{""}
	from := 0
	for range most {
		to := len(out)
		for _, w := range out[from:to] {
			for i := range len(alphabet) {
				out = append(out, w+alphabet[i:i+1])
			}
		}
		from = to
	}
	return out
}

// wordsOf gives the texts of exactly size bytes, in their order.
func wordsOf(alphabet string, size int) []string {
	var out []string
	for _, w := range words(alphabet, size) {
		if len(w) == size {
			out = append(out, w)
		}
	}
	slices.Sort(out)
	return out
}

// ascendingRefs gives count Refs of that width, ascending.
func ascendingRefs(count, width int) []string {
	out := make([]string, count)
	for i := range out {
		out[i] = strings.Repeat("r", width-1) + string([]byte{byte(100 + i)})
	}
	return out
}

func sameThing(a, b impl.Thing) bool {
	return a.Text == b.Text && slices.Equal(a.Refs, b.Refs)
}

func sameEntry(a, b impl.Entry) bool {
	return a.Kind == b.Kind && a.Sum == b.Sum && a.Name == b.Name && a.Number == b.Number && sameThing(a.Thing, b.Thing)
}

func sameLog(a, b impl.Log) bool {
	return slices.Equal(a.Safe, b.Safe) && slices.Equal(a.Loose, b.Loose)
}

// allBytes is a text that has each byte once.
func allBytes() string {
	out := make([]byte, 256)
	for i := range out {
		out[i] = byte(i)
	}
	return string(out)
}

// notWidths are numbers that are no width.
func notWidths() []int {
	return []int{-1 << 63, -1000000, -8, -1, 0, 9, 10, 256, 257, 1000000, 1<<63 - 1}
}

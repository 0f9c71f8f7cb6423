package tests

import (
	"strings"
	"testing"

	"loop.example/kilnvault/impl"
)

type usedParts struct {
	kind             int
	sum, name, thing bool
	most             int
}

// The document's table of kinds; most is the greatest Number, 0 if there is none.
func kinds() []usedParts {
	return []usedParts{
		{kind: 1, thing: true, most: 100000},
		{kind: 2, name: true, sum: true},
		{kind: 3, name: true},
		{kind: 4, sum: true, most: 100000},
		{kind: 5, most: 1000000000},
		{kind: 6, most: 100000},
		{kind: 7, sum: true},
	}
}

// validEntries gives for a kind its entries with each part at its edges.
func validEntries(k usedParts, width int) []impl.Entry {
	sums, names, numbers, things := []string{""}, []string{""}, []int{0}, []impl.Thing{{}}
	if k.sum {
		sums = []string{strings.Repeat("\x00", width), strings.Repeat("\xff", width), strings.Repeat("s", width)}
	}
	if k.name {
		names = []string{"!", "~", "a-name", strings.Repeat("n", impl.MaxName)}
	}
	if k.most > 0 {
		numbers = []int{1, 2, 255, 256, 65535, 65536, k.most - 1, k.most}
	}
	if k.thing {
		things = []impl.Thing{{}, {Text: "x"}, {Refs: ascendingRefs(2, width)}, {Text: strings.Repeat("\x00", impl.MaxText), Refs: ascendingRefs(impl.MaxRefs, width)}}
	}
	var out []impl.Entry
	for _, sum := range sums {
		for _, name := range names {
			for _, number := range numbers {
				for _, thing := range things {
					out = append(out, impl.Entry{Kind: k.kind, Sum: sum, Name: name, Number: number, Thing: thing})
				}
			}
		}
	}
	return out
}

// plainForm writes any entry by the document's rule, valid or not.
func plainForm(e impl.Entry, thing string) string {
	n := uint32(e.Number)
	head := []byte{byte(e.Kind), byte(n >> 24), byte(n >> 16), byte(n >> 8), byte(n), byte(len(e.Name))}
	return string(head) + e.Name + e.Sum + thing
}

func thingForm(t impl.Thing) string {
	return string([]byte{byte(len(t.Refs))}) + strings.Join(t.Refs, "") + t.Text
}

func TestKindsHaveTheirNumbers(t *testing.T) {
	got := []int{impl.EntPut, impl.EntPin, impl.EntUnpin, impl.EntLease, impl.EntGive, impl.EntWait, impl.EntDrop}
	for i, kind := range got {
		if kind != i+1 {
			t.Errorf("kind %d is %d", i+1, kind)
		}
	}
}

func TestEntriesComeBack(t *testing.T) {
	for width := 1; width <= impl.MaxWidth; width++ {
		for _, k := range kinds() {
			for _, e := range validEntries(k, width) {
				want := plainForm(e, "")
				if k.thing {
					want += thingForm(e.Thing)
				}
				form := impl.FormEntry(e, width)
				if form != want {
					t.Fatalf("width %d, kind %d: form %.40q, not %.40q", width, e.Kind, form, want)
				}
				if len(form) > impl.MaxEntry {
					t.Fatalf("a form of %d bytes", len(form))
				}
				got, ok := impl.ReadEntry(form, width)
				if !ok || !sameEntry(got, e) {
					t.Fatalf("width %d: %.40q is read as %v, %v", width, form, got.Kind, ok)
				}
			}
		}
	}
}

// checkRefused asks that an entry has no form, and that the text it would have is not read.
func checkRefused(t *testing.T, e impl.Entry, width int, text string) {
	t.Helper()
	if form := impl.FormEntry(e, width); form != "" {
		t.Errorf("width %d: kind %d, number %d, name %.50q, sum %q has the form %.40q", width, e.Kind, e.Number, e.Name, e.Sum, form)
	}
	if got, ok := impl.ReadEntry(text, width); ok || !sameEntry(got, impl.Entry{}) {
		t.Errorf("width %d: %.60q is read as kind %d", width, text, got.Kind)
	}
}

func TestNumbersOutOfTheirBounds(t *testing.T) {
	for _, k := range kinds() {
		e := validEntries(k, 2)[0]
		numbers := []int{-1 << 63, -1 << 32, -1, 0, k.most + 1, 1 << 31, 1<<32 - 1, 1<<32 + 1, 1<<63 - 1}
		if k.most == 0 {
			numbers = []int{-1, 1, 2, 100000, 1 << 31, 1 << 32, 1 << 40}
		}
		for _, number := range numbers {
			e.Number = number
			if form := impl.FormEntry(e, 2); form != "" {
				t.Errorf("kind %d, number %d: %q", k.kind, number, form)
			}
			if number != int(uint32(number)) {
				continue // four bytes do not hold it, so no text has it
			}
			if got, ok := impl.ReadEntry(plainForm(e, ""), 2); ok {
				t.Errorf("kind %d, number %d is read as %+v", k.kind, number, got)
			}
			if got, ok := impl.ReadEntry(plainForm(e, "\x00"), 2); ok {
				t.Errorf("kind %d, number %d is read as %+v", k.kind, number, got)
			}
		}
	}
}

func TestPartsThatAKindDoesNotUse(t *testing.T) {
	for width := 1; width <= impl.MaxWidth; width++ {
		for _, k := range kinds() {
			e, thing := validEntries(k, width)[0], ""
			if k.thing {
				thing = thingForm(e.Thing)
			}
			if !k.sum {
				x := e
				x.Sum = strings.Repeat("s", width)
				checkRefused(t, x, width, plainForm(x, thing))
				x.Sum = "s"
				checkRefused(t, x, width, "")
			}
			if !k.name {
				x := e
				x.Name = "name"
				checkRefused(t, x, width, plainForm(x, thing))
			}
			if !k.thing {
				for _, extra := range []impl.Thing{{Text: "x"}, {Refs: ascendingRefs(1, width)}, {Refs: []string{""}}} {
					x := e
					x.Thing = extra
					checkRefused(t, x, width, plainForm(x, thingForm(extra)))
				}
			}
		}
	}
}

func TestAnUnusedThingWithAnEmptyListIsNothing(t *testing.T) {
	e := impl.Entry{Kind: impl.EntWait, Number: 1, Thing: impl.Thing{Refs: []string{}}}
	if form := impl.FormEntry(e, 3); form != "\x06\x00\x00\x00\x01\x00" {
		t.Errorf("%q", form)
	}
}

func TestNamesThatAreNone(t *testing.T) {
	for _, e := range []impl.Entry{{Kind: impl.EntPin, Sum: "ss"}, {Kind: impl.EntUnpin}} {
		for _, name := range []string{"", " ", "\x7f", "\x00", "\xff", "a b", "a\n", "\x20a", strings.Repeat("n", impl.MaxName+1), strings.Repeat("n", 255)} {
			e.Name = name
			checkRefused(t, e, 2, plainForm(e, ""))
		}
		e.Name = strings.Repeat("n", 256+1) // its length is 1 in one byte
		checkRefused(t, e, 2, plainForm(e, ""))
		for c := range 256 {
			e.Name = "a" + string([]byte{byte(c)})
			if got := impl.FormEntry(e, 2) != ""; got != (c >= 33 && c <= 126) {
				t.Errorf("kind %d: a name with the byte %d: %v", e.Kind, c, got)
			}
		}
	}
}

func TestSumsOfAnotherWidth(t *testing.T) {
	for width := 1; width <= impl.MaxWidth; width++ {
		for _, k := range kinds() {
			e := validEntries(k, width)[0]
			for size := range impl.MaxWidth + 2 {
				e.Sum = strings.Repeat("s", size)
				if k.sum && size != width {
					checkRefused(t, e, width, plainForm(e, ""))
				}
			}
		}
	}
}

func TestThingsOfAnEntryThatAreNotValid(t *testing.T) {
	for _, thing := range []impl.Thing{
		{Text: strings.Repeat("x", impl.MaxText+1)},
		{Refs: append(ascendingRefs(impl.MaxRefs, 2), "zz")},
		{Refs: []string{"bb", "aa"}},
		{Refs: []string{"aa", "aa"}},
		{Refs: []string{"a"}},
	} {
		e := impl.Entry{Kind: impl.EntPut, Number: 1, Thing: thing}
		checkRefused(t, e, 2, plainForm(e, thingForm(thing)))
	}
	checkRefused(t, impl.Entry{Kind: impl.EntPut}, 2, plainForm(impl.Entry{Kind: impl.EntPut, Number: 1}, ""))
}

func TestKindsThatAreNone(t *testing.T) {
	for _, kind := range []int{-1 << 63, -249, -1, 0, 8, 9, 255, 256, 257, 263, 1<<63 - 1} {
		for _, k := range kinds() {
			e := validEntries(k, 2)[0]
			e.Kind = kind
			if form := impl.FormEntry(e, 2); form != "" {
				t.Errorf("kind %d: %q", kind, form)
			}
			if kind < 0 || kind > 255 {
				continue // one byte does not hold it
			}
			if got, ok := impl.ReadEntry(plainForm(e, "\x00"), 2); ok {
				t.Errorf("kind %d is read as %+v", kind, got)
			}
		}
	}
}

func TestEntriesOfNoWidth(t *testing.T) {
	for _, width := range notWidths() {
		for _, k := range kinds() {
			e := validEntries(k, 1)[0]
			checkRefused(t, e, width, plainForm(e, "\x00"))
			e.Sum = ""
			checkRefused(t, e, width, plainForm(e, ""))
		}
		checkRefused(t, impl.Entry{}, width, "")
	}
}

// Every text that lies a byte beside a form: what is read of it must be valid by the document's words and come back as that text.
func TestNothingButFormsIsReadAsAnEntry(t *testing.T) {
	for _, width := range []int{1, 3, impl.MaxWidth} {
		for _, k := range kinds() {
			for _, e := range validEntries(k, width) {
				form := impl.FormEntry(e, width)
				if len(form) > 100 {
					continue
				}
				for _, s := range besides(form) {
					checkRead(t, s, width)
				}
			}
		}
	}
	for _, s := range words("\x00\x01\x02\x03\x06", 7) {
		checkRead(t, s, 1)
	}
}

// besides gives the texts in which one byte is another, one more, or missing, and all beginnings.
func besides(form string) []string {
	var out []string
	for i := range len(form) {
		out = append(out, form[:i], form[:i]+form[i+1:])
		for c := range 256 {
			out = append(out, form[:i]+string([]byte{byte(c)})+form[i+1:])
		}
	}
	for i := range len(form) + 1 {
		for _, c := range []byte{0, 1, 2, 'a', 255} {
			out = append(out, form[:i]+string([]byte{c})+form[i:])
		}
	}
	return out
}

func checkRead(t *testing.T, s string, width int) {
	t.Helper()
	e, ok := impl.ReadEntry(s, width)
	if !ok {
		if !sameEntry(e, impl.Entry{}) {
			t.Fatalf("%q is not read, but gives %+v", s, e)
		}
		return
	}
	if !plainlyValid(e, width) {
		t.Fatalf("width %d: %q is read as %+v, which is not valid", width, s, e)
	}
	thing := ""
	if e.Kind == 1 {
		thing = thingForm(e.Thing)
	}
	if plainForm(e, thing) != s || impl.FormEntry(e, width) != s {
		t.Fatalf("width %d: %q is read as %+v, whose form is another", width, s, e)
	}
}

func plainlyValid(e impl.Entry, width int) bool {
	if e.Kind < 1 || e.Kind > 7 {
		return false
	}
	k := kinds()[e.Kind-1]
	sumSize, lowest := 0, 0
	if k.sum {
		sumSize = width
	}
	if k.most > 0 {
		lowest = 1
	}
	for i := range len(e.Name) {
		if e.Name[i] < 33 || e.Name[i] > 126 {
			return false
		}
	}
	for i, ref := range e.Thing.Refs {
		if len(ref) != width || i > 0 && e.Thing.Refs[i-1] >= ref {
			return false
		}
	}
	return len(e.Sum) == sumSize && e.Number >= lowest && e.Number <= k.most &&
		len(e.Name) <= 40 && (len(e.Name) > 0) == k.name &&
		len(e.Thing.Text) <= 2000 && len(e.Thing.Refs) <= 30 &&
		(k.thing || sameThing(e.Thing, impl.Thing{}))
}

func TestAnEntrysAnswersAreNewMemory(t *testing.T) {
	refs := []string{"ab", "cd"}
	form := impl.FormEntry(impl.Entry{Kind: impl.EntPut, Number: 1, Thing: impl.Thing{Refs: refs}}, 2)
	if refs[0] != "ab" || refs[1] != "cd" {
		t.Errorf("FormEntry wrote into its argument: %q", refs)
	}
	x, _ := impl.ReadEntry(form, 2)
	y, _ := impl.ReadEntry(form, 2)
	x.Thing.Refs[0] = "zz"
	if y.Thing.Refs[0] != "ab" {
		t.Error("two answers share a list")
	}
}

package tests

import (
	"hash/fnv"
	"slices"
	"strings"
	"testing"

	"loop.example/kilnvault/impl"
)

func TestSumIsTheLastBytesOfTheSumOf64Bits(t *testing.T) {
	texts := append(words("\x00a\xff", 4), allBytes(), strings.Repeat("long ", 2000))
	for _, text := range texts {
		h := fnv.New64a()
		h.Write([]byte(text))
		whole := string(h.Sum(nil))
		for width := 1; width <= impl.MaxWidth; width++ {
			if got, want := impl.Sum(text, width), whole[8-width:]; got != want {
				t.Fatalf("Sum(%.20q, %d) = %q, not %q", text, width, got, want)
			}
		}
	}
}

func TestSumOfNoWidthIsEmpty(t *testing.T) {
	for _, width := range notWidths() {
		for _, text := range []string{"", "a", allBytes()} {
			if got := impl.Sum(text, width); got != "" {
				t.Errorf("width %d: %q", width, got)
			}
		}
	}
}

func TestThingsAtTheirLimits(t *testing.T) {
	for width := 1; width <= impl.MaxWidth; width++ {
		for _, count := range []int{0, 1, 2, impl.MaxRefs - 1, impl.MaxRefs} {
			for _, text := range []string{"", "x", allBytes(), strings.Repeat("y", impl.MaxText)} {
				x := impl.Thing{Text: text, Refs: ascendingRefs(count, width)}
				want := string([]byte{byte(count)}) + strings.Join(x.Refs, "") + text
				form := impl.FormThing(x, width)
				if form != want {
					t.Fatalf("width %d, %d refs, %d bytes: form %.40q", width, count, len(text), form)
				}
				y, ok := impl.ReadThing(form, width)
				if !ok || !sameThing(x, y) {
					t.Fatalf("width %d, %d refs, %d bytes: read %v", width, count, len(text), ok)
				}
			}
		}
	}
}

func TestThingsThatAreNotValidHaveNoForm(t *testing.T) {
	tooMany := append(ascendingRefs(impl.MaxRefs, 2), "zz")
	for name, x := range map[string]impl.Thing{
		"text too long":       {Text: strings.Repeat("y", impl.MaxText+1)},
		"one ref too many":    {Refs: tooMany},
		"256 refs":            {Refs: wordsOf("abcdefghijklmnop", 2)},
		"a ref twice":         {Refs: []string{"ab", "ab"}},
		"refs descending":     {Refs: []string{"b\x00", "a\xff"}},
		"not in order, last":  {Refs: []string{"aa", "bb", "cc", "bc"}},
		"bytes are unsigned":  {Refs: []string{"\x80\x80", "\x7f\x7f"}},
		"a ref too short":     {Refs: []string{"a"}},
		"a ref too long":      {Refs: []string{"abc"}},
		"an empty ref":        {Refs: []string{""}},
		"the last ref longer": {Refs: []string{"aa", "bbb"}},
	} {
		if form := impl.FormThing(x, 2); form != "" {
			t.Errorf("%s: form %.40q", name, form)
		}
	}
	for _, width := range notWidths() {
		if form := impl.FormThing(impl.Thing{Text: "x"}, width); form != "" {
			t.Errorf("width %d: form %q", width, form)
		}
	}
}

func TestTextsThatAreNoFormOfAThing(t *testing.T) {
	refs := strings.Join(ascendingRefs(impl.MaxRefs, 2), "")
	for name, s := range map[string]string{
		"empty":               "",
		"a ref missing":       "\x01",
		"half a ref":          "\x01a",
		"the second missing":  "\x02ab",
		"the second cut":      "\x02abc",
		"a ref twice":         "\x02abab",
		"refs descending":     "\x02cdab",
		"one ref too many":    "\x1f" + refs + "zz",
		"count of 255":        "\xff" + strings.Repeat("ab", 255),
		"text too long":       "\x00" + strings.Repeat("y", impl.MaxText+1),
		"behind refs as well": "\x1e" + refs + strings.Repeat("y", impl.MaxText+1),
	} {
		if x, ok := impl.ReadThing(s, 2); ok || !sameThing(x, impl.Thing{}) {
			t.Errorf("%s: read as %+v", name, x)
		}
	}
	for _, width := range notWidths() {
		for _, s := range []string{"", "\x00", "\x00x", "\x01abcdefghijkl"} {
			if x, ok := impl.ReadThing(s, width); ok || !sameThing(x, impl.Thing{}) {
				t.Errorf("width %d: %q is read as %+v", width, s, x)
			}
		}
	}
}

// Of all texts over a small alphabet exactly those are read that were made as forms here.
func TestNothingButFormsIsReadAsAThing(t *testing.T) {
	const alphabet, most = "\x00\x01\x02\x03", 6
	for width := 1; width <= 3; width++ {
		forms := smallForms(alphabet, most, width)
		for _, s := range words(alphabet, most) {
			want, isForm := forms[s]
			got, ok := impl.ReadThing(s, width)
			if ok != isForm || !sameThing(got, want) {
				t.Fatalf("width %d: %q is read as %+v, %v; not %+v, %v", width, s, got, ok, want, isForm)
			}
			if ok && impl.FormThing(got, width) != s {
				t.Fatalf("width %d: %q does not come back", width, s)
			}
		}
	}
}

// smallForms gives all forms of up to most bytes over an alphabet that has the counts 0 to 3 in it.
func smallForms(alphabet string, most, width int) map[string]impl.Thing {
	out := map[string]impl.Thing{}
	sums, texts := wordsOf(alphabet, width), words(alphabet, most-1)
	lists := [][]string{nil}
	for at := 0; at < len(lists); at++ {
		refs := lists[at]
		head := string([]byte{byte(len(refs))}) + strings.Join(refs, "")
		if len(head) > most || len(refs) > 3 {
			continue
		}
		for _, text := range texts {
			if len(head)+len(text) <= most {
				out[head+text] = impl.Thing{Text: text, Refs: refs}
			}
		}
		for _, sum := range sums {
			if len(refs) == 0 || refs[len(refs)-1] < sum {
				lists = append(lists, append(slices.Clone(refs), sum))
			}
		}
	}
	return out
}

func TestAThingsAnswersAreNewMemory(t *testing.T) {
	refs := []string{"ab", "cd"}
	impl.FormThing(impl.Thing{Text: "x", Refs: refs}, 2)
	if !slices.Equal(refs, []string{"ab", "cd"}) {
		t.Errorf("FormThing wrote into its argument: %q", refs)
	}
	x, _ := impl.ReadThing("\x02abcdhi", 2)
	y, _ := impl.ReadThing("\x02abcdhi", 2)
	x.Refs[0] = "zz"
	if y.Refs[0] != "ab" {
		t.Error("two answers share a list")
	}
}

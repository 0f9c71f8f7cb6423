package tests

import (
	"slices"
	"strconv"
	"strings"
	"testing"

	"loop.example/kilnvault/impl"
)

// grown is a valid state with each part in it: four things, of which two stand on others, three pins and three leases.
func grown() impl.State {
	leaf, twig := impl.Thing{Text: "leaf"}, impl.Thing{Text: "twig"}
	tree := impl.Thing{Text: "tree", Refs: sortedSums(8, leaf, twig)}
	wood := impl.Thing{Refs: sortedSums(8, tree, leaf)}
	s := stateOf(8, leaf, twig, tree, wood)
	s.Births, s.Given, s.Now = 9, 20, 50
	s.Pins = []impl.Pin{{Name: "a", Sum: sumOf(tree, 8)}, {Name: "b", Sum: sumOf(tree, 8)}, {Name: "top", Sum: sumOf(wood, 8)}}
	s.Leases = []impl.Lease{{Number: 3, Sum: sumOf(leaf, 8), Until: 60}, {Number: 7, Sum: sumOf(leaf, 8), Until: 51}, {Number: 19, Sum: sumOf(wood, 8), Until: 55}}
	return s
}

func sortedSums(width int, things ...impl.Thing) []string {
	var out []string
	for _, x := range things {
		out = append(out, sumOf(x, width))
	}
	slices.Sort(out)
	return out
}

// full is a state in which every limit is met.
func full() impl.State {
	s := leased(pinned(stateOf(8, leaves(impl.MaxThings, 8)...), impl.MaxPins), impl.MaxLeases)
	s.Now, s.Given, s.Births = impl.MaxTime, impl.MaxTime, impl.MaxTime
	for i := range s.Leases {
		s.Leases[i].Until = impl.MaxTime + impl.MaxHold
	}
	return s
}

func TestLimitsOfStates(t *testing.T) {
	got := []int{impl.MaxThings, impl.MaxPins, impl.MaxLeases, impl.MaxName, impl.MaxTime, impl.MaxHold, impl.MaxLog}
	if !slices.Equal(got, []int{600, 100, 200, 40, 1000000000, 100000, 4000}) {
		t.Errorf("%d", got)
	}
}

func TestValidStates(t *testing.T) {
	lists := impl.State{Width: 3, Things: []impl.Kept{}, Pins: []impl.Pin{}, Leases: []impl.Lease{}}
	states := map[string]impl.State{"grown": grown(), "full": full(), "empty lists": lists}
	for width := 1; width <= impl.MaxWidth; width++ {
		states["width "+strconv.Itoa(width)] = impl.State{Width: width}
	}
	edges := grown()
	edges.Births, edges.Given = 4, 19 // the last Born and Number
	edges.Leases[0].Number = 1
	edges.Leases[0].Until, edges.Leases[1].Until = edges.Now+1, edges.Now+impl.MaxHold
	edges.Pins[0].Name, edges.Pins[1].Name = "!", strings.Repeat("!", impl.MaxName)
	edges.Pins[2].Name = "~"
	states["edges"] = edges
	under := leaves(impl.MaxRefs, 8)
	states["a thing as great as can be"] = stateOf(8, append(under, impl.Thing{Text: strings.Repeat("x", impl.MaxText), Refs: sortedSums(8, under...)})...)
	for name, s := range states {
		if !plainState(s) {
			t.Fatalf("%s: the test's own mistake", name)
		}
		if !impl.ValidState(s) {
			t.Errorf("%s: not valid", name)
		}
	}
}

// notValidStates are states in which one part alone is wrong.
func notValidStates() map[string]impl.State {
	out := map[string]impl.State{"nothing": {}}
	add := func(name string, s impl.State, spoil func(s *impl.State)) {
		spoil(&s)
		out[name] = s
	}
	addNumbers(add)
	addThings(add)
	addBirths(add)
	addPins(add)
	addLeases(add)
	return out
}

type adder func(name string, s impl.State, spoil func(s *impl.State))

func addNumbers(add adder) {
	for _, width := range notWidths() {
		add("width "+strconv.Itoa(width), impl.State{}, func(s *impl.State) { s.Width = width })
	}
	add("another width", grown(), func(s *impl.State) { s.Width = 7 })
	for name, number := range map[string]int{"below": -1, "far below": -1 << 63, "above": impl.MaxTime + 1, "far above": 1<<63 - 1} {
		add("Now "+name, impl.State{Width: 8}, func(s *impl.State) { s.Now = number })
		add("Given "+name, impl.State{Width: 8}, func(s *impl.State) { s.Given = number })
		add("Births "+name, impl.State{Width: 8}, func(s *impl.State) { s.Births = number })
	}
	add("Given above, full", full(), func(s *impl.State) { s.Given++ })
	add("Births above, full", full(), func(s *impl.State) { s.Births++ })
}

func addThings(add adder) {
	add("one thing too many", stateOf(8, leaves(impl.MaxThings+1, 8)...), func(*impl.State) {})
	add("things not in order", grown(), func(s *impl.State) { s.Things[1], s.Things[2] = s.Things[2], s.Things[1] })
	add("a thing twice", grown(), func(s *impl.State) {
		again := s.Things[3]
		again.Born = 9
		s.Things = append(s.Things, again)
	})
	add("a text too long", stateOf(8, impl.Thing{Text: strings.Repeat("x", impl.MaxText+1)}), func(*impl.State) {})
	under := leaves(impl.MaxRefs+1, 8)
	add("a Ref too many", stateOf(8, append(under, impl.Thing{Refs: sortedSums(8, under...)})...), func(*impl.State) {})
	turned := sortedSums(8, under[:2]...)
	slices.Reverse(turned)
	add("Refs not in order", stateOf(8, under[0], under[1], impl.Thing{Refs: turned}), func(*impl.State) {})
	add("a text too long, by the sum of the empty form", impl.State{Width: 8, Births: 1}, func(s *impl.State) {
		s.Things = []impl.Kept{{Sum: impl.Sum("", 8), Born: 1, Thing: impl.Thing{Text: strings.Repeat("x", impl.MaxText+1)}}}
	})
	add("a Ref too short, by the sum of the empty form", impl.State{Width: 8, Births: 1}, func(s *impl.State) {
		s.Things = []impl.Kept{{Sum: impl.Sum("", 8), Born: 1, Thing: impl.Thing{Refs: []string{"short"}}}}
	})
	add("another text", stateOf(8, impl.Thing{Text: "a"}), func(s *impl.State) { s.Things[0].Thing.Text = "b" })
	add("another sum", stateOf(8, impl.Thing{Text: "a"}), func(s *impl.State) { s.Things[0].Sum = "abcdefgh" })
	add("no sum", stateOf(8, impl.Thing{Text: "a"}), func(s *impl.State) { s.Things[0].Sum = "" })
	add("a sum that goes on", stateOf(2, impl.Thing{Text: "a"}), func(s *impl.State) { s.Things[0].Sum += "\x00" })
	add("the sum of the text", stateOf(8, impl.Thing{Text: "a"}), func(s *impl.State) { s.Things[0].Sum = impl.Sum("a", 8) })
}

func addBirths(add adder) {
	leaf := impl.Thing{Text: "leaf"}
	tree := impl.Thing{Text: "tree", Refs: sortedSums(8, leaf)}
	for name, born := range map[string]int{"0": 0, "below": -1, "behind Births": 4} {
		add("Born "+name, stateOf(8, leaves(3, 8)...), func(s *impl.State) { s.Things[1].Born = born })
	}
	add("Born twice", stateOf(8, leaves(3, 8)...), func(s *impl.State) { s.Things[2].Born = s.Things[0].Born })
	add("a Ref that is not there", stateOf(8, tree), func(*impl.State) {})
	add("a Ref born behind", stateOf(8, tree, leaf), func(*impl.State) {})
	add("a Ref to itself", stateOf(1, ownRef()), func(*impl.State) {})
	add("a Ref that is the text's sum", stateOf(8, leaf, impl.Thing{Refs: []string{impl.Sum("leaf", 8)}}), func(*impl.State) {})
}

// ownRef is a thing that has its own sum among its Refs.
func ownRef() impl.Thing {
	for c := range 256 {
		for _, text := range words("abcdefgh", 2) {
			x := impl.Thing{Text: text, Refs: []string{string([]byte{byte(c)})}}
			if sumOf(x, 1) == x.Refs[0] {
				return x
			}
		}
	}
	panic("there is none")
}

func addPins(add adder) {
	add("one pin too many", pinned(grown(), impl.MaxPins+1), func(*impl.State) {})
	add("pins not in order", grown(), func(s *impl.State) { s.Pins[0], s.Pins[1] = s.Pins[1], s.Pins[0] })
	add("a name twice", grown(), func(s *impl.State) { s.Pins[1].Name = "a" })
	for _, name := range []string{"", strings.Repeat("n", impl.MaxName+1), "a b", "\x7f", "\x20", "a\x00"} {
		add("a pin named "+name, grown(), func(s *impl.State) { s.Pins = s.Pins[:1]; s.Pins[0].Name = name })
	}
	for name, sum := range sumsNotThere() {
		add("a pin on "+name, twoBytes(), func(s *impl.State) { s.Pins = []impl.Pin{{Name: "n", Sum: sum}} })
	}
}

// twoBytes is a state of width 2 with one thing, whose sum ends with a zero.
func twoBytes() impl.State {
	return stateOf(2, leafWith(2, endsWithZero))
}

func endsWithZero(sum string) bool {
	return sum[0] != 0 && sum[1] == 0
}

// sumsNotThere are sums of no thing of twoBytes.
func sumsNotThere() map[string]string {
	sum := twoBytes().Things[0].Sum
	return map[string]string{"nothing": "", "half a sum": sum[:1], "a sum with a zero behind it": sum + "\x00", "nine bytes": sum + "1234567", "another sum": "zz", "the last byte": sum[1:], "eight bytes": sum + strings.Repeat("\x00", 6)}
}

func addLeases(add adder) {
	add("one lease too many", leased(grown(), impl.MaxLeases+1), func(*impl.State) {})
	add("leases not in order", grown(), func(s *impl.State) { s.Leases[0], s.Leases[1] = s.Leases[1], s.Leases[0] })
	add("a number twice", grown(), func(s *impl.State) { s.Leases[1].Number = 3 })
	for name, number := range map[string]int{"0": 0, "below": -1, "behind Given": 21} {
		add("a lease "+name, grown(), func(s *impl.State) { s.Leases = s.Leases[:1]; s.Leases[0].Number = number })
	}
	for name, until := range map[string]int{"now": 50, "before": 49, "below": -1, "too far": 50 + impl.MaxHold + 1, "for good": 1<<63 - 1} {
		add("a lease until "+name, grown(), func(s *impl.State) { s.Leases[1].Until = until })
	}
	add("a lease behind the last time", full(), func(s *impl.State) { s.Leases[7].Until++ })
	for name, sum := range sumsNotThere() {
		add("a lease on "+name, twoBytes(), func(s *impl.State) {
			s.Given, s.Leases = 1, []impl.Lease{{Number: 1, Sum: sum, Until: 1}}
		})
	}
}

func TestStatesThatAreNotValid(t *testing.T) {
	for name, s := range notValidStates() {
		if plainState(s) {
			t.Fatalf("%s: the test's own mistake", name)
		}
		if impl.ValidState(s) {
			t.Errorf("%s: valid", name)
		}
		for _, k := range kinds() {
			if c := impl.Apply(s, validEntries(k, max(1, min(8, s.Width)))[0]); !sameChanged(c, impl.Changed{Code: 1}) {
				t.Errorf("%s: kind %d has code %d, not 1 and nothing", name, k.kind, c.Code)
			}
		}
	}
}

func TestEntriesThatAreNotValidAreNotApplied(t *testing.T) {
	s := grown()
	sum, thing := s.Things[0].Sum, impl.Thing{Text: "new"}
	for name, e := range map[string]impl.Entry{
		"nothing":            {},
		"kind 8":             {Kind: 8},
		"kind below":         {Kind: -1, Number: 1},
		"put for 0":          {Kind: impl.EntPut, Thing: thing},
		"put too long":       {Kind: impl.EntPut, Thing: thing, Number: impl.MaxHold + 1},
		"put with a sum":     {Kind: impl.EntPut, Thing: thing, Number: 1, Sum: sum},
		"put of no thing":    {Kind: impl.EntPut, Thing: impl.Thing{Refs: []string{"short"}}, Number: 1},
		"pin by no name":     {Kind: impl.EntPin, Sum: sum},
		"pin by a bad name":  {Kind: impl.EntPin, Sum: sum, Name: "a b"},
		"pin of half a sum":  {Kind: impl.EntPin, Sum: sum[:7], Name: "a"},
		"pin with a number":  {Kind: impl.EntPin, Sum: sum, Name: "a", Number: 1},
		"unpin with a sum":   {Kind: impl.EntUnpin, Sum: sum, Name: "a"},
		"lease for 0":        {Kind: impl.EntLease, Sum: sum},
		"lease below 0":      {Kind: impl.EntLease, Sum: sum, Number: -1},
		"lease too long":     {Kind: impl.EntLease, Sum: sum, Number: impl.MaxHold + 1},
		"lease with a thing": {Kind: impl.EntLease, Sum: sum, Number: 1, Thing: thing},
		"give 0":             {Kind: impl.EntGive},
		"give too much":      {Kind: impl.EntGive, Number: impl.MaxTime + 1},
		"wait 0":             {Kind: impl.EntWait},
		"wait too long":      {Kind: impl.EntWait, Number: impl.MaxHold + 1},
		"drop of a long sum": {Kind: impl.EntDrop, Sum: sum + "x"},
		"drop with a name":   {Kind: impl.EntDrop, Sum: sum, Name: "a"},
	} {
		if c := impl.Apply(s, e); !sameChanged(c, impl.Changed{Code: 1}) {
			t.Errorf("%s: code %d", name, c.Code)
		}
	}
}

// checkApply holds Apply against the document said a second time.
func checkApply(t *testing.T, s impl.State, e impl.Entry) impl.Changed {
	t.Helper()
	was := copyState(s)
	got, want := impl.Apply(s, e), plainApply(s, e)
	if !sameState(s, was) {
		t.Fatalf("%#v: the state that was given is changed", e)
	}
	if !sameChanged(got, want) {
		t.Fatalf("%#v of a state with %d things, %d pins, %d leases: code %d, not %d", e, len(s.Things), len(s.Pins), len(s.Leases), got.Code, want.Code)
	}
	if got.Code == 0 && (!impl.ValidState(got.State) || !plainState(got.State)) {
		t.Fatalf("%#v gives a state that is not valid", e)
	}
	return got
}

func wantCode(t *testing.T, name string, s impl.State, e impl.Entry, code int) {
	t.Helper()
	if c := checkApply(t, s, e); c.Code != code {
		t.Errorf("%s: code %d, not %d", name, c.Code, code)
	}
}

func TestPutAtItsLimits(t *testing.T) {
	old, new := leaves(impl.MaxThings, 8), impl.Thing{Text: "new"}
	put := func(x impl.Thing) impl.Entry { return impl.Entry{Kind: impl.EntPut, Number: impl.MaxHold, Thing: x} }
	wantCode(t, "the last thing", stateOf(8, old[1:]...), put(new), 0)
	wantCode(t, "one thing too many", stateOf(8, old...), put(new), 4)
	wantCode(t, "there already, among as many as can be", stateOf(8, old...), put(old[0]), 0)
	wantCode(t, "the last lease", leased(stateOf(8, old[0]), impl.MaxLeases-1), put(new), 0)
	wantCode(t, "one lease too many", leased(stateOf(8, old[0]), impl.MaxLeases), put(new), 4)
	wantCode(t, "one lease too many on what is there", leased(stateOf(8, old[0]), impl.MaxLeases), put(old[0]), 4)
	s := stateOf(8, old[0])
	s.Given = impl.MaxTime - 1
	wantCode(t, "the last number", s, put(new), 0)
	s.Given = impl.MaxTime
	wantCode(t, "Given above", s, put(new), 4)
	wantCode(t, "Given above, of what is there", s, put(old[0]), 4)
	s.Given, s.Births = 0, impl.MaxTime-1
	wantCode(t, "the last birth", s, put(new), 0)
	s.Births = impl.MaxTime
	wantCode(t, "Births above", s, put(new), 4)
	wantCode(t, "no birth of what is there", s, put(old[0]), 0)
	s.Now = impl.MaxTime
	wantCode(t, "at the last time", s, put(old[0]), 0)
	wantCode(t, "a Ref that is not there ahead of full lists", full(), put(impl.Thing{Refs: []string{"abcdefgh"}}), 2)
}

func TestPinAtItsLimits(t *testing.T) {
	s := stateOf(8, leaves(2, 8)...)
	pin := func(name string, sum string) impl.Entry {
		return impl.Entry{Kind: impl.EntPin, Name: name, Sum: sum}
	}
	here, there := s.Things[0].Sum, s.Things[1].Sum
	wantCode(t, "the last pin", pinned(s, impl.MaxPins-1), pin("x", here), 0)
	wantCode(t, "one pin too many", pinned(s, impl.MaxPins), pin("x", here), 4)
	wantCode(t, "not there, ahead of full", pinned(s, impl.MaxPins), pin("x", "abcdefgh"), 2)
	for _, name := range []string{"n1000", "n1050", "n1099"} {
		c := checkApply(t, pinned(s, impl.MaxPins), pin(name, there))
		if c.Code != 0 || len(c.State.Pins) != impl.MaxPins {
			t.Errorf("%s does not hold another thing: code %d", name, c.Code)
		}
		wantCode(t, "a name that is there, a thing that is not", pinned(s, 100), pin(name, "abcdefgh"), 2)
	}
	for _, name := range []string{"!", "n1", "n1000a", "n10990", "~", strings.Repeat("n", impl.MaxName)} {
		wantCode(t, "a new name "+name, pinned(s, 99), pin(name, there), 0)
	}
	wantCode(t, "full", full(), pin("x", full().Things[0].Sum), 4)
}

func TestLeaseAtItsLimits(t *testing.T) {
	s := stateOf(8, leaves(2, 8)...)
	lease := func(sum string, ticks int) impl.Entry {
		return impl.Entry{Kind: impl.EntLease, Sum: sum, Number: ticks}
	}
	here := s.Things[0].Sum
	wantCode(t, "the last lease", leased(s, impl.MaxLeases-1), lease(here, 1), 0)
	wantCode(t, "one lease too many", leased(s, impl.MaxLeases), lease(here, 1), 4)
	wantCode(t, "not there, ahead of full", leased(s, impl.MaxLeases), lease("abcdefgh", 1), 2)
	s.Given = impl.MaxTime - 1
	wantCode(t, "the last number", s, lease(here, impl.MaxHold), 0)
	s.Given = impl.MaxTime
	wantCode(t, "Given above", s, lease(here, 1), 4)
	s.Given, s.Births, s.Now = 5, impl.MaxTime, impl.MaxTime
	wantCode(t, "no birth", s, lease(here, impl.MaxHold), 0)
	things := stateOf(8, leaves(impl.MaxThings, 8)...)
	wantCode(t, "no thing", things, lease(things.Things[9].Sum, 1), 0)
}

func TestGiveAndUnpinWhatIsThereAndWhatIsNot(t *testing.T) {
	s := grown()
	for number := 1; number <= 22; number++ {
		want := 5
		if number == 3 || number == 7 || number == 19 {
			want = 0
		}
		wantCode(t, "give", s, impl.Entry{Kind: impl.EntGive, Number: number}, want)
	}
	wantCode(t, "the greatest number", full(), impl.Entry{Kind: impl.EntGive, Number: impl.MaxTime}, 5)
	for name, want := range map[string]int{"a": 0, "b": 0, "top": 0, "A": 5, "aa": 5, "c": 5, "to": 5, "topp": 5, "!": 5, "~": 5} {
		wantCode(t, name, s, impl.Entry{Kind: impl.EntUnpin, Name: name}, want)
	}
	wantCode(t, "nothing to give", impl.State{Width: 8, Given: 9}, impl.Entry{Kind: impl.EntGive, Number: 9}, 5)
	wantCode(t, "nothing to unpin", impl.State{Width: 8}, impl.Entry{Kind: impl.EntUnpin, Name: "a"}, 5)
}

func TestWaitAtItsLimits(t *testing.T) {
	wait := func(ticks int) impl.Entry { return impl.Entry{Kind: impl.EntWait, Number: ticks} }
	for ticks, left := range map[int]int{1: 2, 4: 2, 5: 1, 9: 1, 10: 0, 11: 0, impl.MaxHold: 0} {
		c := checkApply(t, grown(), wait(ticks))
		if c.Code != 0 || c.State.Now != 50+ticks || len(c.State.Leases) != left {
			t.Errorf("%d ticks: code %d, %d leases", ticks, c.Code, len(c.State.Leases))
		}
	}
	for _, ticks := range []int{1, 2, 77, impl.MaxHold} {
		s := impl.State{Width: 1, Now: impl.MaxTime - ticks}
		wantCode(t, "to the last time", s, wait(ticks), 0)
		s.Now++
		wantCode(t, "beyond the last time", s, wait(ticks), 4)
	}
	wantCode(t, "full", full(), wait(1), 4)
}

// All entries of all kinds, in histories that go through clashes, full lists of names and things that come and go.
func TestHistoriesAgainstTheDocument(t *testing.T) {
	codes := map[[2]int]int{}
	for seed := range 120 {
		d := newDice(seed)
		s := impl.State{Width: []int{1, 8, 1, 2}[seed%4]}
		for range 150 {
			e := d.entry(s)
			c := checkApply(t, s, e)
			codes[[2]int{e.Kind, c.Code}]++
			if c.Code == 0 {
				s = c.State
			}
		}
	}
	for _, k := range [][2]int{{1, 0}, {1, 2}, {1, 3}, {2, 0}, {2, 2}, {3, 0}, {3, 5}, {4, 0}, {4, 2}, {5, 0}, {5, 5}, {6, 0}, {7, 0}, {7, 2}, {7, 6}} {
		if codes[k] < 20 {
			t.Errorf("kind %d had code %d in %d cases only", k[0], k[1], codes[k])
		}
	}
}

// roomy gives the same state in lists with room behind them, and a look that tells whether they are as they were.
func roomy(s impl.State) (impl.State, func() bool) {
	was := copyState(s)
	out := s
	out.Things = append(make([]impl.Kept, 0, len(s.Things)+3), s.Things...)
	out.Pins = append(make([]impl.Pin, 0, len(s.Pins)+3), s.Pins...)
	out.Leases = append(make([]impl.Lease, 0, len(s.Leases)+3), s.Leases...)
	for i, k := range s.Things {
		out.Things[i].Thing.Refs = append(make([]string, 0, len(k.Thing.Refs)+3), k.Thing.Refs...)
	}
	same := func() bool {
		things, pins, leases := len(s.Things), len(s.Pins), len(s.Leases)
		return sameState(out, was) && sameKept(out.Things[:things+1][things], impl.Kept{}) &&
			out.Pins[:pins+1][pins] == impl.Pin{} && out.Leases[:leases+1][leases] == impl.Lease{}
	}
	return out, same
}

// scribbleState writes over all lists of a state and what lies behind them.
func scribbleState(s impl.State) {
	for _, k := range s.Things {
		scribble(k.Thing.Refs)
	}
	clear(s.Things[:cap(s.Things)])
	clear(s.Pins[:cap(s.Pins)])
	clear(s.Leases[:cap(s.Leases)])
}

func entriesForGrown() []impl.Entry {
	s := grown()
	tree := s.Things[slices.IndexFunc(s.Things, func(k impl.Kept) bool { return k.Thing.Text == "tree" })]
	wood := s.Things[slices.IndexFunc(s.Things, func(k impl.Kept) bool { return k.Thing.Text == "" })]
	return []impl.Entry{
		{Kind: impl.EntPut, Number: 5, Thing: impl.Thing{Text: "new", Refs: sortedSums(8, tree.Thing, wood.Thing)}},
		{Kind: impl.EntPut, Number: 5, Thing: tree.Thing},
		{Kind: impl.EntPut, Number: 5, Thing: impl.Thing{Refs: []string{"abcdefgh"}}},
		{Kind: impl.EntPin, Name: "aa", Sum: tree.Sum},
		{Kind: impl.EntPin, Name: "a", Sum: wood.Sum},
		{Kind: impl.EntUnpin, Name: "a"},
		{Kind: impl.EntLease, Sum: wood.Sum, Number: 9},
		{Kind: impl.EntGive, Number: 3},
		{Kind: impl.EntWait, Number: 1},
		{Kind: impl.EntDrop, Sum: wood.Sum},
	}
}

func TestStatesShareNoMemory(t *testing.T) {
	for _, e := range entriesForGrown() {
		s, same := roomy(grown())
		refs := append(make([]string, 0, 40), e.Thing.Refs...)
		e.Thing.Refs = refs
		impl.ValidState(s)
		c, again := impl.Apply(s, e), impl.Apply(s, e)
		if !same() {
			t.Errorf("%#v: Apply wrote into its state", e)
		}
		was := copyState(again.State)
		scribbleState(c.State)
		if !same() || !sameState(again.State, was) {
			t.Errorf("%#v: the answer shares a list with its argument or with another answer", e)
		}
		if slices.Contains(refs[:cap(refs)], "scribble") {
			t.Errorf("%#v: the answer shares a list with the entry", e)
		}
	}
}

func TestNoTwoListsOfAStateShareMemory(t *testing.T) {
	under := leaves(4, 8)
	refs := sortedSums(8, under...)
	var things []impl.Thing
	for _, text := range []string{"a", "b", "c"} {
		things = append(things, impl.Thing{Text: text, Refs: refs}) // one list for three things
	}
	s := stateOf(8, append(under, things...)...)
	c := impl.Apply(s, impl.Entry{Kind: impl.EntPut, Number: 1, Thing: impl.Thing{Text: "d", Refs: refs}})
	if c.Code != 0 {
		t.Fatal(c.Code)
	}
	for i, k := range c.State.Things {
		if len(k.Thing.Refs) == 0 {
			continue
		}
		scribble(k.Thing.Refs)
		for _, o := range c.State.Things[i+1:] {
			if len(o.Thing.Refs) > 0 && !slices.Equal(o.Thing.Refs, refs) {
				t.Error("two lists of one answer share memory")
			}
		}
	}
	if slices.Contains(refs, "scribble") {
		t.Error("the answer shares a list with its argument")
	}
}

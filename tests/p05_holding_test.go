package tests

import (
	"slices"
	"testing"

	"loop.example/kilnvault/impl"
)

func entPut(x impl.Thing, ticks int) impl.Entry {
	return impl.Entry{Kind: impl.EntPut, Number: ticks, Thing: x}
}

func entPin(name, sum string) impl.Entry {
	return impl.Entry{Kind: impl.EntPin, Name: name, Sum: sum}
}

func entLease(sum string, ticks int) impl.Entry {
	return impl.Entry{Kind: impl.EntLease, Sum: sum, Number: ticks}
}

func entDrop(sum string) impl.Entry {
	return impl.Entry{Kind: impl.EntDrop, Sum: sum}
}

func entWait(ticks int) impl.Entry {
	return impl.Entry{Kind: impl.EntWait, Number: ticks}
}

// must applies entries that can be applied, one after the other.
func must(t *testing.T, s impl.State, entries ...impl.Entry) impl.State {
	t.Helper()
	for _, e := range entries {
		c := impl.Apply(s, e)
		if c.Code != 0 {
			t.Fatalf("%#v: code %d", e, c.Code)
		}
		s = c.State
	}
	return s
}

func TestWhatIsPutIsThereAndBorrowed(t *testing.T) {
	for width := 2; width <= impl.MaxWidth; width++ {
		s := impl.State{Width: width, Now: 3}
		var under []impl.Thing
		for i, x := range leaves(20, width) {
			x.Refs = sortedSums(width, under...)
			c := impl.Apply(s, entPut(x, i+1))
			at := place(c.State, sumOf(x, width))
			if c.Code != 0 || c.Sum != sumOf(x, width) || at < 0 || !sameThing(c.State.Things[at].Thing, x) {
				t.Fatalf("width %d: thing %d is not there: code %d", width, i, c.Code)
			}
			if c.State.Things[at].Born != i+1 || c.State.Births != i+1 {
				t.Errorf("thing %d is born as %d", i, c.State.Things[at].Born)
			}
			want := impl.Lease{Number: i + 1, Sum: c.Sum, Until: 3 + i + 1}
			if c.Lease != i+1 || c.State.Given != i+1 || c.State.Leases[len(c.State.Leases)-1] != want {
				t.Errorf("thing %d is not borrowed: %#v", i, c.State.Leases)
			}
			s, under = c.State, append(under, x)
		}
	}
}

func TestWhatIsThereAlreadyIsBorrowedAnew(t *testing.T) {
	leaf := impl.Thing{Text: "leaf"}
	tree := impl.Thing{Text: "tree", Refs: sortedSums(8, leaf)}
	s := must(t, impl.State{Width: 8}, entPut(leaf, 5), entPut(tree, 5), entWait(4))
	c := impl.Apply(s, entPut(leaf, 7))
	if c.Code != 0 || c.Sum != sumOf(leaf, 8) || c.Lease != 3 || c.A != "" || c.B != "" {
		t.Fatalf("%#v", c)
	}
	if c.State.Births != 2 || !slices.EqualFunc(c.State.Things, s.Things, sameKept) {
		t.Error("the things are not as they were")
	}
	leases := append(slices.Clone(s.Leases), impl.Lease{Number: 3, Sum: c.Sum, Until: 11})
	if !slices.Equal(c.State.Leases, leases) || c.State.Given != 3 {
		t.Errorf("%#v", c.State.Leases)
	}
}

// A thing that was dropped and is put anew is born anew, behind all that was there before.
func TestWhatComesBackIsBornAnew(t *testing.T) {
	a, b := impl.Thing{Text: "a"}, impl.Thing{Text: "b"}
	s := must(t, impl.State{Width: 8}, entPut(a, 1), entPut(b, 1), entWait(1), entDrop(sumOf(a, 8)), entPut(a, 1))
	if s.Births != 3 || s.Things[place(s, sumOf(a, 8))].Born != 3 || s.Things[place(s, sumOf(b, 8))].Born != 2 {
		t.Errorf("%#v", s.Things)
	}
}

func TestPinsAndLeasesHold(t *testing.T) {
	leaf := impl.Thing{Text: "leaf"}
	sum := sumOf(leaf, 8)
	free := must(t, impl.State{Width: 8}, entPut(leaf, 1), entWait(1))
	for name, hold := range map[string]impl.Entry{"pin": entPin("n", sum), "lease": entLease(sum, 1), "put": entPut(leaf, 1)} {
		s := must(t, free, hold)
		if !isHeldIn(s, sum) {
			t.Errorf("%s does not hold it", name)
		}
		if c := impl.Apply(s, entDrop(sum)); !sameChanged(c, impl.Changed{Code: 6}) {
			t.Errorf("%s: dropped with code %d", name, c.Code)
		}
	}
	if c := impl.Apply(free, entDrop(sum)); c.Code != 0 || len(c.State.Things) != 0 {
		t.Errorf("what nothing holds is not dropped: code %d", c.Code)
	}
}

func TestANameHoldsOneThingAlone(t *testing.T) {
	things := leaves(3, 8)
	s := stateOf(8, things...)
	for _, x := range things {
		s = must(t, s, entPin("n", sumOf(x, 8)))
		if len(s.Pins) != 1 || s.Pins[0] != (impl.Pin{Name: "n", Sum: sumOf(x, 8)}) {
			t.Errorf("%#v", s.Pins)
		}
	}
	must(t, s, entDrop(sumOf(things[0], 8)), entDrop(sumOf(things[1], 8)))
	if c := impl.Apply(s, entDrop(sumOf(things[2], 8))); c.Code != 6 {
		t.Errorf("code %d", c.Code)
	}
}

func TestALeaseHoldsUntilItsTime(t *testing.T) {
	leaf := impl.Thing{Text: "leaf"}
	sum := sumOf(leaf, 8)
	for _, ticks := range []int{1, 2, 10} {
		s := must(t, stateOf(8, leaf), entLease(sum, ticks))
		for left := ticks; left > 0; left-- {
			if c := impl.Apply(s, entDrop(sum)); c.Code != 6 {
				t.Errorf("%d of %d ticks left: code %d", left, ticks, c.Code)
			}
			s = must(t, s, entWait(1))
		}
		must(t, s, entDrop(sum))
	}
	s := must(t, stateOf(8, leaf), entLease(sum, impl.MaxHold), entLease(sum, 1))
	s = must(t, s, impl.Entry{Kind: impl.EntGive, Number: 1})
	if c := impl.Apply(s, entDrop(sum)); c.Code != 6 {
		t.Errorf("the second lease does not hold: code %d", c.Code)
	}
	must(t, s, impl.Entry{Kind: impl.EntGive, Number: 2}, entDrop(sum))
}

// Each of the things that another stands on, at the first, a middle and the last place of its Refs.
func TestARefIsNeverDropped(t *testing.T) {
	under := leaves(impl.MaxRefs, 8)
	tree := impl.Thing{Text: "tree", Refs: sortedSums(8, under...)}
	s := stateOf(8, append(under, tree)...)
	for _, x := range under {
		if c := impl.Apply(s, entDrop(sumOf(x, 8))); !sameChanged(c, impl.Changed{Code: 6}) {
			t.Errorf("%q is dropped with code %d", x.Text, c.Code)
		}
	}
	s = must(t, s, entDrop(sumOf(tree, 8)))
	for _, x := range under {
		s = must(t, s, entDrop(sumOf(x, 8)))
	}
	if len(s.Things) != 0 {
		t.Error("not all is gone")
	}
}

func TestDropOfWhatIsNotThere(t *testing.T) {
	s := twoBytes()
	for name, sum := range sumsNotThere() {
		want := 1
		if len(sum) == 2 {
			want = 2
		}
		if c := impl.Apply(s, entDrop(sum)); !sameChanged(c, impl.Changed{Code: want}) {
			t.Errorf("%s: code %d", name, c.Code)
		}
	}
	must(t, s, entDrop(s.Things[0].Sum))
}

// In histories of all entries, nothing goes but by a drop of what is neither held nor a Ref.
func TestNothingIsGoneThatIsHeld(t *testing.T) {
	for seed := range 60 {
		d := newDice(seed + 1000)
		s := impl.State{Width: 8}
		for range 120 {
			e := d.entry(s)
			c := impl.Apply(s, e)
			if c.Code != 0 {
				continue
			}
			for _, k := range s.Things {
				gone := place(c.State, k.Sum) < 0
				mayGo := e.Kind == impl.EntDrop && e.Sum == k.Sum && !isHeldIn(s, k.Sum) && !isRefIn(s, k.Sum)
				if gone != mayGo {
					t.Fatalf("seed %d: %#v: gone %v", seed, e, gone)
				}
			}
			s = c.State
		}
	}
}

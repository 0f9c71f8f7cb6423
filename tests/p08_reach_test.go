package tests

import (
	"slices"
	"strings"
	"testing"

	"loop.example/kilnvault/impl"
)

// standsOn says whether the thing with the sum above is the one with the sum below, or stands on it, directly or through others.
func standsOn(s impl.State, above, below string) bool {
	if above == below {
		return true
	}
	return slices.ContainsFunc(s.Things[place(s, above)].Thing.Refs, func(ref string) bool { return standsOn(s, ref, below) })
}

func plainHolders(s impl.State, sum string) ([]string, []int) {
	var names []string
	var numbers []int
	for _, p := range s.Pins {
		if standsOn(s, p.Sum, sum) {
			names = append(names, p.Name)
		}
	}
	for _, l := range s.Leases {
		if standsOn(s, l.Sum, sum) {
			numbers = append(numbers, l.Number)
		}
	}
	return names, numbers
}

// checkReach holds Live, Waste, Holders and Room against the document's words.
func checkReach(t *testing.T, s impl.State) {
	t.Helper()
	var live, waste []string
	room := 0
	for _, k := range s.Things {
		names, numbers := plainHolders(s, k.Sum)
		if len(names)+len(numbers) > 0 {
			live = append(live, k.Sum)
		} else {
			waste = append(waste, k.Sum)
		}
		room += 1 + s.Width*len(k.Thing.Refs) + len(k.Thing.Text)
		gotNames, gotNumbers := impl.Holders(s, k.Sum)
		if !slices.Equal(gotNames, names) || !slices.Equal(gotNumbers, numbers) {
			t.Fatalf("Holders of %q: %q %d, not %q %d", k.Thing.Text, gotNames, gotNumbers, names, numbers)
		}
	}
	if got := impl.Live(s); !slices.Equal(got, live) {
		t.Fatalf("Live: %q, not %q", got, live)
	}
	if got := impl.Waste(s); !slices.Equal(got, waste) {
		t.Fatalf("Waste: %q, not %q", got, waste)
	}
	if got := impl.Room(s); got != room {
		t.Fatalf("Room: %d, not %d", got, room)
	}
	for _, sum := range impl.Live(s) {
		for _, ref := range s.Things[place(s, sum)].Thing.Refs {
			if !slices.Contains(impl.Live(s), ref) {
				t.Fatalf("a Ref of %q is not live", sum)
			}
		}
	}
}

func TestReachInHistories(t *testing.T) {
	some := 0
	for seed := range 40 {
		d := newDice(seed + 500)
		s := impl.State{Width: []int{8, 1, 2}[seed%3]}
		for step := range 120 {
			if c := impl.Apply(s, d.entry(s)); c.Code == 0 {
				s = c.State
			}
			if step%8 == 0 {
				checkReach(t, s)
				some += len(impl.Live(s)) * len(impl.Waste(s))
			}
		}
	}
	if some < 1000 {
		t.Errorf("too few things both live and waste: %d", some)
	}
}

func TestReachOfPlainStates(t *testing.T) {
	checkReach(t, impl.State{Width: 8})
	checkReach(t, grown())
	s := grown()
	s.Pins = nil
	checkReach(t, s)
	s.Leases = nil
	checkReach(t, s)
	if len(impl.Live(s)) != 0 || len(impl.Waste(s)) != 4 {
		t.Error("what nothing holds is waste")
	}
	checkReach(t, stateOf(3, leaves(20, 3)...))
}

// A chain of things, each on the one before it, held at one place: below it all is live, above it all is waste.
func TestReachAlongAChain(t *testing.T) {
	chain := []impl.Thing{{Text: "end"}}
	for range impl.MaxThings - 1 {
		chain = append(chain, impl.Thing{Refs: sortedSums(8, chain[len(chain)-1])})
	}
	s := stateOf(8, chain...)
	for _, at := range []int{0, 1, 300, 598, 599} {
		s.Pins = []impl.Pin{{Name: "here", Sum: sumOf(chain[at], 8)}}
		if live, waste := impl.Live(s), impl.Waste(s); !slices.Equal(live, sortedSums(8, chain[:at+1]...)) || !slices.Equal(waste, sortedSums(8, chain[at+1:]...)) {
			t.Errorf("held at %d: %d live, %d waste", at, len(live), len(waste))
		}
		for i, x := range chain {
			if i%40 != 0 && i != at && i != at+1 {
				continue
			}
			names, numbers := impl.Holders(s, sumOf(x, 8))
			if (len(names) == 1) != (i <= at) || len(numbers) != 0 {
				t.Fatalf("held at %d: thing %d by %q, %d", at, i, names, numbers)
			}
		}
	}
}

// layers is a state as full as can be: layers of things, each of which stands on all of the layer below it.
func layers() impl.State {
	all := leaves(impl.MaxRefs, 8)
	for len(all) < impl.MaxThings {
		below := all[len(all)-impl.MaxRefs:]
		refs := sortedSums(8, below...)
		for i := range impl.MaxRefs {
			all = append(all, impl.Thing{Text: strings.Repeat("x", impl.MaxText-i), Refs: refs})
		}
	}
	return stateOf(8, all...)
}

// There are more ways down through these things than any walk along ways would come to its end with.
func TestReachThroughManyWays(t *testing.T) {
	s := layers()
	top := slices.MaxFunc(s.Things, func(a, b impl.Kept) int { return a.Born - b.Born })
	s.Pins = []impl.Pin{{Name: "top", Sum: top.Sum}}
	if live, waste := impl.Live(s), impl.Waste(s); len(live) != 571 || len(waste) != 29 || !slices.IsSorted(live) || !slices.IsSorted(waste) {
		t.Errorf("%d live, %d waste", len(live), len(waste))
	}
	for i, k := range s.Things {
		if i%10 != 0 && k.Born < 560 {
			continue
		}
		names, numbers := impl.Holders(s, k.Sum)
		if want := k.Born <= 570 || k.Born == 600; (len(names) == 1) != want || len(numbers) != 0 {
			t.Fatalf("born as %d: %q, %d", k.Born, names, numbers)
		}
	}
	room := 0
	for _, k := range s.Things {
		room += len(thingForm(k.Thing))
	}
	if got := impl.Room(s); got != room || got <= 1000000 {
		t.Errorf("%d, not %d", got, room)
	}
}

func TestReachAtTheLimits(t *testing.T) {
	s := full()
	names, numbers := impl.Holders(s, s.Things[0].Sum)
	if len(names) != impl.MaxPins || len(numbers) != impl.MaxLeases || !slices.IsSorted(names) || !slices.IsSorted(numbers) {
		t.Errorf("%d names, %d numbers", len(names), len(numbers))
	}
	if live, waste := impl.Live(s), impl.Waste(s); len(live) != 1 || len(waste) != impl.MaxThings-1 || live[0] != s.Things[0].Sum {
		t.Errorf("%d live, %d waste", len(live), len(waste))
	}
}

func TestHoldersOfWhatIsNotThere(t *testing.T) {
	s := pinned(twoBytes(), 3)
	for name, sum := range sumsNotThere() {
		if names, numbers := impl.Holders(s, sum); len(names)+len(numbers) != 0 {
			t.Errorf("%s: %q, %d", name, names, numbers)
		}
	}
	if names, _ := impl.Holders(s, s.Things[0].Sum); len(names) != 3 {
		t.Errorf("%q", names)
	}
}

func TestReachOfAStateThatIsNotValid(t *testing.T) {
	for name, s := range notValidStates() {
		if live, waste := impl.Live(s), impl.Waste(s); len(live)+len(waste) != 0 {
			t.Errorf("%s: %d live, %d waste", name, len(live), len(waste))
		}
		if room := impl.Room(s); room != 0 {
			t.Errorf("%s: room %d", name, room)
		}
		for _, k := range s.Things {
			if names, numbers := impl.Holders(s, k.Sum); len(names)+len(numbers) != 0 {
				t.Errorf("%s: %q, %d", name, names, numbers)
				break
			}
		}
		impl.Holders(s, "")
	}
}

func TestReachWritesIntoNothing(t *testing.T) {
	s, same := roomy(grown())
	live, waste := impl.Live(s), impl.Waste(s)
	names, numbers := impl.Holders(s, s.Things[1].Sum)
	impl.Room(s)
	scribble(live)
	scribble(waste)
	scribble(names)
	clear(numbers[:cap(numbers)])
	if !same() {
		t.Error("a state is not as it was")
	}
	checkReach(t, s)
}

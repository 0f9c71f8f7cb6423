package tests

import (
	"slices"
	"strconv"
	"testing"

	"loop.example/kilnvault/impl"
)

// mostUnits is how many units a round of promise 9 may have.
func mostUnits(s impl.State) int {
	refs := 0
	for _, k := range s.Things {
		refs += len(k.Thing.Refs)
	}
	return 3*(len(s.Things)+len(s.Pins)+len(s.Leases)+refs) + 3
}

// checkRound goes through a whole round with nothing between its units and asks for what promise 9 says of it.
func checkRound(t *testing.T, s impl.State, rounds int) impl.State {
	t.Helper()
	live, waste := impl.Live(s), impl.Waste(s)
	now, r := s, impl.Round{Rounds: rounds}
	var dropped []string
	for unit := range mostUnits(s) {
		x := impl.Unit(now, r)
		if x.Code != 0 {
			t.Fatalf("unit %d: code %d", unit, x.Code)
		}
		if r.Phase == impl.PhaseMark && x.Round.Phase != impl.PhaseMark && !slices.Equal(slices.Sorted(slices.Values(r.Marked)), live) {
			t.Fatalf("%d are marked, %d are live", len(r.Marked), len(live))
		}
		if x.Round.Phase == impl.PhaseMark && len(x.Dropped) > 0 {
			t.Fatal("dropped while marking")
		}
		now, r, dropped = x.State, x.Round, append(dropped, x.Dropped...)
		if r.Phase == impl.PhaseRest {
			break
		}
	}
	if !sameRound(r, impl.Round{Rounds: rounds + 1}) {
		t.Fatalf("not at its end behind %d units: phase %d, rounds %d", mostUnits(s), r.Phase, r.Rounds)
	}
	checkDropped(t, s, dropped)
	if !slices.Equal(slices.Sorted(slices.Values(dropped)), waste) {
		t.Fatalf("%d are dropped, %d are waste", len(dropped), len(waste))
	}
	want := copyState(s)
	want.Things = slices.DeleteFunc(want.Things, func(k impl.Kept) bool { return slices.Contains(waste, k.Sum) })
	if !sameState(now, want) {
		t.Fatal("not the state without its waste")
	}
	return now
}

// checkDropped asks whether things were dropped from the youngest to the oldest.
func checkDropped(t *testing.T, s impl.State, dropped []string) {
	t.Helper()
	last := s.Births + 1
	for _, sum := range dropped {
		at := place(s, sum)
		if at < 0 || s.Things[at].Born >= last {
			t.Fatalf("%q is dropped out of its turn", sum)
		}
		last = s.Things[at].Born
	}
}

func TestPhases(t *testing.T) {
	if impl.PhaseRest != 0 || impl.PhaseMark != 1 || impl.PhaseSweep != 2 {
		t.Error("phases have other numbers")
	}
	if impl.MaxThings*(impl.MaxRefs+2)+impl.MaxLog != mostQueue {
		t.Error("a queue has another limit")
	}
}

func TestWholeRoundsInHistories(t *testing.T) {
	some := 0
	for seed := range 60 {
		d := newDice(seed + 2000)
		s := impl.State{Width: []int{8, 2, 1}[seed%3]}
		for step := range 150 {
			if c := impl.Apply(s, d.entry(s)); c.Code == 0 {
				s = c.State
			}
			if step%30 == 29 {
				some += len(impl.Live(s)) * len(impl.Waste(s))
				left := checkRound(t, s, step)
				checkRound(t, left, 0)
				if d.Intn(3) == 0 {
					s = left
				}
			}
		}
	}
	if some < 1000 {
		t.Errorf("too few things both live and waste: %d", some)
	}
}

func TestWholeRoundsOfPlainStates(t *testing.T) {
	for width := 1; width <= impl.MaxWidth; width++ {
		checkRound(t, impl.State{Width: width}, 0)
	}
	s := grown()
	checkRound(t, s, 7)
	s.Leases = nil
	checkRound(t, s, 7)
	s.Pins = s.Pins[:2]
	if left := checkRound(t, s, 7); len(left.Things) != 3 {
		t.Errorf("%d are left", len(left.Things))
	}
	s.Pins = nil
	if left := checkRound(t, s, impl.MaxTime-1); len(left.Things) != 0 || left.Births != s.Births {
		t.Errorf("%d are left", len(left.Things))
	}
}

// A chain of things, each on the one before it, held at one place.
func TestWholeRoundsOfAChain(t *testing.T) {
	chain := []impl.Thing{{Text: "end"}}
	for range 79 {
		chain = append(chain, impl.Thing{Refs: sortedSums(8, chain[len(chain)-1])})
	}
	s := stateOf(8, chain...)
	checkRound(t, s, 0)
	for _, at := range []int{0, 1, 40, 78, 79} {
		s.Pins = []impl.Pin{{Name: "here", Sum: sumOf(chain[at], 8)}}
		if left := checkRound(t, s, 0); len(left.Things) != at+1 {
			t.Errorf("held at %d: %d are left", at, len(left.Things))
		}
	}
}

// Things of which each stands on all of the layer below it: every Ref is shared.
func TestWholeRoundsOverSharedRefs(t *testing.T) {
	all := leaves(6, 8)
	for layer := range 5 {
		refs := sortedSums(8, all[len(all)-6:]...)
		for i := range 6 {
			all = append(all, impl.Thing{Text: strconv.Itoa(10*layer + i), Refs: refs})
		}
	}
	s := stateOf(8, all...)
	for _, at := range []int{0, 5, 6, 17, 35} {
		s.Pins = []impl.Pin{{Name: "a", Sum: sumOf(all[at], 8)}, {Name: "b", Sum: sumOf(all[at], 8)}}
		if left := checkRound(t, s, 0); len(left.Things) != at/6*6+1 {
			t.Errorf("held at %d: %d are left", at, len(left.Things))
		}
	}
}

func TestWholeRoundsAtTheLimits(t *testing.T) {
	s := full()
	for i := range s.Pins {
		s.Pins[i].Sum = s.Things[3*i].Sum
	}
	for i := range s.Leases {
		s.Leases[i].Sum = s.Things[2*i].Sum
	}
	if left := checkRound(t, s, 0); len(left.Things) != 250 || left.Births != impl.MaxTime {
		t.Errorf("%d are left", len(left.Things))
	}
	under := leaves(impl.MaxRefs, 8)
	wide := stateOf(8, append(under, impl.Thing{Refs: sortedSums(8, under...)})...)
	wide.Pins = []impl.Pin{{Name: "n", Sum: sumOf(impl.Thing{Refs: sortedSums(8, under...)}, 8)}}
	if left := checkRound(t, wide, 0); len(left.Things) != impl.MaxRefs+1 {
		t.Errorf("%d are left", len(left.Things))
	}
}

// Units among entries, each told to the round by Shade: what is held is never gone, and both functions do as the document says.
func TestUnitsBesideOtherWork(t *testing.T) {
	rounds, dropped, late := 0, 0, 0
	for seed := range 60 {
		d := newDice(seed + 3000)
		s, r := impl.State{Width: []int{8, 1, 2}[seed%3]}, impl.Round{}
		for range 300 {
			if d.Intn(2) == 0 {
				s, r = workBetween(t, d, s, r)
				continue
			}
			live := impl.Live(s)
			x := checkUnit(t, s, r)
			if x.Code != 0 || !slices.Equal(impl.Live(x.State), live) {
				t.Fatalf("seed %d: code %d, or not all is there that is live", seed, x.Code)
			}
			if r.Phase == impl.PhaseSweep && len(r.Queue) > 0 {
				late++
			}
			s, r, dropped = x.State, x.Round, dropped+len(x.Dropped)
		}
		rounds += r.Rounds
	}
	if rounds < 100 || dropped < 100 || late < 100 {
		t.Errorf("too little was done: %d rounds, %d dropped, %d marked while sweeping", rounds, dropped, late)
	}
}

func workBetween(t *testing.T, d dice, s impl.State, r impl.Round) (impl.State, impl.Round) {
	t.Helper()
	e := d.entry(s)
	if e.Kind == impl.EntDrop {
		e = entWait(1 + d.Intn(15)) // drops are for the units alone
	}
	c := impl.Apply(s, e)
	if c.Code != 0 {
		return s, r
	}
	sum := e.Sum
	if e.Kind == impl.EntPut {
		sum = c.Sum
	}
	if sum != "" {
		r = checkShade(t, c.State, r, sum)
	}
	return c.State, r
}

// Rounds of all kinds, not only such as units lead to: most sweeps meet an EntDrop with a code sooner or later.
func TestUnitsOfAnyRound(t *testing.T) {
	refused, marked := 0, 0
	for seed := range 80 {
		d := newDice(seed + 4000)
		s := impl.State{Width: []int{8, 1}[seed%2]}
		for range 60 {
			if c := impl.Apply(s, d.entry(s)); c.Code == 0 {
				s = c.State
			}
		}
		for range 30 {
			r := d.round(s)
			x := checkUnit(t, s, r)
			checkShade(t, s, r, d.sum(s))
			if x.Code == 0 && len(r.Queue) == 0 && x.Round.Phase == impl.PhaseSweep && len(x.Dropped) == 0 {
				refused++
			}
			marked += max(0, len(x.Round.Marked)-len(r.Marked))
		}
	}
	if refused < 100 || marked < 100 {
		t.Errorf("too little was done: %d not dropped, %d marked", refused, marked)
	}
}

// round makes a round for a state; a few are not valid.
func (d dice) round(s impl.State) impl.Round {
	r := impl.Round{Phase: 1 + d.Intn(2), Top: d.Intn(s.Births + 2), Rounds: d.Intn(3)}
	r.At = r.Top + 1
	if d.Intn(2) == 0 {
		r.At = d.Intn(r.Top + 3)
	}
	for range d.Intn(4) {
		r.Queue = append(r.Queue, d.sum(s))
	}
	for range d.Intn(8) {
		if sum := d.sum(s); !slices.Contains(r.Marked, sum) || d.Intn(20) == 0 {
			r.Marked = append(r.Marked, sum)
		}
	}
	return r
}

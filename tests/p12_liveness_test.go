package tests

import (
	"slices"
	"testing"

	"loop.example/kilnvault/impl"
)

// checkTwoRounds clears until Rounds has grown by two and asks whether all waste is gone, and nothing else.
func checkTwoRounds(t *testing.T, v impl.Vault, units int) impl.Vault {
	t.Helper()
	waste := impl.Waste(v.State)
	want := copyState(v.State)
	want.Things = slices.DeleteFunc(want.Things, func(k impl.Kept) bool { return slices.Contains(waste, k.Sum) })
	was := v
	var dropped []string
	for most := 8 * mostUnits(v.State); v.Round.Rounds < was.Round.Rounds+2; most -= units {
		x := impl.Clear(v, units)
		if x.Code != 0 || x.Units != units || most < 0 {
			t.Fatalf("%d units: code %d, %d done, %d rounds", units, x.Code, x.Units, v.Round.Rounds-was.Round.Rounds)
		}
		v, dropped = x.Vault, append(dropped, x.Dropped...)
	}
	if !sameState(v.State, want) {
		t.Fatalf("from phase %d: %d things, not %d", was.Round.Phase, len(v.State.Things), len(want.Things))
	}
	slices.Sort(dropped)
	if !slices.Equal(dropped, waste) {
		t.Fatalf("from phase %d: %d dropped, %d were waste", was.Round.Phase, len(dropped), len(waste))
	}
	log := v.Log
	log.Loose = log.Loose[:len(log.Loose)-len(waste)]
	if !sameLog(log, was.Log) || !impl.ValidVault(v) {
		t.Fatal("the log is not what it was and the drops behind it")
	}
	return v
}

// From whatever point of a round a vault has come to.
func TestTwoRoundsClearAllWaste(t *testing.T) {
	var phases [3]int
	gone := 0
	for seed := range 60 {
		d := newDice(seed + 6000)
		v := opened(t, []int{8, 1, 2}[seed%3], 500)
		for step := range 120 {
			v = perform(t, v, d.act(v)).vault
			if step%6 == 0 {
				phases[v.Round.Phase]++
				w := checkTwoRounds(t, v, 1+seed%3)
				gone += len(v.State.Things) - len(w.State.Things)
			}
		}
	}
	if phases[0] < 100 || phases[1] < 100 || phases[2] < 50 || gone < 200 {
		t.Errorf("too little is done: %d by phase, %d gone", phases, gone)
	}
}

// What was marked and then let go is there at the end of its round, and gone with the next.
func TestWhatIsLetGoBehindItsMark(t *testing.T) {
	leaf := impl.Thing{Text: "leaf"}
	tree := impl.Thing{Text: "tree", Refs: sortedSums(8, leaf)}
	v := after(t, opened(t, 8, 100), entPut(leaf, 1), entPut(tree, 1), entPin("n", sumOf(tree, 8)), entWait(1))
	v = cleared(t, v, 3) // the round begins; tree and leaf are marked
	v = after(t, v, impl.Entry{Kind: impl.EntUnpin, Name: "n"})
	w := cleared(t, v, 3) // both are gone through; its end
	if w.Round.Rounds != 1 || w.Round.Phase != impl.PhaseRest || len(w.State.Things) != 2 {
		t.Fatalf("%#v, %d things", w.Round, len(w.State.Things))
	}
	x := checkClear(t, w, 4)
	if x.Vault.Round.Rounds != 2 || !slices.Equal(x.Dropped, []string{sumOf(tree, 8), sumOf(leaf, 8)}) {
		t.Fatalf("%#v, %q", x.Vault.Round, x.Dropped)
	}
	checkTwoRounds(t, v, 1)
	checkTwoRounds(t, w, 1)
}

// What was put in the midst of a round and let go is left to the next one.
func TestWhatIsPutAndLetGoInTheMidst(t *testing.T) {
	for phase := range 3 {
		v, things := tower(t, phase)
		on := impl.Thing{Text: "on", Refs: sortedSums(8, things[1])}
		v = after(t, v, entPut(on, 1), entWait(1))
		checkTwoRounds(t, v, 1)
		for v.Round.Rounds == 0 {
			v = cleared(t, v, 1)
		}
		if _, ok := impl.Fetch(v, sumOf(on, 8)); ok == (phase == impl.PhaseRest) {
			t.Errorf("phase %d: it is there: %v", phase, ok)
		}
	}
}

// Vaults as great as can be: layers of things with more Refs than one Clear has units for.
func TestTwoRoundsOfAGreatVault(t *testing.T) {
	s := layers()
	slices.SortFunc(s.Things, func(a, b impl.Kept) int { return a.Born - b.Born })
	var entries []impl.Entry
	for _, k := range s.Things {
		entries = append(entries, entPut(k.Thing, 1), entWait(1))
	}
	v := vaultOf(t, 8, append(entries, entPin("top", s.Things[599].Sum), entLease(s.Things[550].Sum, 9))...)
	units := 0
	for v.Round.Rounds < 2 {
		x := impl.Clear(v, 1500)
		if x.Code != 0 || x.Units != 1500 {
			t.Fatalf("code %d, %d units", x.Code, x.Units)
		}
		v, units = x.Vault, units+1500
		if !impl.ValidVault(v) {
			t.Fatal("not valid")
		}
	}
	if len(v.State.Things) != 571 || !slices.Equal(impl.Live(v.State), sortedKept(v.State)) || units < 2*17000 {
		t.Errorf("%d things, %d units", len(v.State.Things), units)
	}
	v = checkTwoRounds(t, after(t, v, impl.Entry{Kind: impl.EntUnpin, Name: "top"}), 5000)
	if len(v.State.Things) != 541 {
		t.Errorf("%d things", len(v.State.Things))
	}
}

func sortedKept(s impl.State) []string {
	var out []string
	for _, k := range s.Things {
		out = append(out, k.Sum)
	}
	return out
}

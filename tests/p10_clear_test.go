package tests

import (
	"slices"
	"strconv"
	"testing"

	"loop.example/kilnvault/impl"
)

// nextToGo gives the sum of the thing that the next unit is to drop, if one is.
func nextToGo(v impl.Vault) string {
	if v.Round.Phase == impl.PhaseRest || len(v.Round.Queue) > 0 {
		return ""
	}
	var next impl.Kept
	for _, k := range v.State.Things {
		if k.Born < v.Round.At && k.Born > next.Born {
			next = k
		}
	}
	if slices.Contains(v.Round.Marked, next.Sum) {
		return ""
	}
	return next.Sum
}

// In histories of all that may be done to a vault, a unit that comes to a thing that is not marked drops it: EntDrop has no code.
func TestNoDropHasACode(t *testing.T) {
	drops, between := 0, [3]int{}
	for seed := range 90 {
		d := newDice(seed + 4000)
		v := opened(t, []int{8, 1, 2}[seed%3], impl.MaxRoom)
		for range 130 {
			a := d.act(v)
			if a.word != "clear" {
				x := perform(t, v, a)
				if a.word == "" && x.code == 0 {
					between[v.Round.Phase]++
				}
				v = x.vault
				continue
			}
			for range a.number {
				sum := nextToGo(v)
				x := perform(t, v, act{word: "clear", number: 1})
				if sum != "" && !slices.Equal(x.dropped, []string{sum}) || sum == "" && len(x.dropped) > 0 {
					t.Fatalf("seed %d: the unit dropped %q, not %q", seed, x.dropped, sum)
				}
				v, drops = x.vault, drops+len(x.dropped)
			}
		}
		if !plainVault(v) || !impl.ValidVault(v) {
			t.Fatalf("seed %d: the vault is not valid", seed)
		}
	}
	if drops < 500 || between[0] < 200 || between[1] < 1000 || between[2] < 500 {
		t.Errorf("too little is done: %d drops, %d commands by phase", drops, between)
	}
}

// tower is a vault of three things, each on the one before it, which nothing holds, with a round in each of its phases ahead of the first drop.
func tower(t *testing.T, phase int) (impl.Vault, []impl.Thing) {
	t.Helper()
	low := impl.Thing{Text: "low"}
	mid := impl.Thing{Text: "mid", Refs: sortedSums(8, low)}
	top := impl.Thing{Text: "top", Refs: sortedSums(8, mid)}
	v := after(t, opened(t, 8, 100), entPut(low, 1), entPut(mid, 1), entPut(top, 1), entWait(1))
	switch phase {
	case impl.PhaseMark:
		v = cleared(t, v, 1)
	case impl.PhaseSweep:
		v = cleared(t, v, 2) // and top is gone
	}
	if v.Round.Phase != phase {
		t.Fatalf("phase %d, not %d", v.Round.Phase, phase)
	}
	return v, []impl.Thing{low, mid, top}
}

// What is put, pinned or borrowed between two units is shaded, and then it stays, with all that it stands on.
func TestWhatIsTakenInTheMidstOfARound(t *testing.T) {
	for phase := range 3 {
		v, things := tower(t, phase)
		mid := sumOf(things[1], 8)
		on := impl.Thing{Text: "on", Refs: []string{mid}}
		for name, e := range map[string]impl.Entry{"put again": entPut(things[1], 9), "put on it": entPut(on, 9), "pinned": entPin("n", mid), "borrowed": entLease(mid, 9)} {
			sum := mid
			if name == "put on it" {
				sum = sumOf(on, 8)
			}
			w := after(t, v, e)
			want := copyRound(v.Round)
			if phase != impl.PhaseRest {
				want.Queue = append(want.Queue, sum)
			}
			if !sameRound(w.Round, want) {
				t.Errorf("phase %d, %s: %#v", phase, name, w.Round)
			}
			for w.Round.Rounds < 2 {
				w = cleared(t, w, 1)
			}
			for _, x := range things[:2] {
				if got, ok := impl.Fetch(w, sumOf(x, 8)); !ok || !sameThing(got, x) {
					t.Errorf("phase %d, %s: %q is gone", phase, name, x.Text)
				}
			}
			if _, ok := impl.Fetch(w, sumOf(things[2], 8)); ok {
				t.Errorf("phase %d, %s: the top is there", phase, name)
			}
		}
	}
}

// What is given back, loosened, or whose time goes by leaves the round as it is.
func TestWhatIsGivenInTheMidstOfARound(t *testing.T) {
	for phase := range 3 {
		v, things := tower(t, phase)
		sum := sumOf(things[0], 8)
		v = after(t, v, entPin("n", sum), entLease(sum, 5), entLease(sum, 5))
		for _, e := range []impl.Entry{{Kind: impl.EntUnpin, Name: "n"}, {Kind: impl.EntGive, Number: 4}, entWait(1), entWait(5)} {
			if w := after(t, v, e); !sameRound(w.Round, v.Round) {
				t.Errorf("phase %d: %#v makes %#v", phase, e, w.Round)
			}
		}
	}
}

// Marked things are not shaded again.
func TestWhatIsMarkedIsNotShaded(t *testing.T) {
	v, things := tower(t, impl.PhaseMark)
	sum := sumOf(things[0], 8)
	v = cleared(t, after(t, v, entPin("n", sum)), 1)
	w := after(t, v, entPin("m", sum), entLease(sum, 3), entPut(things[0], 3))
	if !slices.Equal(w.Round.Marked, []string{sum}) || len(w.Round.Queue) != 0 {
		t.Errorf("%#v", w.Round)
	}
}

func TestUnitsThatAreAskedFor(t *testing.T) {
	if impl.MaxWork != 10000 {
		t.Error(impl.MaxWork)
	}
	for phase := range 3 {
		v, _ := tower(t, phase)
		if x := checkClear(t, v, 0); x.Code != 0 || x.Units != 0 || len(x.Dropped) != 0 || !sameVault(x.Vault, v) {
			t.Errorf("phase %d: no units: code %d, %d units", phase, x.Code, x.Units)
		}
		x := checkClear(t, v, impl.MaxWork)
		if x.Code != 0 || x.Units != impl.MaxWork || len(x.Vault.State.Things) != 0 || x.Vault.Round.Rounds < 4000 {
			t.Errorf("phase %d: as many as may be asked for: code %d, %d units", phase, x.Code, x.Units)
		}
		for _, units := range []int{-1 << 63, -1, impl.MaxWork + 1, 1<<63 - 1} {
			if x := checkClear(t, v, units); !sameSwept(x, impl.Swept{Code: 1}) {
				t.Errorf("phase %d: %d units: code %d", phase, units, x.Code)
			}
		}
	}
}

// Each number of units, from each vault on the way: what is done at once is what is done one by one.
func TestUnitsAtOnceAndOneByOne(t *testing.T) {
	v := after(t, grownVault(t), impl.Entry{Kind: impl.EntUnpin, Name: "top"}, entWait(20))
	dropped := 0
	for range 30 {
		for units := range 30 {
			dropped += len(checkClear(t, v, units).Dropped)
		}
		v = cleared(t, v, 1)
	}
	if dropped == 0 {
		t.Error("nothing is dropped")
	}
}

// wasteful opens a log of that size, some of it Loose, with six leaves that nothing holds.
func wasteful(t *testing.T, size int) impl.Vault {
	t.Helper()
	var entries []impl.Entry
	for _, x := range leaves(6, 8) {
		entries = append(entries, entPut(x, 1))
	}
	v := vaultOf(t, 8, append(entries, waits(size-6)...)...)
	v.Log.Loose = v.Log.Safe[size/2:]
	v.Log.Safe = v.Log.Safe[:size/2]
	return v
}

// A log that is full, or becomes full while things are dropped, ends the work ahead of the unit that would drop one more.
func TestClearingIntoAFullLog(t *testing.T) {
	for free := range 8 {
		v := wasteful(t, impl.MaxLog-free)
		x := checkClear(t, v, 100)
		went := min(free, 6)
		if x.Code != 0 || len(x.Dropped) != went || logSize(x.Vault) != impl.MaxLog-free+went || len(x.Vault.State.Things) != 6-went {
			t.Fatalf("%d free: code %d, %d dropped", free, x.Code, len(x.Dropped))
		}
		if free >= 6 {
			if x.Units != 100 {
				t.Errorf("%d free: %d units", free, x.Units)
			}
			continue
		}
		if x.Units != 1+free { // the round begins, and each other unit drops
			t.Errorf("%d free: %d units", free, x.Units)
		}
		phase := impl.PhaseSweep
		if free == 0 {
			phase = impl.PhaseMark // as it was ahead of the unit that was not done
		}
		if x.Vault.Round.Phase != phase || x.Vault.Round.At != 7-free {
			t.Errorf("%d free: phase %d, at %d", free, x.Vault.Round.Phase, x.Vault.Round.At)
		}
		if !impl.ValidVault(x.Vault) {
			t.Errorf("%d free: not valid", free)
		}
		y := checkClear(t, x.Vault, 100)
		if y.Code != 0 || y.Units != 0 || len(y.Dropped) != 0 || !sameVault(y.Vault, x.Vault) {
			t.Errorf("%d free: once more: code %d, %d units", free, y.Code, y.Units)
		}
	}
}

// A full log bars no unit that drops nothing: not where all is held, and not where a drop has a code.
func TestUnitsBesideAFullLog(t *testing.T) {
	leaf := impl.Thing{Text: "leaf"}
	tree := impl.Thing{Text: "tree", Refs: sortedSums(8, leaf)}
	entries := []impl.Entry{entPut(leaf, 1), entPut(tree, 1), entPin("n", sumOf(tree, 8))}
	v := vaultOf(t, 8, append(entries, waits(impl.MaxLog-3)...)...)
	if x := checkClear(t, v, 1000); x.Code != 0 || x.Units != 1000 || len(x.Dropped) != 0 || !sameLog(x.Vault.Log, v.Log) {
		t.Errorf("all is held: code %d, %d units", x.Code, x.Units)
	}
	marked := []string{sumOf(leaf, 8), sumOf(tree, 8)}
	free := vaultOf(t, 8, append(append(entries, unpin("n")), waits(impl.MaxLog-4)...)...)
	free.Round = impl.Round{Phase: impl.PhaseSweep, Top: 2, At: 3, Marked: marked}
	if x := checkClear(t, free, 9); x.Code != 0 || x.Units != 4 || x.Vault.Round.Phase != impl.PhaseMark || len(x.Dropped) != 0 {
		t.Errorf("marked and let go: code %d, %d units", x.Code, x.Units) // two are passed by, the round ends, the next begins and comes to a drop
	}
	free.Round = impl.Round{Phase: impl.PhaseSweep, Top: 2, At: 3, Queue: marked}
	if x := checkClear(t, free, 5); x.Code != 0 || x.Units != 5 || x.Vault.Round.Rounds != 1 {
		t.Errorf("shaded and let go: code %d, %d units", x.Code, x.Units)
	}
	v.Round = impl.Round{Phase: impl.PhaseMark, Top: 2, At: 3}
	x := checkClear(t, v, 2)
	if want := (impl.Round{Phase: impl.PhaseSweep, Top: 2, At: 1}); x.Code != 0 || x.Units != 2 || !sameRound(x.Vault.Round, want) || len(x.Vault.State.Things) != 2 {
		t.Errorf("drops with a code: code %d, %d units, %#v", x.Code, x.Units, x.Vault.Round)
	}
}

// The last rounds that are counted: the unit behind them has a code, and so has Clear.
func TestClearingUpToTheLastRound(t *testing.T) {
	v := after(t, opened(t, 8, 100), entPut(impl.Thing{Text: "x"}, 1), entWait(1))
	v.Round.Rounds = impl.MaxTime - 1
	if x := checkClear(t, v, 3); x.Code != 0 || x.Units != 3 || !sameRound(x.Vault.Round, impl.Round{Rounds: impl.MaxTime}) {
		t.Errorf("the last round: code %d, %#v", x.Code, x.Vault.Round)
	}
	for _, units := range []int{4, 5, impl.MaxWork} {
		if x := checkClear(t, v, units); !sameSwept(x, impl.Swept{Code: 1}) {
			t.Errorf("%d units: code %d, %d dropped", units, x.Code, len(x.Dropped))
		}
	}
	for phase, r := range []impl.Round{{}, {Phase: 1, Top: 1, At: 2}, {Phase: 2, Top: 1, At: 2}, {Phase: 2, Top: 1, At: 1}} {
		v.Round = r
		v.Round.Rounds = impl.MaxTime
		if x := checkClear(t, v, 0); x.Code != 0 || !sameVault(x.Vault, v) {
			t.Errorf("round %d, no units: code %d", phase, x.Code)
		}
		if x := checkClear(t, v, 1); !sameSwept(x, impl.Swept{Code: 1}) {
			t.Errorf("round %d, one unit: code %d", phase, x.Code)
		}
	}
	full := wasteful(t, impl.MaxLog)
	full.Round = impl.Round{Phase: 1, Top: 6, At: 7, Rounds: impl.MaxTime}
	if x := checkClear(t, full, 1); !sameSwept(x, impl.Swept{Code: 1}) {
		t.Errorf("where the log is full too: code %d", x.Code)
	}
}

// broad is a vault with a tree on as many leaves as can be.
func broad(t *testing.T) (impl.Vault, impl.Thing) {
	t.Helper()
	under := leaves(impl.MaxRefs, 8)
	tree := impl.Thing{Refs: sortedSums(8, under...)}
	v := opened(t, 8, 10000)
	for _, x := range append(under, tree) {
		v = after(t, v, entPut(x, 1))
	}
	return after(t, v, entWait(1)), tree
}

// A unit whose round comes out with too much in Queue or Marked gives Clear a code, be it the last one or not.
func TestClearingWithListsTooLong(t *testing.T) {
	v, tree := broad(t)
	sum := sumOf(tree, 8)
	for _, over := range []int{0, 1, 29} {
		queue := append([]string{sum}, noThings(mostQueue-impl.MaxRefs+over)...)
		v.Round = impl.Round{Phase: impl.PhaseMark, Top: 31, At: 32, Queue: queue}
		for _, units := range []int{1, 2, 40} {
			x := checkClear(t, v, units)
			if over == 0 && (x.Code != 0 || x.Units != units) || over > 0 && !sameSwept(x, impl.Swept{Code: 1}) {
				t.Errorf("a queue of %d, %d units: code %d, %d done", len(queue), units, x.Code, x.Units)
			}
		}
		if x := checkClear(t, v, 0); x.Code != 0 || !sameVault(x.Vault, v) {
			t.Errorf("a queue of %d, no units: code %d", len(queue), x.Code)
		}
	}
	v.Round = impl.Round{Phase: impl.PhaseSweep, Top: 31, At: 32, Queue: []string{"abcdefgh", sum}}
	for _, marked := range []int{impl.MaxThings - 1, impl.MaxThings} {
		v.Round.Marked = noThings(marked)
		if x := checkClear(t, v, 1); x.Code != 0 || x.Units != 1 {
			t.Errorf("%d marked, a unit that marks none: code %d", marked, x.Code)
		}
		x := checkClear(t, v, 2)
		if marked < impl.MaxThings && (x.Code != 0 || len(x.Vault.Round.Marked) != impl.MaxThings) || marked == impl.MaxThings && !sameSwept(x, impl.Swept{Code: 1}) {
			t.Errorf("%d marked, and one more: code %d", marked, x.Code)
		}
	}
}

// A queue that is full is left as it is by what is put, pinned and borrowed; one with a place left is not.
func TestCommandsBesideAFullQueue(t *testing.T) {
	v, tree := broad(t)
	sum := sumOf(tree, 8)
	for phase := 1; phase <= 2; phase++ {
		for _, e := range []impl.Entry{entPut(tree, 1), entPut(impl.Thing{Text: "new"}, 1), entPin("n", sum), entLease(sum, 1)} {
			for _, count := range []int{mostQueue - 1, mostQueue} {
				v.Round = impl.Round{Phase: phase, Top: 31, At: 32, Queue: noThings(count)}
				if w := after(t, v, e); len(w.Round.Queue) != mostQueue || !impl.ValidVault(w) {
					t.Errorf("phase %d, %d in the queue: %#v leaves %d", phase, count, e, len(w.Round.Queue))
				}
			}
		}
	}
}

// Rounds of any kind, valid for their vault though no work would lead there.
func TestClearingOfAnyRound(t *testing.T) {
	codes := 0
	for seed := range 60 {
		d := newDice(seed + 7000)
		width := []int{8, 1, 2}[seed%3]
		v, _ := impl.Open(width, impl.MaxRoom, impl.Log{Safe: history(seed+70, width, 50)})
		for range 30 {
			if v.Round = d.round(v.State); !plainRound(v.State, v.Round) {
				if x := impl.Clear(v, 1); !sameSwept(x, impl.Swept{Code: 1}) {
					t.Fatalf("a round that is not valid: code %d", x.Code)
				}
				codes++
				continue
			}
			checkClear(t, v, d.Intn(40))
			checkCommand(t, v, d.command(v.State))
		}
	}
	if codes == 0 {
		t.Error("no round is wrong")
	}
}

// The same where the log has few places left, or none: units that mark, that pass by what is marked and let go, and that come to a drop with a code go on.
func TestClearingOfAnyRoundIntoAFullLog(t *testing.T) {
	early, done := 0, 0
	wait := impl.FormEntry(entWait(1), 8)
	for seed := range 40 {
		d := newDice(seed + 7500)
		width := []int{8, 1, 2}[seed%3]
		entries := history(seed+90, width, 40)
		l := impl.Log{Safe: slices.Repeat([]string{wait}, impl.MaxLog-len(entries)-d.Intn(3)), Loose: entries}
		v, code := impl.Open(width, impl.MaxRoom, l)
		if code != 0 {
			t.Fatalf("seed %d: code %d", seed, code)
		}
		for range 15 {
			if v.Round = d.round(v.State); !plainRound(v.State, v.Round) {
				continue
			}
			units := d.Intn(30)
			if x := checkClear(t, v, units); x.Units < units {
				early++
			} else {
				done++
			}
		}
	}
	if early < 20 || done < 100 {
		t.Errorf("%d ended early, %d did not", early, done)
	}
}

// grownVault is a vault of width 8 with nine births, of which four things are there, with pins, leases, and both parts of a log.
func grownVault(t *testing.T) impl.Vault {
	t.Helper()
	v := opened(t, 8, 1000)
	for i := range 5 {
		v = after(t, v, entPut(impl.Thing{Text: strconv.Itoa(i)}, 1))
	}
	v = cleared(t, after(t, v, entWait(1)), 7)
	leaf, twig := impl.Thing{Text: "leaf"}, impl.Thing{Text: "twig"}
	tree := impl.Thing{Text: "tree", Refs: sortedSums(8, leaf, twig)}
	wood := impl.Thing{Refs: sortedSums(8, tree, leaf)}
	v = checkFlush(t, after(t, v, entPut(leaf, 20), entPut(twig, 2), entPut(tree, 20), entPut(wood, 20)))
	v = after(t, v, entPin("top", sumOf(wood, 8)), entPin("a", sumOf(tree, 8)), entLease(sumOf(leaf, 8), 9), entWait(2))
	if v.State.Births != 9 || len(v.State.Things) != 4 || len(v.State.Pins) != 2 || len(v.State.Leases) != 4 {
		t.Fatalf("%#v", v.State)
	}
	return v
}

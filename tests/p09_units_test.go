package tests

import (
	"encoding/binary"
	"slices"
	"strconv"
	"strings"
	"testing"

	"loop.example/kilnvault/impl"
)

// noThings gives count sums of eight bytes, each another, which are of no thing.
func noThings(count int) []string {
	out := make([]string, count)
	for i := range out {
		out[i] = string(binary.BigEndian.AppendUint64(nil, uint64(i)))
	}
	return out
}

// validRounds are rounds for grown, which has 9 Births.
func validRounds() map[string]impl.Round {
	twice := []string{"abcdefgh", "abcdefgh"}
	return map[string]impl.Round{
		"nothing":             {},
		"empty lists":         {Queue: []string{}, Marked: []string{}},
		"the last rest":       {Rounds: impl.MaxTime},
		"the last mark":       {Phase: 1, Top: 9, At: 10, Rounds: impl.MaxTime},
		"the last sweep":      {Phase: 2, Top: 9, At: 10, Rounds: impl.MaxTime},
		"mark with no births": {Phase: 1, At: 1},
		"mark half of them":   {Phase: 1, Top: 4, At: 5},
		"sweep, no births":    {Phase: 2, At: 1},
		"sweep at its end":    {Phase: 2, Top: 9, At: 1},
		"sweep in between":    {Phase: 2, Top: 9, At: 6},
		"a full queue":        {Phase: 1, Top: 9, At: 10, Queue: noThings(mostQueue)},
		"a queue, sweeping":   {Phase: 2, Top: 9, At: 3, Queue: noThings(mostQueue)},
		"in the queue twice":  {Phase: 1, Top: 9, At: 10, Queue: twice},
		"in both lists":       {Phase: 1, Top: 9, At: 10, Queue: twice, Marked: twice[:1]},
		"all are marked":      {Phase: 1, Top: 9, At: 10, Marked: noThings(impl.MaxThings)},
		"marked, sweeping":    {Phase: 2, Top: 9, At: 3, Marked: noThings(impl.MaxThings)},
	}
}

// notValidRounds are rounds for grown in which one part alone is wrong.
func notValidRounds() map[string]impl.Round {
	out := map[string]impl.Round{}
	for name, phase := range map[string]int{"3": 3, "below": -1, "far below": -1 << 63, "far above": 1<<63 - 1, "256": 256} {
		out["phase "+name] = impl.Round{Phase: phase}
		out["a round, phase "+name] = impl.Round{Phase: phase, Top: 9, At: 10}
	}
	for name, rest := range map[string]impl.Round{"Queue": {Queue: noThings(1)}, "Marked": {Marked: noThings(1)}, "Top": {Top: 1}, "At": {At: 1}, "Top below": {Top: -1}, "At below": {At: -1}} {
		out["rest with "+name] = rest
	}
	for phase := range 3 {
		base := impl.Round{Phase: phase}
		if phase > 0 {
			base.Top, base.At = 9, 10
			addSums(out, base)
			addTops(out, base)
		}
		for name, rounds := range map[string]int{"below": -1, "far below": -1 << 63, "above": impl.MaxTime + 1, "far above": 1<<63 - 1} {
			r := base
			r.Rounds = rounds
			out["Rounds "+name+", phase "+strconv.Itoa(phase)] = r
		}
	}
	return out
}

func addSums(out map[string]impl.Round, base impl.Round) {
	for name, sums := range map[string][]string{
		"nothing":    {""},
		"seven":      {"abcdefg"},
		"nine":       {"abcdefghi"},
		"the last":   append(noThings(5), "x"),
		"the first":  append([]string{"x"}, noThings(5)...),
		"a zero off": {"abcdefg"},
		"a zero on":  {"abcdefgh\x00"},
	} {
		r := base
		r.Queue = sums
		out["Queue: "+name+strconv.Itoa(base.Phase)] = r
		r = base
		r.Marked = sums
		out["Marked: "+name+strconv.Itoa(base.Phase)] = r
	}
	for name, marked := range map[string][]string{
		"twice":        {"abcdefgh", "abcdefgh"},
		"twice, apart": append(noThings(50), noThings(1)...),
		"one too many": noThings(impl.MaxThings + 1),
		"far too many": noThings(30000),
	} {
		r := base
		r.Marked = marked
		out["Marked: "+name+strconv.Itoa(base.Phase)] = r
	}
	for name, count := range map[string]int{"one too many": mostQueue + 1, "far too many": 100000} {
		r := base
		r.Queue = noThings(count)
		out["Queue: "+name+strconv.Itoa(base.Phase)] = r
	}
}

func addTops(out map[string]impl.Round, base impl.Round) {
	for name, top := range map[string]int{"below": -1, "far below": -1 << 63, "above": 10, "far above": 1<<63 - 1} {
		r := base
		r.Top, r.At = top, top+1
		out["Top "+name+strconv.Itoa(base.Phase)] = r
		if base.Phase == impl.PhaseSweep {
			r.At = 1
			out["Top "+name+", At 1"] = r
		}
	}
	for name, at := range map[string]int{"0": 0, "below": -1, "far below": -1 << 63, "above": 11, "far above": 1<<63 - 1} {
		r := base
		r.At = at
		out["At "+name+strconv.Itoa(base.Phase)] = r
	}
	if base.Phase == impl.PhaseMark {
		for _, at := range []int{1, 5, 9} {
			out["mark at "+strconv.Itoa(at)] = impl.Round{Phase: 1, Top: 9, At: at}
		}
	}
}

func TestValidRounds(t *testing.T) {
	s := grown()
	for name, r := range validRounds() {
		if !plainRound(s, r) {
			t.Fatalf("%s: the test's own mistake", name)
		}
		if !impl.ValidRound(s, r) {
			t.Errorf("%s: not valid", name)
		}
		checkUnit(t, s, r)
		checkShade(t, s, r, s.Things[0].Sum)
	}
	for width := 1; width <= impl.MaxWidth; width++ {
		sums := []string{strings.Repeat("x", width)}
		r := impl.Round{Phase: impl.PhaseMark, At: 1, Queue: sums, Marked: sums}
		if !impl.ValidRound(impl.State{Width: width}, r) {
			t.Errorf("width %d: not valid", width)
		}
	}
}

func TestRoundsThatAreNotValid(t *testing.T) {
	s := grown()
	for name, r := range notValidRounds() {
		if plainRound(s, r) {
			t.Fatalf("%s: the test's own mistake", name)
		}
		if impl.ValidRound(s, r) {
			t.Errorf("%s: valid", name)
		}
		if x := impl.Unit(s, r); !sameCleared(x, impl.Cleared{Code: 1}) {
			t.Errorf("%s: code %d, not 1 and nothing", name, x.Code)
		}
		if x := impl.Shade(s, r, s.Things[0].Sum); !sameRound(x, impl.Round{}) {
			t.Errorf("%s: Shade gives a round", name)
		}
	}
}

func TestRoundsOfStatesThatAreNotValid(t *testing.T) {
	for name, s := range notValidStates() {
		for phase, r := range []impl.Round{{Rounds: 3}, {Phase: 1, At: 1, Rounds: 3}, {Phase: 2, At: 1, Rounds: 3}} {
			if impl.ValidRound(s, r) {
				t.Errorf("%s: phase %d is valid", name, phase)
			}
			if x := impl.Unit(s, r); !sameCleared(x, impl.Cleared{Code: 1}) {
				t.Errorf("%s: phase %d: code %d, not 1 and nothing", name, phase, x.Code)
			}
			if x := impl.Shade(s, r, "abcdefgh"); !sameRound(x, impl.Round{}) {
				t.Errorf("%s: phase %d: Shade gives a round", name, phase)
			}
		}
	}
}

// The last round that can be counted comes to its end; the next one is not begun, nor gone on with.
func TestTheLastRound(t *testing.T) {
	s := grown()
	checkRound(t, s, impl.MaxTime-1)
	for name, r := range map[string]impl.Round{
		"rest":                 {Rounds: impl.MaxTime},
		"mark":                 {Phase: 1, Top: 9, At: 10, Queue: []string{s.Things[0].Sum}, Rounds: impl.MaxTime},
		"mark, an empty queue": {Phase: 1, Top: 9, At: 10, Rounds: impl.MaxTime},
		"sweep":                {Phase: 2, Top: 9, At: 10, Rounds: impl.MaxTime},
		"sweep at its end":     {Phase: 2, Top: 9, At: 1, Rounds: impl.MaxTime},
	} {
		if !impl.ValidRound(s, r) {
			t.Errorf("%s: not valid", name)
		}
		if x := impl.Unit(s, r); !sameCleared(x, impl.Cleared{Code: 1}) {
			t.Errorf("%s: code %d, not 1 and nothing", name, x.Code)
		}
		want := len(r.Queue)
		if r.Phase != impl.PhaseRest {
			want++
		}
		if x := checkShade(t, s, r, s.Things[1].Sum); len(x.Queue) != want || x.Rounds != impl.MaxTime {
			t.Errorf("%s: Shade gives %d in the queue", name, len(x.Queue))
		}
		r.Rounds--
		if x := checkUnit(t, s, r); x.Code != 0 {
			t.Errorf("%s, one round before: code %d", name, x.Code)
		}
	}
}

func TestARoundBegins(t *testing.T) {
	things := leaves(5, 8)
	s := stateOf(8, things...)
	sum := func(i int) string { return sumOf(things[i], 8) }
	s.Births, s.Given = 77, 9
	s.Pins = []impl.Pin{{Name: "a", Sum: sum(3)}, {Name: "b", Sum: sum(1)}, {Name: "c", Sum: sum(3)}, {Name: "d", Sum: sum(0)}}
	s.Leases = []impl.Lease{{Number: 1, Sum: sum(4), Until: 1}, {Number: 5, Sum: sum(1), Until: 1}, {Number: 8, Sum: sum(4), Until: 1}, {Number: 9, Sum: sum(2), Until: 1}}
	x := checkUnit(t, s, impl.Round{Rounds: 6})
	want := impl.Round{Phase: impl.PhaseMark, Queue: []string{sum(3), sum(1), sum(0), sum(4), sum(2)}, Top: 77, At: 78, Rounds: 6}
	if x.Code != 0 || !sameRound(x.Round, want) || !sameState(x.State, s) || len(x.Dropped) != 0 {
		t.Errorf("%#v", x.Round)
	}
}

// What a unit takes out of the queue: of things that are marked, of no things, in either phase.
func TestAUnitMarks(t *testing.T) {
	s := grown()
	byText := func(text string) impl.Kept {
		return s.Things[slices.IndexFunc(s.Things, func(k impl.Kept) bool { return k.Thing.Text == text })]
	}
	leaf, twig, tree, wood := byText("leaf").Sum, byText("twig").Sum, byText("tree").Sum, byText("")
	type lists struct{ queue, marked []string }
	for name, c := range map[string][2]lists{
		"a leaf":                  {{[]string{leaf}, nil}, {nil, []string{leaf}}},
		"marked already":          {{[]string{leaf, twig}, []string{leaf}}, {[]string{twig}, []string{leaf}}},
		"no thing":                {{[]string{"abcdefgh", leaf}, nil}, {[]string{leaf}, nil}},
		"no thing, marked":        {{[]string{"abcdefgh"}, []string{"abcdefgh"}}, {nil, []string{"abcdefgh"}}},
		"with Refs":               {{[]string{wood.Sum, twig}, nil}, {append([]string{twig}, wood.Thing.Refs...), []string{wood.Sum}}},
		"with a Ref marked":       {{[]string{wood.Sum, twig}, []string{tree}}, {[]string{twig, leaf}, []string{tree, wood.Sum}}},
		"with Refs in the queue":  {{append([]string{wood.Sum}, wood.Thing.Refs...), nil}, {slices.Concat(wood.Thing.Refs, wood.Thing.Refs), []string{wood.Sum}}},
		"with all Refs marked":    {{[]string{wood.Sum}, []string{leaf, tree}}, {nil, []string{leaf, tree, wood.Sum}}},
		"twice in the queue":      {{[]string{twig, twig}, nil}, {[]string{twig}, []string{twig}}},
		"twice in it, and marked": {{[]string{twig, twig}, []string{twig}}, {[]string{twig}, []string{twig}}},
	} {
		for _, r := range []impl.Round{{Phase: 1, Top: 9, At: 10, Rounds: 2}, {Phase: 2, Top: 9, At: 10, Rounds: 2}, {Phase: 2, Top: 8, At: 1}} {
			r.Queue, r.Marked = c[0].queue, c[0].marked
			want := r
			want.Queue, want.Marked = c[1].queue, c[1].marked
			x := checkUnit(t, s, r)
			if x.Code != 0 || !sameRound(x.Round, want) || !sameState(x.State, s) || len(x.Dropped) != 0 {
				t.Errorf("%s, phase %d: %#v", name, r.Phase, x.Round)
			}
		}
	}
}

// The unit that finds nothing to mark sweeps, and is the last one if there is nothing to sweep.
func TestMarkingBecomesSweeping(t *testing.T) {
	s := stateOf(8, leaves(3, 8)...)
	s.Births = 8
	young := s.Things[slices.IndexFunc(s.Things, func(k impl.Kept) bool { return k.Born == 3 })].Sum
	mark := impl.Round{Phase: impl.PhaseMark, Top: 8, At: 9, Rounds: 1}
	x := checkUnit(t, s, mark)
	if x.Round.Phase != impl.PhaseSweep || x.Round.At != 3 || x.Round.Top != 8 || !slices.Equal(x.Dropped, []string{young}) || place(x.State, young) >= 0 {
		t.Errorf("%#v", x.Round)
	}
	mark.Marked = []string{young}
	x = checkUnit(t, s, mark)
	if x.Round.Phase != impl.PhaseSweep || x.Round.At != 3 || len(x.Dropped) != 0 || !sameState(x.State, s) || !slices.Equal(x.Round.Marked, mark.Marked) {
		t.Errorf("%#v", x.Round)
	}
	for top := range 4 {
		r := impl.Round{Phase: impl.PhaseMark, Top: top, At: top + 1, Rounds: 1, Marked: noThings(4)}
		x := checkUnit(t, s, r)
		if top == 0 && (!sameRound(x.Round, impl.Round{Rounds: 2}) || !sameState(x.State, s)) {
			t.Errorf("all are born behind Top: %#v", x.Round)
		}
		if top > 0 && (x.Round.Phase != impl.PhaseSweep || x.Round.At != top || len(x.Dropped) != 1) {
			t.Errorf("Top %d: %#v", top, x.Round)
		}
	}
	x = checkUnit(t, impl.State{Width: 8, Births: 5}, impl.Round{Phase: impl.PhaseMark, Top: 5, At: 6})
	if x.Code != 0 || !sameRound(x.Round, impl.Round{Rounds: 1}) {
		t.Errorf("an empty state: %#v", x.Round)
	}
}

// What comes between marking and the first sweep is still marked, and the round is sweeping then.
func TestAQueueWhileSweeping(t *testing.T) {
	things := leaves(3, 8)
	s := stateOf(8, things...)
	r := impl.Round{Phase: impl.PhaseSweep, Top: 3, At: 3}
	r = checkShade(t, s, r, sumOf(things[1], 8))
	x := checkUnit(t, s, r)
	if x.Round.Phase != impl.PhaseSweep || x.Round.At != 3 || len(x.Round.Marked) != 1 || len(x.Dropped) != 0 {
		t.Fatalf("%#v", x.Round)
	}
	x = checkUnit(t, x.State, x.Round)
	if x.Round.At != 2 || len(x.Dropped) != 0 {
		t.Fatalf("%#v", x.Round)
	}
	x = checkUnit(t, x.State, x.Round)
	if x.Round.At != 1 || !slices.Equal(x.Dropped, []string{sumOf(things[0], 8)}) {
		t.Fatalf("%#v", x.Round)
	}
	x = checkUnit(t, x.State, x.Round)
	if !sameRound(x.Round, impl.Round{Rounds: 1}) || len(x.State.Things) != 2 {
		t.Fatalf("%#v", x.Round)
	}
}

// What was born behind Top is left to the next round, held or not.
func TestWhatIsBornBehindTopIsNotGoneThrough(t *testing.T) {
	old, young := leaves(4, 8)[:2], leaves(4, 8)[2:]
	for unitsBefore := 1; unitsBefore <= 3; unitsBefore++ {
		s, r := stateOf(8, old...), impl.Round{}
		for range unitsBefore {
			x := checkUnit(t, s, r)
			s, r = x.State, x.Round
		}
		for _, x := range young {
			s = must(t, s, entPut(x, 1))
		}
		s = must(t, s, entWait(1))
		for range 4 - unitsBefore {
			x := checkUnit(t, s, r)
			s, r = x.State, x.Round
		}
		if r.Rounds != 1 || len(s.Things) != 2 || place(s, sumOf(young[0], 8)) < 0 || place(s, sumOf(young[1], 8)) < 0 {
			t.Errorf("put behind unit %d: %d things, %d rounds", unitsBefore, len(s.Things), r.Rounds)
		}
		if s = checkRound(t, s, 1); len(s.Things) != 0 {
			t.Errorf("%d things are left", len(s.Things))
		}
	}
}

// A drop that has a code is gone over: what is held, or is a Ref of what is there, stays.
func TestADropThatHasACode(t *testing.T) {
	leaf := impl.Thing{Text: "leaf"}
	tree := impl.Thing{Text: "tree", Refs: sortedSums(8, leaf)}
	base := stateOf(8, leaf, tree)
	pin, lease := base, base
	pin.Pins = []impl.Pin{{Name: "n", Sum: sumOf(tree, 8)}}
	lease.Given, lease.Leases = 1, []impl.Lease{{Number: 1, Sum: sumOf(tree, 8), Until: 1}}
	for name, s := range map[string]impl.State{"pinned": pin, "leased": lease} {
		r := impl.Round{Phase: impl.PhaseMark, Top: 2, At: 3, Rounds: 1}
		for _, at := range []int{2, 1} {
			x := checkUnit(t, s, r)
			want := impl.Round{Phase: impl.PhaseSweep, Top: 2, At: at, Rounds: 1}
			if x.Code != 0 || len(x.Dropped) != 0 || !sameRound(x.Round, want) || !sameState(x.State, s) {
				t.Fatalf("%s: at %d: code %d, %#v", name, at, x.Code, x.Round)
			}
			r = x.Round
		}
		if x := checkUnit(t, s, r); !sameRound(x.Round, impl.Round{Rounds: 2}) || !sameState(x.State, s) {
			t.Errorf("%s: %#v", name, x.Round)
		}
	}
	x := checkUnit(t, base, impl.Round{Phase: impl.PhaseSweep, Top: 2, At: 2, Marked: noThings(2)})
	if x.Code != 0 || x.Round.At != 1 || len(x.Dropped) != 0 || !sameState(x.State, base) {
		t.Errorf("a Ref of what is waste itself: %#v", x.Round)
	}
}

// Lists that are full: a unit goes on all the same, and what it makes may be a round that is not valid.
func TestUnitsAtTheLimits(t *testing.T) {
	under := leaves(impl.MaxRefs, 8)
	tree := impl.Thing{Refs: sortedSums(8, under...)}
	s := stateOf(8, append(under, tree)...)
	first := []string{sumOf(tree, 8)}
	r := impl.Round{Phase: impl.PhaseMark, Top: 31, At: 32, Queue: append(first, noThings(mostQueue-1)...)}
	x := checkUnit(t, s, r)
	if x.Code != 0 || len(x.Round.Queue) != mostQueue-1+impl.MaxRefs || !slices.Equal(x.Round.Queue[mostQueue-1:], tree.Refs) {
		t.Errorf("a full queue: code %d, %d in it", x.Code, len(x.Round.Queue))
	}
	if impl.ValidRound(x.State, x.Round) || impl.Unit(x.State, x.Round).Code != 1 {
		t.Error("a queue too long is valid")
	}
	r.Queue = r.Queue[:mostQueue+1-impl.MaxRefs]
	if x = checkUnit(t, s, r); len(x.Round.Queue) != mostQueue || !impl.ValidRound(x.State, x.Round) {
		t.Errorf("a queue that becomes full: %d in it", len(x.Round.Queue))
	}
	for _, count := range []int{impl.MaxThings - 1, impl.MaxThings} {
		r = impl.Round{Phase: impl.PhaseSweep, Top: 31, At: 32, Queue: first, Marked: noThings(count)}
		x = checkUnit(t, s, r)
		if x.Code != 0 || len(x.Round.Marked) != count+1 || x.Round.Marked[count] != first[0] {
			t.Errorf("%d marked: code %d, %d marked", count, x.Code, len(x.Round.Marked))
		}
		if want := count < impl.MaxThings; impl.ValidRound(x.State, x.Round) != want {
			t.Errorf("%d marked: valid is not %v", count+1, want)
		}
	}
}

func TestShade(t *testing.T) {
	s := grown()
	held := s.Things[2].Sum
	for name, r := range map[string]impl.Round{
		"mark":  {Phase: 1, Top: 9, At: 10, Rounds: 4, Queue: []string{"abcdefgh", held}, Marked: []string{s.Things[0].Sum}},
		"sweep": {Phase: 2, Top: 9, At: 4, Rounds: 4, Queue: []string{"abcdefgh", held}, Marked: []string{s.Things[0].Sum}},
	} {
		for i, k := range s.Things {
			want := copyRound(r)
			if i > 0 {
				want.Queue = append(want.Queue, k.Sum) // also where it is in the queue already
			}
			if x := checkShade(t, s, r, k.Sum); !sameRound(x, want) {
				t.Errorf("%s: thing %d: %q", name, i, x.Queue)
			}
		}
		for _, sum := range []string{"abcdefgh", "", held[:7], held + "\x00", held + held} {
			if x := checkShade(t, s, r, sum); !sameRound(x, r) {
				t.Errorf("%s: %q is of no thing", name, sum)
			}
		}
	}
	if x := checkShade(t, s, impl.Round{Rounds: 4}, held); !sameRound(x, impl.Round{Rounds: 4}) {
		t.Errorf("rest: %#v", x)
	}
	for name, sum := range sumsNotThere() {
		r := impl.Round{Phase: 1, Top: 1, At: 2}
		if x := checkShade(t, twoBytes(), r, sum); !sameRound(x, r) {
			t.Errorf("%s is of no thing", name)
		}
	}
}

func TestShadeOfAFullQueue(t *testing.T) {
	s := grown()
	for phase := 1; phase <= 2; phase++ {
		r := impl.Round{Phase: phase, Top: 9, At: 10, Queue: noThings(mostQueue)}
		if x := checkShade(t, s, r, s.Things[0].Sum); !sameRound(x, r) {
			t.Errorf("phase %d: %d in a full queue", phase, len(x.Queue))
		}
		r.Queue = r.Queue[1:]
		x := checkShade(t, s, r, s.Things[0].Sum)
		if len(x.Queue) != mostQueue || x.Queue[mostQueue-1] != s.Things[0].Sum || !impl.ValidRound(s, x) {
			t.Errorf("phase %d: %d in the queue, not the last that it has room for", phase, len(x.Queue))
		}
	}
}

// roomyRound gives the same round in lists with room behind them, and a look that tells whether they are as they were.
func roomyRound(r impl.Round) (impl.Round, func() bool) {
	was := copyRound(r)
	r.Queue = append(make([]string, 0, len(r.Queue)+40), r.Queue...)
	r.Marked = append(make([]string, 0, len(r.Marked)+40), r.Marked...)
	same := func() bool {
		return sameRound(r, was) && r.Queue[:len(r.Queue)+1][len(r.Queue)] == "" && r.Marked[:len(r.Marked)+1][len(r.Marked)] == ""
	}
	return r, same
}

func TestRoundsShareNoMemory(t *testing.T) {
	tree := grown().Things[slices.IndexFunc(grown().Things, func(k impl.Kept) bool { return k.Thing.Text == "tree" })].Sum
	other := grown()
	other.Pins, other.Leases = nil, nil
	for name, given := range map[string]impl.Round{
		"rest":  {},
		"mark":  {Phase: 1, Top: 9, At: 10, Queue: []string{tree, tree}, Marked: noThings(2)},
		"none":  {Phase: 1, Top: 9, At: 10, Queue: []string{"abcdefgh", tree}, Marked: noThings(2)},
		"sweep": {Phase: 2, Top: 9, At: 10, Marked: noThings(2)},
		"end":   {Phase: 2, Top: 9, At: 1, Marked: noThings(2)},
	} {
		for _, base := range []impl.State{grown(), other} {
			s, sameS := roomy(base)
			r, sameR := roomyRound(given)
			impl.ValidRound(s, r)
			x, again := impl.Unit(s, r), impl.Unit(s, r)
			y, yet := impl.Shade(s, r, s.Things[0].Sum), impl.Shade(s, r, "abcdefgh")
			scribbleState(x.State)
			for _, list := range [][]string{x.Round.Queue, x.Round.Marked, x.Dropped, y.Queue, y.Marked, yet.Queue, yet.Marked} {
				scribble(list)
			}
			if !sameS() || !sameR() {
				t.Errorf("%s: an argument is written into, or an answer shares a list with it", name)
			}
			if !sameCleared(again, plainUnit(base, given)) {
				t.Errorf("%s: two answers share a list", name)
			}
		}
	}
}

// Each list of one answer is written over while the others are looked at.
func TestNoTwoListsOfAUnitShareMemory(t *testing.T) {
	s := grown()
	r := impl.Round{Phase: 1, Top: 9, At: 10, Queue: []string{s.Things[0].Sum, s.Things[1].Sum, s.Things[2].Sum, s.Things[3].Sum}, Marked: noThings(2)}
	want := plainUnit(s, r)
	x := impl.Unit(s, r)
	scribble(x.Round.Queue)
	if !slices.Equal(x.Round.Marked, want.Round.Marked) || !sameState(x.State, want.State) {
		t.Error("Queue shares memory")
	}
	x = impl.Unit(s, r)
	scribble(x.Round.Marked)
	if !slices.Equal(x.Round.Queue, want.Round.Queue) || !sameState(x.State, want.State) {
		t.Error("Marked shares memory")
	}
	x = impl.Unit(s, r)
	scribbleState(x.State)
	if !sameRound(x.Round, want.Round) {
		t.Error("State shares memory")
	}
}

package tests

import (
	"slices"
	"strconv"
	"strings"
	"testing"

	"loop.example/kilnvault/impl"
)

// In histories: a crash goes back to a state that stood since the last flush, and the more it keeps, the later the state.
func TestACrashGoesBackToAnEarlierState(t *testing.T) {
	lost := 0
	for seed := range 45 {
		d := newDice(seed + 8000)
		v := opened(t, []int{8, 1, 2}[seed%3], 500)
		stood := []impl.State{v.State}
		for range 90 {
			a := d.act(v)
			x := perform(t, v, a)
			if v = x.vault; a.word == "flush" || a.word == "lose" {
				stood = nil
			}
			stood = append(append(stood, x.states...), v.State)
			from := 0
			for keep := -1; keep <= len(v.Log.Loose)+1; keep++ {
				w := impl.Lose(v, keep)
				at := slices.IndexFunc(stood[from:], func(s impl.State) bool { return sameState(s, w.State) })
				if at < 0 {
					t.Fatalf("seed %d: %d of %d kept: no state that stood since the last flush", seed, keep, len(v.Log.Loose))
				}
				if from += at; keep >= len(v.Log.Loose) && !sameState(w.State, v.State) {
					t.Fatalf("seed %d: all is kept and the state is another", seed)
				}
				if !sameRound(w.Round, impl.Round{}) || len(w.Log.Loose) != 0 || !impl.ValidVault(w) {
					t.Fatalf("seed %d: %#v, %d loose", seed, w.Round, len(w.Log.Loose))
				}
				if !sameState(w.State, v.State) {
					lost++
				}
			}
		}
	}
	if lost < 1000 {
		t.Errorf("too little is lost: %d", lost)
	}
}

func TestLoseKeepsABeginning(t *testing.T) {
	v := cleared(t, grownVault(t), 3)
	loose := len(v.Log.Loose)
	for keep, want := range map[int]int{-1 << 63: 0, -1: 0, 0: 0, 1: 1, loose - 1: loose - 1, loose: loose, loose + 1: loose, 1<<63 - 1: loose} {
		w := checkLose(t, v, keep)
		if len(w.Log.Safe) != len(v.Log.Safe)+want || w.Round.Rounds != 0 || w.Limit != v.Limit {
			t.Errorf("keep %d: %d safe, %#v", keep, len(w.Log.Safe), w.Round)
		}
		if again := checkLose(t, w, keep); !sameVault(again, w) {
			t.Errorf("keep %d: a second crash takes something", keep)
		}
	}
	if w := checkLose(t, v, 0); len(w.State.Pins) != 0 || len(w.State.Leases) != 4 || w.State.Now != 1 {
		t.Errorf("%#v", w.State)
	}
}

// What a crash gives back: things that were dropped since the last flush, and the leases whose time had come.
func TestACrashGivesBackWhatWasDropped(t *testing.T) {
	leaf := impl.Thing{Text: "leaf"}
	v := checkFlush(t, after(t, opened(t, 8, 100), entPut(leaf, 1)))
	v = cleared(t, after(t, v, entWait(1)), 20)
	if _, ok := impl.Fetch(v, sumOf(leaf, 8)); ok || len(v.Log.Loose) != 2 {
		t.Fatal("not gone")
	}
	for keep, want := range []bool{true, true, false} {
		w := checkLose(t, v, keep)
		if _, ok := impl.Fetch(w, sumOf(leaf, 8)); ok != want || len(w.State.Leases) != 1-min(keep, 1) {
			t.Errorf("keep %d: %v, %d leases", keep, ok, len(w.State.Leases))
		}
	}
	if w := checkLose(t, checkFlush(t, v), 0); len(w.State.Things) != 0 {
		t.Error("flushed and back")
	}
}

func TestFlushMakesAllSafe(t *testing.T) {
	for _, v := range []impl.Vault{opened(t, 3, 5), grownVault(t), cleared(t, grownVault(t), 2)} {
		w := checkFlush(t, v)
		if !sameRound(w.Round, v.Round) || !sameState(w.State, v.State) || len(w.Log.Loose) != 0 || !impl.ValidVault(w) {
			t.Errorf("%#v", w.Round)
		}
		if again := checkFlush(t, w); !sameVault(again, w) {
			t.Error("a second flush changes something")
		}
		if lost := checkLose(t, w, -1); !sameState(lost.State, v.State) {
			t.Error("what was flushed is lost")
		}
	}
	full := wasteful(t, impl.MaxLog)
	if w := checkFlush(t, full); len(w.Log.Safe) != impl.MaxLog {
		t.Error("a full log")
	}
}

func TestOpenALog(t *testing.T) {
	for seed := range 12 {
		width := []int{8, 1, 2, 5}[seed%4]
		entries := history(seed+30, width, 60)
		s := impl.Replay(width, entries).State
		for _, cut := range []int{0, 1, 30, 59, 60} {
			for _, limit := range []int{0, 7, impl.MaxRoom} {
				l := impl.Log{Safe: entries[:cut], Loose: entries[cut:]}
				v, code := impl.Open(width, limit, l)
				if want := (impl.Vault{Width: width, Limit: limit, Log: l, State: s}); code != 0 || !sameVault(v, want) {
					t.Fatalf("seed %d, cut at %d: code %d", seed, cut, code)
				}
				if !impl.ValidVault(v) || !plainVault(v) {
					t.Fatalf("seed %d, cut at %d: not valid", seed, cut)
				}
			}
		}
	}
	for width := 1; width <= impl.MaxWidth; width++ {
		for _, l := range []impl.Log{{}, {Safe: []string{}, Loose: []string{}}} {
			v, code := impl.Open(width, 9, l)
			if code != 0 || !sameVault(v, impl.Vault{Width: width, Limit: 9, State: impl.State{Width: width}}) {
				t.Errorf("width %d: code %d", width, code)
			}
		}
	}
	if v := vaultOf(t, 8, waits(impl.MaxLog)...); v.State.Now != impl.MaxLog || !impl.ValidVault(v) {
		t.Error("a full log")
	}
}

func TestOpenRefuses(t *testing.T) {
	if impl.MaxRoom != 1000000 {
		t.Error(impl.MaxRoom)
	}
	wait := impl.FormEntry(entWait(1), 8)
	held := []string{impl.FormEntry(entPut(impl.Thing{}, 1), 8), impl.FormEntry(entDrop(sumOf(impl.Thing{}, 8)), 8)}
	check := func(name string, width, limit int, l impl.Log, want int) {
		t.Helper()
		if v, code := impl.Open(width, limit, l); code != want || !sameVault(v, impl.Vault{}) {
			t.Errorf("%s: code %d, not %d, or a vault", name, code, want)
		}
	}
	for _, width := range notWidths() {
		check("no width", width, 5, impl.Log{}, 1)
		check("no width, and no entry", width, 5, impl.Log{Safe: []string{"x"}}, 1)
	}
	for _, limit := range []int{-1 << 63, -1, impl.MaxRoom + 1, 1<<63 - 1} {
		check("no limit", 8, limit, impl.Log{}, 1)
		check("no limit, and no entry", 8, limit, impl.Log{Loose: []string{"x"}}, 1)
	}
	for name, l := range notValidLogs() {
		check(name, 8, 5, l, 1)
	}
	check("one entry too many", 8, 5, impl.Log{Safe: slices.Repeat([]string{wait}, impl.MaxLog), Loose: []string{wait}}, 1)
	for name, l := range map[string]impl.Log{
		"no entry, safe":    {Safe: []string{wait, "x"}, Loose: []string{wait}},
		"no entry, loose":   {Safe: []string{wait}, Loose: []string{wait, ""}},
		"another width":     {Loose: []string{impl.FormEntry(entPut(impl.Thing{Refs: []string{"abc"}}, 1), 3)}},
		"a drop of a held":  {Safe: held},
		"a drop, loose":     {Safe: held[:1], Loose: held[1:]},
		"a drop of nothing": {Safe: held[1:]},
		"out of order":      {Safe: held[1:], Loose: held[:1]},
		"the longest entry": {Safe: []string{strings.Repeat("x", impl.MaxEntry)}},
		"full, and no end":  {Safe: slices.Repeat([]string{wait}, impl.MaxLog-1), Loose: []string{"x"}},
	} {
		check(name, 8, 5, l, 2)
	}
	if _, code := impl.Open(8, 5, impl.Log{Safe: held[:1]}); code != 0 {
		t.Errorf("the test's own mistake: code %d", code)
	}
}

func TestValidVaults(t *testing.T) {
	base := grownVault(t)
	vaults := map[string]impl.Vault{"grown": base, "nothing in it": opened(t, 1, 0)}
	for name, r := range validRounds() {
		v := copyVault(base)
		v.Round = r
		vaults["round: "+name] = v
	}
	for name, limit := range map[string]int{"0": 0, "less than its room": plainRoom(base.State) - 1, "the greatest": impl.MaxRoom} {
		v := copyVault(base)
		v.Limit = limit
		vaults["limit "+name] = v
	}
	entries := slices.Concat(base.Log.Safe, base.Log.Loose)
	for name, cut := range map[string]int{"all loose": 0, "half of it": 9, "all safe": len(entries)} {
		v := copyVault(base)
		v.Log = impl.Log{Safe: entries[:cut], Loose: entries[cut:]}
		vaults["log: "+name] = v
	}
	lists := opened(t, 8, 5)
	lists.Log = impl.Log{Safe: []string{}, Loose: []string{}}
	lists.State.Things, lists.State.Pins, lists.State.Leases = []impl.Kept{}, []impl.Pin{}, []impl.Lease{}
	lists.Round.Queue, lists.Round.Marked = []string{}, []string{}
	vaults["empty lists"] = lists
	for name, v := range vaults {
		if !plainVault(v) {
			t.Fatalf("%s: the test's own mistake", name)
		}
		if !impl.ValidVault(v) {
			t.Errorf("%s: not valid", name)
		}
		if w := checkFlush(t, v); !impl.ValidVault(w) {
			t.Errorf("%s: not valid behind a flush", name)
		}
		checkCommand(t, v, entWait(1))
		checkLose(t, v, 1)
	}
}

// notValidVaults are vaults in which one part alone is wrong.
func notValidVaults(t *testing.T) map[string]impl.Vault {
	out := map[string]impl.Vault{"nothing": {}}
	base := grownVault(t)
	spoil := func(name string, change func(v *impl.Vault)) {
		v := copyVault(base)
		change(&v)
		out[name] = v
	}
	for _, width := range append(notWidths(), 7, 1) {
		spoil("Width "+strconv.Itoa(width), func(v *impl.Vault) { v.Width = width })
	}
	for name, limit := range map[string]int{"below": -1, "far below": -1 << 63, "above": impl.MaxRoom + 1, "far above": 1<<63 - 1} {
		spoil("Limit "+name, func(v *impl.Vault) { v.Limit = limit })
	}
	for name, r := range notValidRounds() {
		spoil("Round: "+name, func(v *impl.Vault) { v.Round = r })
	}
	spoilLogs(spoil)
	spoilStates(spoil)
	spoilLists(spoil)
	empty := opened(t, 8, 5)
	empty.Width = 7
	out["another Width, of nothing"] = empty
	empty.Width, empty.State.Width = 8, 7
	out["another Width of a State with nothing"] = empty
	long := opened(t, 8, 5)
	long.Log.Safe = slices.Repeat([]string{impl.FormEntry(entWait(1), 8)}, impl.MaxLog+1)
	long.State.Now = impl.MaxLog + 1
	out["Log: one entry too many"] = long
	return out
}

type spoiler func(name string, change func(v *impl.Vault))

func spoilLogs(spoil spoiler) {
	wait := impl.FormEntry(entWait(1), 8)
	for name, change := range map[string]func(l *impl.Log){
		"nothing in it":      func(l *impl.Log) { *l = impl.Log{} },
		"no Safe":            func(l *impl.Log) { l.Safe = nil },
		"no Loose":           func(l *impl.Log) { l.Loose = nil },
		"without its end":    func(l *impl.Log) { l.Loose = l.Loose[:len(l.Loose)-1] },
		"without its front":  func(l *impl.Log) { l.Safe = l.Safe[1:] },
		"one more":           func(l *impl.Log) { l.Loose = append(l.Loose, wait) },
		"one more, safe":     func(l *impl.Log) { l.Safe = append(l.Safe, wait) },
		"its end twice":      func(l *impl.Log) { l.Loose = append(l.Loose, l.Loose[len(l.Loose)-1]) },
		"two in turn":        func(l *impl.Log) { n := len(l.Safe); l.Safe[n-4], l.Safe[n-3] = l.Safe[n-3], l.Safe[n-4] },
		"another end":        func(l *impl.Log) { l.Loose[len(l.Loose)-1] = wait },
		"its parts in turn":  func(l *impl.Log) { l.Safe, l.Loose = l.Loose, l.Safe },
		"no entry":           func(l *impl.Log) { l.Safe[3] = "x" },
		"no entry behind":    func(l *impl.Log) { l.Loose = append(l.Loose, "") },
		"a drop of nothing":  func(l *impl.Log) { l.Loose = append(l.Loose, impl.FormEntry(entDrop("abcdefgh"), 8)) },
		"an entry too long":  func(l *impl.Log) { l.Loose = append(l.Loose, strings.Repeat("x", impl.MaxEntry+1)) },
		"a form with an end": func(l *impl.Log) { l.Safe[0] += "x" },
	} {
		spoil("Log: "+name, func(v *impl.Vault) { change(&v.Log) })
	}
}

func spoilStates(spoil spoiler) {
	for name, change := range map[string]func(s *impl.State){
		"nothing":       func(s *impl.State) { *s = impl.State{} },
		"nothing in it": func(s *impl.State) { *s = impl.State{Width: 8} },
		"Width":         func(s *impl.State) { s.Width = 7 },
		"Now more":      func(s *impl.State) { s.Now++ },
		"Now less":      func(s *impl.State) { s.Now-- },
		"Given more":    func(s *impl.State) { s.Given++ },
		"Given less":    func(s *impl.State) { s.Given-- },
		"Births more":   func(s *impl.State) { s.Births++ },
		"Births less":   func(s *impl.State) { s.Births-- },
		"Births far":    func(s *impl.State) { s.Births = 1<<63 - 1 },
	} {
		spoil("State: "+name, func(v *impl.Vault) { change(&v.State) })
	}
}

func spoilLists(spoil spoiler) {
	tree := func(s *impl.State) *impl.Kept {
		return &s.Things[slices.IndexFunc(s.Things, func(k impl.Kept) bool { return len(k.Thing.Refs) > 0 })]
	}
	for name, change := range map[string]func(s *impl.State){
		"no Things":      func(s *impl.State) { s.Things = nil },
		"a thing less":   func(s *impl.State) { s.Things = s.Things[:3] },
		"a thing twice":  func(s *impl.State) { s.Things = append(s.Things, s.Things[3]) },
		"things in turn": func(s *impl.State) { s.Things[0], s.Things[1] = s.Things[1], s.Things[0] },
		"another text":   func(s *impl.State) { s.Things[2].Thing.Text += "x" },
		"another sum":    func(s *impl.State) { s.Things[2].Sum = "abcdefgh" },
		"another Born":   func(s *impl.State) { s.Things[2].Born = 5 },
		"no Refs":        func(s *impl.State) { tree(s).Thing.Refs = nil },
		"a Ref less":     func(s *impl.State) { tree(s).Thing.Refs = tree(s).Thing.Refs[1:] },
		"another Ref":    func(s *impl.State) { tree(s).Thing.Refs[0] = "abcdefgh" },
		"no Pins":        func(s *impl.State) { s.Pins = nil },
		"a pin less":     func(s *impl.State) { s.Pins = s.Pins[:1] },
		"a pin more":     func(s *impl.State) { s.Pins = append(s.Pins, impl.Pin{Name: "x", Sum: s.Things[0].Sum}) },
		"another name":   func(s *impl.State) { s.Pins[0].Name = "aa" },
		"another pin":    func(s *impl.State) { s.Pins[0].Sum = s.Pins[1].Sum },
		"pins in turn":   func(s *impl.State) { s.Pins[0], s.Pins[1] = s.Pins[1], s.Pins[0] },
		"no Leases":      func(s *impl.State) { s.Leases = nil },
		"a lease less":   func(s *impl.State) { s.Leases = s.Leases[1:] },
		"a lease more": func(s *impl.State) {
			s.Leases = append([]impl.Lease{{Number: 1, Sum: s.Things[0].Sum, Until: 9}}, s.Leases...)
		},
		"another number":   func(s *impl.State) { s.Leases[0].Number-- },
		"another lease":    func(s *impl.State) { s.Leases[0].Sum = s.Leases[1].Sum },
		"another time":     func(s *impl.State) { s.Leases[0].Until++ },
		"leases in turn":   func(s *impl.State) { s.Leases[0], s.Leases[1] = s.Leases[1], s.Leases[0] },
		"a lease too late": func(s *impl.State) { s.Leases[0].Until = s.Now },
	} {
		spoil("State: "+name, func(v *impl.Vault) { change(&v.State) })
	}
}

// Each function has its one answer for each vault that is not valid.
func TestVaultsThatAreNotValid(t *testing.T) {
	for name, v := range notValidVaults(t) {
		if plainVault(v) {
			t.Fatalf("%s: the test's own mistake", name)
		}
		was := copyVault(v)
		if impl.ValidVault(v) {
			t.Errorf("%s: valid", name)
		}
		sum := "abcdefgh"
		if len(v.State.Things) > 0 {
			sum = v.State.Things[0].Sum
		}
		for _, e := range []impl.Entry{entPut(impl.Thing{Text: "x"}, 1), entPut(impl.Thing{}, 0), entPin("n", sum), {Kind: impl.EntUnpin, Name: "a"}, entLease(sum, 1), {Kind: impl.EntGive, Number: 6}, entWait(1), entWait(0)} {
			if x := command(v, e); !sameDid(x, impl.Did{Code: 1}) {
				t.Errorf("%s: %#v has code %d, or a vault", name, e, x.Code)
			}
		}
		if x, ok := impl.Fetch(v, sum); ok || !sameThing(x, impl.Thing{}) {
			t.Errorf("%s: Fetch gives %#v", name, x)
		}
		if !sameVault(impl.Flush(v), impl.Vault{}) || !sameVault(impl.Lose(v, 0), impl.Vault{}) || !sameVault(impl.Lose(v, 1000), impl.Vault{}) {
			t.Errorf("%s: Flush or Lose gives a vault", name)
		}
		for _, units := range []int{-1, 0, 1, impl.MaxWork, impl.MaxWork + 1} {
			if x := impl.Clear(v, units); !sameSwept(x, impl.Swept{Code: 1}) {
				t.Errorf("%s: Clear has code %d", name, x.Code)
			}
		}
		if !sameVault(v, was) {
			t.Errorf("%s: it is written into", name)
		}
	}
}

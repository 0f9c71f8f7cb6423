package tests

import (
	"slices"
	"strconv"
	"sync"
	"testing"

	"loop.example/kilnvault/impl"
)

// roomyVault gives the same vault in lists with room behind them, and a look that tells whether they are as they were.
func roomyVault(v impl.Vault) (impl.Vault, func() bool) {
	was := copyVault(v)
	var sameS, sameR func() bool
	v.State, sameS = roomy(v.State)
	v.Round, sameR = roomyRound(v.Round)
	safe := append(make([]string, 0, len(v.Log.Safe)+40), v.Log.Safe...)
	loose := append(make([]string, 0, len(v.Log.Loose)+40), v.Log.Loose...)
	v.Log = impl.Log{Safe: safe, Loose: loose}
	same := func() bool {
		return sameVault(v, was) && sameS() && sameR() && safe[:len(safe)+1][len(safe)] == "" && loose[:len(loose)+1][len(loose)] == ""
	}
	return v, same
}

func scribbleVault(v impl.Vault) {
	scribbleState(v.State)
	for _, list := range [][]string{v.Log.Safe, v.Log.Loose, v.Round.Queue, v.Round.Marked} {
		scribble(list)
	}
}

// vaultCalls are calls of all functions that give a vault.
func vaultCalls(sum string) map[string]func(v impl.Vault) impl.Vault {
	refs := append(make([]string, 0, 40), sum)
	out := map[string]func(v impl.Vault) impl.Vault{
		"Put":         func(v impl.Vault) impl.Vault { return impl.Put(v, impl.Thing{Text: "new", Refs: refs}, 5).Vault },
		"Put, again":  func(v impl.Vault) impl.Vault { return impl.Put(v, impl.Thing{Text: "leaf"}, 5).Vault },
		"Hold":        func(v impl.Vault) impl.Vault { return impl.Hold(v, "b", sum).Vault },
		"Hold, again": func(v impl.Vault) impl.Vault { return impl.Hold(v, "a", sum).Vault },
		"Loosen":      func(v impl.Vault) impl.Vault { return impl.Loosen(v, "a").Vault },
		"Borrow":      func(v impl.Vault) impl.Vault { return impl.Borrow(v, sum, 5).Vault },
		"GiveBack":    func(v impl.Vault) impl.Vault { return impl.GiveBack(v, v.State.Given).Vault },
		"Wait":        func(v impl.Vault) impl.Vault { return impl.Wait(v, 2).Vault },
		"code 1":      func(v impl.Vault) impl.Vault { return impl.Wait(v, 0).Vault },
		"code 2":      func(v impl.Vault) impl.Vault { return impl.Hold(v, "a", "abcdefgh").Vault },
		"code 5":      func(v impl.Vault) impl.Vault { return impl.Loosen(v, "x").Vault },
		"code 8":      func(v impl.Vault) impl.Vault { v.Limit = 0; return impl.Put(v, impl.Thing{Text: "leaf"}, 5).Vault },
		"Flush":       func(v impl.Vault) impl.Vault { return impl.Flush(v) },
		"Lose":        func(v impl.Vault) impl.Vault { return impl.Lose(v, 2) },
		"Lose, all":   func(v impl.Vault) impl.Vault { return impl.Lose(v, 200) },
		"Open":        func(v impl.Vault) impl.Vault { w, _ := impl.Open(v.Width, v.Limit, v.Log); return w },
	}
	for units := range 12 {
		out["Clear "+strconv.Itoa(units)] = func(v impl.Vault) impl.Vault { return impl.Clear(v, units).Vault }
	}
	return out
}

// vaultsOnTheirWay are vaults with each part in them, at each point of a round.
func vaultsOnTheirWay(t *testing.T) []impl.Vault {
	t.Helper()
	v := after(t, grownVault(t), unpin("top"), entWait(18))
	out := []impl.Vault{v}
	for v.Round.Rounds < 2 {
		v = cleared(t, v, 1)
		out = append(out, v)
	}
	sum := v.State.Things[0].Sum
	marking := copyVault(v)
	marking.Round = impl.Round{Phase: 1, Top: 9, At: 10, Rounds: 1, Queue: []string{sum, sum, "abcdefgh"}, Marked: noThings(3)}
	return append(out, marking)
}

func TestVaultsShareNoMemory(t *testing.T) {
	for i, base := range vaultsOnTheirWay(t) {
		sum := base.State.Things[0].Sum
		for name, call := range vaultCalls(sum) {
			v, same := roomyVault(base)
			x, again := call(v), call(v)
			want := copyVault(again)
			if !same() {
				t.Fatalf("vault %d: %s writes into its argument", i, name)
			}
			scribbleVault(x)
			if !same() {
				t.Errorf("vault %d: %s gives a list of its argument", i, name)
			}
			if !sameVault(again, want) {
				t.Errorf("vault %d: two answers of %s share a list", i, name)
			}
		}
	}
}

// part is one list of an answer, to be written over and to be looked at.
type part struct {
	name     string
	scribble func()
	same     func() bool
}

func textPart(name string, list []string) part {
	was := slices.Clone(list)
	return part{name: name, scribble: func() { scribble(list) }, same: func() bool { return slices.Equal(list, was) }}
}

func partsOf(v impl.Vault) []part {
	s := v.State
	was := copyState(s)
	things := make([]impl.Kept, len(s.Things)) // without the Refs, which are parts of their own
	for i, k := range s.Things {
		k.Thing.Refs = nil
		things[i] = k
	}
	sameThings := func() bool {
		return slices.EqualFunc(s.Things, things, func(a, b impl.Kept) bool { return a.Sum == b.Sum && a.Born == b.Born && a.Thing.Text == b.Thing.Text })
	}
	out := []part{
		textPart("Safe", v.Log.Safe), textPart("Loose", v.Log.Loose), textPart("Queue", v.Round.Queue), textPart("Marked", v.Round.Marked),
		{name: "Things", scribble: func() { clear(s.Things[:cap(s.Things)]) }, same: sameThings},
		{name: "Pins", scribble: func() { clear(s.Pins[:cap(s.Pins)]) }, same: func() bool { return slices.Equal(s.Pins, was.Pins) }},
		{name: "Leases", scribble: func() { clear(s.Leases[:cap(s.Leases)]) }, same: func() bool { return slices.Equal(s.Leases, was.Leases) }},
	}
	for i, k := range s.Things {
		out = append(out, textPart("Refs "+strconv.Itoa(i), k.Thing.Refs))
	}
	return out
}

// checkParts writes over each list of an answer while the others are looked at.
func checkParts(t *testing.T, name string, answer func() []part) {
	t.Helper()
	for i := range answer() {
		parts := answer()
		parts[i].scribble()
		for j, p := range parts {
			if i != j && !p.same() {
				t.Errorf("%s: %s and %s share memory", name, parts[i].name, p.name)
			}
		}
	}
}

func TestNoTwoListsOfAVaultShareMemory(t *testing.T) {
	for _, v := range vaultsOnTheirWay(t) {
		for name, call := range vaultCalls(v.State.Things[0].Sum) {
			checkParts(t, name, func() []part { return partsOf(call(v)) })
		}
		for units := range 12 {
			checkParts(t, "Clear", func() []part {
				x := impl.Clear(v, units)
				return append(partsOf(x.Vault), textPart("Dropped", x.Dropped))
			})
		}
	}
}

func TestFetchSharesNoMemory(t *testing.T) {
	v, same := roomyVault(grownVault(t))
	for _, k := range v.State.Things {
		x, _ := impl.Fetch(v, k.Sum)
		y, _ := impl.Fetch(v, k.Sum)
		scribble(x.Refs)
		if !same() || !sameThing(y, k.Thing) {
			t.Errorf("Fetch of %q shares a list", k.Thing.Text)
		}
	}
}

func TestPutSharesNoMemoryWithItsThing(t *testing.T) {
	v := grownVault(t)
	refs := append(make([]string, 0, 40), v.State.Things[0].Sum, v.State.Things[1].Sum)
	x := impl.Put(v, impl.Thing{Text: "new", Refs: refs}, 1)
	if x.Code != 0 {
		t.Fatal(x.Code)
	}
	scribbleVault(x.Vault)
	if slices.Contains(refs[:cap(refs)], "scribble") {
		t.Error("the answer has the list of the thing that was put")
	}
	x = impl.Put(v, impl.Thing{Text: "new", Refs: refs}, 1)
	scribble(refs)
	if !impl.ValidVault(x.Vault) {
		t.Error("the vault hangs on the list of the thing that was put")
	}
}

// Calls beside each other on one vault: nothing is kept from one to the other.
func TestCallsBesideEachOther(t *testing.T) {
	v := grownVault(t)
	calls := vaultCalls(v.State.Things[0].Sum)
	var all sync.WaitGroup
	for name, call := range calls {
		want := call(v)
		for range 4 {
			all.Go(func() {
				if !sameVault(call(v), want) {
					t.Errorf("%s gives another vault beside other calls", name)
				}
			})
		}
	}
	all.Wait()
}

package tests

import (
	"slices"
	"strconv"
	"strings"
	"testing"

	"loop.example/kilnvault/impl"
)

// wantDid asks for a code, and with every code but 0 for the vault as it was and nothing else.
func wantDid(t *testing.T, name string, v impl.Vault, e impl.Entry, code int) {
	t.Helper()
	x := checkCommand(t, v, e)
	if x.Code != code {
		t.Errorf("%s: code %d, not %d", name, x.Code, code)
	}
	if x.Code == 0 {
		if !impl.ValidVault(x.Vault) || logSize(x.Vault) != logSize(v)+1 {
			t.Errorf("%s: the vault is not valid, or its log has %d entries", name, logSize(x.Vault))
		}
		return
	}
	if !sameVault(x.Vault, v) || x.Sum != "" || x.Lease != 0 || code != 3 && x.A+x.B != "" {
		t.Errorf("%s: code %d leaves another vault, or tells more: %q, %d", name, code, x.Sum, x.Lease)
	}
}

func unpin(name string) impl.Entry {
	return impl.Entry{Kind: impl.EntUnpin, Name: name}
}

func give(number int) impl.Entry {
	return impl.Entry{Kind: impl.EntGive, Number: number}
}

// In histories with few places left: each command has the code of the document, and leaves the vault as it is if it has one.
func TestCommandsInHistories(t *testing.T) {
	var codes [10]int
	for seed := range 60 {
		d := newDice(seed + 9000)
		v := opened(t, []int{1, 8, 2}[seed%3], []int{900, 40, 20}[seed%3])
		for range 150 {
			a := act{entry: d.command(v.State)}
			if d.Intn(5) == 0 {
				a = d.act(v)
			}
			x := perform(t, v, a)
			if x.code != 0 && !sameVault(x.vault, v) {
				t.Fatalf("seed %d: code %d changes the vault", seed, x.code)
			}
			v = x.vault
			codes[x.code]++
		}
	}
	for _, code := range []int{0, 2, 3, 5, 8} {
		if codes[code] < 20 {
			t.Errorf("too few of code %d: %d", code, codes)
		}
	}
}

func TestWhatCommandsDo(t *testing.T) {
	leaf := impl.Thing{Text: "leaf"}
	sum := sumOf(leaf, 8)
	v := opened(t, 8, 100)
	x := checkCommand(t, v, entPut(leaf, 7))
	if x.Code != 0 || x.Sum != sum || x.Lease != 1 || len(x.Vault.State.Things) != 1 || !slices.Equal(x.Vault.Log.Loose, []string{plainForm(entPut(leaf, 7), thingForm(leaf))}) {
		t.Errorf("Put: %#v", x)
	}
	x = checkCommand(t, x.Vault, entPut(leaf, 3))
	if x.Sum != sum || x.Lease != 2 || x.Vault.State.Births != 1 || len(x.Vault.State.Leases) != 2 {
		t.Errorf("Put of what is there: %#v", x)
	}
	x = checkCommand(t, x.Vault, entPin("top", sum))
	if x.Sum != "" || x.Lease != 0 || !slices.Equal(x.Vault.State.Pins, []impl.Pin{{Name: "top", Sum: sum}}) {
		t.Errorf("Hold: %#v", x)
	}
	x = checkCommand(t, x.Vault, entLease(sum, impl.MaxHold))
	if x.Sum != "" || x.Lease != 3 || x.Vault.State.Leases[2] != (impl.Lease{Number: 3, Sum: sum, Until: impl.MaxHold}) {
		t.Errorf("Borrow: %#v", x)
	}
	x = checkCommand(t, x.Vault, give(1))
	if x.Lease != 0 || len(x.Vault.State.Leases) != 2 {
		t.Errorf("GiveBack: %#v", x)
	}
	x = checkCommand(t, x.Vault, entWait(3))
	if x.Vault.State.Now != 3 || len(x.Vault.State.Leases) != 1 {
		t.Errorf("Wait: %#v", x)
	}
	x = checkCommand(t, x.Vault, unpin("top"))
	if len(x.Vault.State.Pins) != 0 || len(x.Vault.Log.Loose) != 7 || len(x.Vault.Log.Safe) != 0 {
		t.Errorf("Loosen: %#v", x)
	}
}

// Entries that would not be valid: code 1, with the vault as it is, also where the log is full.
func TestCommandsThatMakeNoEntry(t *testing.T) {
	sum := sumOf(impl.Thing{Text: "leaf"}, 8)
	long := strings.Repeat("n", impl.MaxName+1)
	vaults := map[string]impl.Vault{"grown": grownVault(t), "in a round": cleared(t, grownVault(t), 3), "full": wasteful(t, impl.MaxLog)}
	for where, v := range vaults {
		for name, e := range map[string]impl.Entry{
			"put for 0":          entPut(impl.Thing{Text: "x"}, 0),
			"put below 0":        entPut(impl.Thing{Text: "x"}, -1),
			"put too long":       entPut(impl.Thing{Text: "x"}, impl.MaxHold+1),
			"put for ever":       entPut(impl.Thing{Text: "x"}, 1<<63-1),
			"put, wraps":         entPut(impl.Thing{Text: "x"}, 1<<32+1),
			"a text too long":    entPut(impl.Thing{Text: strings.Repeat("x", impl.MaxText+1)}, 1),
			"too many Refs":      entPut(impl.Thing{Refs: ascendingRefs(impl.MaxRefs+1, 8)}, 1),
			"a Ref too short":    entPut(impl.Thing{Refs: []string{"abcdefg"}}, 1),
			"Refs not in order":  entPut(impl.Thing{Refs: []string{"bbbbbbbb", "aaaaaaaa"}}, 1),
			"a Ref twice":        entPut(impl.Thing{Refs: []string{sum, sum}}, 1),
			"pin by no name":     entPin("", sum),
			"pin by a long name": entPin(long, sum),
			"pin by a bad name":  entPin("a b", sum),
			"pin of no sum":      entPin("n", ""),
			"pin of half a sum":  entPin("n", sum[:4]),
			"pin of more":        entPin("n", sum+"\x00"),
			"unpin no name":      unpin(""),
			"unpin a long name":  unpin(long),
			"unpin a bad name":   unpin("\x7f"),
			"borrow for 0":       entLease(sum, 0),
			"borrow below 0":     entLease(sum, -5),
			"borrow too long":    entLease(sum, impl.MaxHold+1),
			"borrow no sum":      entLease("", 1),
			"borrow more":        entLease(sum+"x", 1),
			"give 0":             give(0),
			"give below 0":       give(-1),
			"give too much":      give(impl.MaxTime + 1),
			"give, wraps":        give(1<<32 + 1),
			"wait 0":             entWait(0),
			"wait below 0":       entWait(-1),
			"wait too long":      entWait(impl.MaxHold + 1),
			"wait, wraps":        entWait(1<<32 + 1),
			"wait for ever":      entWait(1<<63 - 1),
			"a Ref of no bytes":  entPut(impl.Thing{Text: "x", Refs: []string{""}}, 1),
		} {
			wantDid(t, where+": "+name, v, e, 1)
		}
	}
}

// The codes of Apply, each with the command that has it.
func TestCommandsThatAreRefused(t *testing.T) {
	v := grownVault(t)
	for phase := range 4 {
		for name, e := range map[string]impl.Entry{
			"put on nothing":    entPut(impl.Thing{Refs: []string{"abcdefgh"}}, 1),
			"pin of nothing":    entPin("n", "abcdefgh"),
			"pinned, to none":   entPin("top", "abcdefgh"),
			"borrow of nothing": entLease("abcdefgh", 1),
			"what is gone":      entLease(sumOf(impl.Thing{Text: "0"}, 8), 1),
		} {
			wantDid(t, name, v, e, 2)
		}
		for name, e := range map[string]impl.Entry{
			"no such pin":        unpin("to"),
			"no such pin either": unpin("top1"),
			"given already":      give(1),
			"not given yet":      give(v.State.Given + 1),
			"never given":        give(impl.MaxTime),
		} {
			wantDid(t, name, v, e, 5)
		}
		for name, e := range map[string]impl.Entry{"a pin": unpin("top"), "a lease": give(v.State.Given), "a name": entPin("top", v.State.Things[0].Sum)} {
			wantDid(t, name, v, e, 0)
		}
		v = cleared(t, v, 1+2*phase)
	}
}

func TestAClashInAVault(t *testing.T) {
	for _, width := range []int{1, 2} {
		old := impl.Thing{Text: "old"}
		v := after(t, opened(t, width, 1000), entPut(old, 5))
		for _, units := range []int{0, 1, 2, 4} {
			v = cleared(t, v, units)
			for _, new := range []impl.Thing{clashOf(old, width, nil), clashOf(old, width, sortedSums(width, old))} {
				wantDid(t, "a clash", v, entPut(new, 1), 3)
				x := impl.Put(v, new, 1)
				if x.A != thingForm(old) || x.B != thingForm(new) || impl.Sum(x.A, width) != impl.Sum(x.B, width) {
					t.Errorf("width %d: %q and %q", width, x.A, x.B)
				}
			}
			wantDid(t, "the same", v, entPut(old, 1), 0)
		}
	}
}

// crowded is a vault of width 2 with as many things, pins and leases as told, on the first of the things, whose log has that many entries.
func crowded(t *testing.T, things, pins, leases, size int) (impl.Vault, []impl.Thing) {
	t.Helper()
	all := leaves(things, 2)
	var entries []impl.Entry
	for _, x := range all {
		entries = append(entries, entPut(x, 1), entWait(1))
	}
	for i := range pins {
		entries = append(entries, entPin("n"+strconv.Itoa(i), sumOf(all[0], 2)))
	}
	for range leases {
		entries = append(entries, entLease(sumOf(all[0], 2), impl.MaxHold))
	}
	v := vaultOf(t, 2, append(entries, waits(max(0, size-len(entries)))...)...)
	if len(v.State.Things) != things || len(v.State.Pins) != pins || len(v.State.Leases) != leases {
		t.Fatalf("%d, %d, %d", len(v.State.Things), len(v.State.Pins), len(v.State.Leases))
	}
	return v, all
}

// Each limit of a state met exactly, and one more: code 4. (Now can't come near its limit with the entries that a log has room for.)
func TestCommandsAtTheLimits(t *testing.T) {
	v, all := crowded(t, impl.MaxThings-1, impl.MaxPins-1, impl.MaxLeases-1, 0)
	first := sumOf(all[0], 2)
	taken := append(all, leaves(impl.MaxThings+1, 2)[impl.MaxThings-1:]...)
	last, more := taken[impl.MaxThings-1], taken[impl.MaxThings]
	wantDid(t, "the last pin", v, entPin("x", first), 0)
	wantDid(t, "the last lease", v, entLease(first, 1), 0)
	wantDid(t, "the last thing", v, entPut(last, 1), 0)
	full := after(t, v, entPut(last, 1), entPin("x", first))
	wantDid(t, "one pin too many", full, entPin("y", first), 4)
	wantDid(t, "a name that is there", full, entPin("x", sumOf(all[1], 2)), 0)
	wantDid(t, "one lease too many", full, entLease(first, 1), 4)
	wantDid(t, "put, one lease too many", full, entPut(all[1], 1), 4)
	w := after(t, full, give(full.State.Leases[0].Number))
	wantDid(t, "one thing too many", w, entPut(more, 1), 4)
	wantDid(t, "what is there", w, entPut(last, 1), 0)
	wantDid(t, "a lease that has a place", w, entLease(first, 1), 0)
	wantDid(t, "the longest wait", w, entWait(impl.MaxHold), 0)
}

// A vault in which all is wrong at once, and which is mended code by code: the one that is listed first is told.
func TestTheOrderOfCodesOfPut(t *testing.T) {
	v, all := crowded(t, impl.MaxThings, 0, impl.MaxLeases, impl.MaxLog)
	v.Limit = plainRoom(v.State) - 1
	gone := leafWith(2, func(sum string) bool { return place(v.State, sum) < 0 })
	clash := clashOf(all[5], 2, sortedSums(2, gone))
	wantDid(t, "all at once", v, entPut(clash, 0), 1)
	wantDid(t, "a Ref, a clash, full, no room, no log", v, entPut(clash, 1), 2)
	wantDid(t, "a clash, full, no room, no log", v, entPut(clashOf(all[5], 2, nil), 1), 3)
	wantDid(t, "full, no room, no log", v, entPut(gone, 1), 4)
	wantDid(t, "no lease, no room, no log", v, entPut(all[0], 1), 4)
	v, all = crowded(t, impl.MaxThings-1, 0, 0, impl.MaxLog)
	v.Limit = plainRoom(v.State)
	wantDid(t, "no room, no log", v, entPut(gone, 1), 8)
	wantDid(t, "room, no log", v, entPut(all[0], 1), 9)
	v.Limit += len(thingForm(gone))
	wantDid(t, "just the room, no log", v, entPut(gone, 1), 9)
	v.Limit--
	wantDid(t, "a byte too much, no log", v, entPut(gone, 1), 8)
}

func TestTheOrderOfCodesOfTheOthers(t *testing.T) {
	v, all := crowded(t, 5, impl.MaxPins, impl.MaxLeases, impl.MaxLog)
	v.Limit = 0 // of no weight for what does not put
	first := sumOf(all[0], 2)
	gone := sumOf(leafWith(2, func(sum string) bool { return place(v.State, sum) < 0 }), 2)
	wantDid(t, "pin: no name", v, entPin("", gone), 1)
	wantDid(t, "pin: not there, full, no log", v, entPin("x", gone), 2)
	wantDid(t, "pin: full, no log", v, entPin("x", first), 4)
	wantDid(t, "pin: no log", v, entPin("n0", first), 9)
	wantDid(t, "unpin: no name", v, unpin(""), 1)
	wantDid(t, "unpin: not there, no log", v, unpin("x"), 5)
	wantDid(t, "unpin: no log", v, unpin("n0"), 9)
	wantDid(t, "borrow: no time", v, entLease(gone, 0), 1)
	wantDid(t, "borrow: not there, full, no log", v, entLease(gone, 1), 2)
	wantDid(t, "borrow: full, no log", v, entLease(first, 1), 4)
	wantDid(t, "give: no number", v, give(0), 1)
	wantDid(t, "give: not there, no log", v, give(1), 5)
	wantDid(t, "give: no log", v, give(v.State.Given), 9)
	wantDid(t, "wait: no time", v, entWait(0), 1)
	wantDid(t, "wait: no log", v, entWait(1), 9)
	v, all = crowded(t, 5, 3, 3, impl.MaxLog)
	wantDid(t, "borrow: no log", v, entLease(sumOf(all[0], 2), 1), 9)
	wantDid(t, "pin: a new name, no log", v, entPin("x", sumOf(all[0], 2)), 9)
}

// The last entry that a log has room for, wherever its others lie.
func TestCommandsUpToAFullLog(t *testing.T) {
	v, all := crowded(t, 5, 2, 2, impl.MaxLog-1)
	first := sumOf(all[0], 2)
	entries := v.Log.Safe
	for _, cut := range []int{0, 1, 2000, len(entries)} {
		v.Log = impl.Log{Safe: entries[:cut], Loose: entries[cut:]}
		for _, e := range []impl.Entry{entPut(impl.Thing{Text: "new"}, 1), entPut(all[0], 1), entPin("x", first), unpin("n0"), entLease(first, 1), give(v.State.Given), entWait(1)} {
			wantDid(t, "the last entry", v, e, 0)
		}
		w := after(t, v, entWait(1))
		for _, e := range []impl.Entry{entPut(impl.Thing{Text: "new"}, 1), entPut(all[0], 1), entPin("x", first), unpin("n0"), entLease(first, 1), give(v.State.Given), entWait(1)} {
			wantDid(t, "one more", w, e, 9)
			wantDid(t, "one more behind a flush", checkFlush(t, w), e, 9)
		}
		wantDid(t, "behind a crash that took one", impl.Lose(w, len(entries)-cut), entWait(1), 0)
	}
}

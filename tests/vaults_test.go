package tests

import (
	"slices"
	"strconv"
	"testing"

	"loop.example/kilnvault/impl"
)

// What the document says of vaults, written a second time and as plainly as can be. What is said here of a command, a flush, a crash or clearing is for vaults that are valid.

func sameVault(a, b impl.Vault) bool {
	return a.Width == b.Width && a.Limit == b.Limit && sameLog(a.Log, b.Log) && sameState(a.State, b.State) && sameRound(a.Round, b.Round)
}

func sameDid(a, b impl.Did) bool {
	return a.Code == b.Code && a.Sum == b.Sum && a.Lease == b.Lease && a.A == b.A && a.B == b.B && sameVault(a.Vault, b.Vault)
}

func sameSwept(a, b impl.Swept) bool {
	return a.Code == b.Code && a.Units == b.Units && slices.Equal(a.Dropped, b.Dropped) && sameVault(a.Vault, b.Vault)
}

func copyVault(v impl.Vault) impl.Vault {
	v.Log = impl.Log{Safe: slices.Clone(v.Log.Safe), Loose: slices.Clone(v.Log.Loose)}
	v.State, v.Round = copyState(v.State), copyRound(v.Round)
	return v
}

func logSize(v impl.Vault) int {
	return len(v.Log.Safe) + len(v.Log.Loose)
}

func plainRoom(s impl.State) int {
	room := 0
	for _, k := range s.Things {
		room += len(thingForm(k.Thing))
	}
	return room
}

// plainVault is ValidVault as the document says it; its replay goes through the document's words for each entry.
func plainVault(v impl.Vault) bool {
	if v.Width < 1 || v.Width > 8 || v.Limit < 0 || v.Limit > 1000000 || logSize(v) > 4000 {
		return false
	}
	s := impl.State{Width: v.Width}
	for _, form := range slices.Concat(v.Log.Safe, v.Log.Loose) {
		e, ok := impl.ReadEntry(form, v.Width)
		c := plainApply(s, e)
		if !ok || c.Code != 0 {
			return false
		}
		s = c.State
	}
	return sameState(s, v.State) && plainRound(v.State, v.Round)
}

// command calls the command that makes an entry.
func command(v impl.Vault, e impl.Entry) impl.Did {
	switch e.Kind {
	case impl.EntPut:
		return impl.Put(v, e.Thing, e.Number)
	case impl.EntPin:
		return impl.Hold(v, e.Name, e.Sum)
	case impl.EntUnpin:
		return impl.Loosen(v, e.Name)
	case impl.EntLease:
		return impl.Borrow(v, e.Sum, e.Number)
	case impl.EntGive:
		return impl.GiveBack(v, e.Number)
	case impl.EntWait:
		return impl.Wait(v, e.Number)
	}
	panic("no command makes kind " + strconv.Itoa(e.Kind))
}

func plainCommand(v impl.Vault, e impl.Entry) impl.Did {
	c := plainApply(v.State, e)
	switch {
	case c.Code != 0:
		return impl.Did{Code: c.Code, Vault: v, A: c.A, B: c.B}
	case e.Kind == impl.EntPut && plainRoom(c.State) > v.Limit:
		return impl.Did{Code: 8, Vault: v}
	case logSize(v) == 4000:
		return impl.Did{Code: 9, Vault: v}
	}
	out := impl.Did{Vault: copyVault(v), Sum: c.Sum, Lease: c.Lease}
	n := &out.Vault
	n.Log.Loose = append(n.Log.Loose, plainForm(e, formIfPut(e)))
	n.State = c.State
	switch e.Kind {
	case impl.EntPut:
		n.Round = plainShade(c.State, v.Round, sumOf(e.Thing, v.Width))
	case impl.EntPin, impl.EntLease:
		n.Round = plainShade(c.State, v.Round, e.Sum)
	}
	return out
}

func formIfPut(e impl.Entry) string {
	if e.Kind != impl.EntPut {
		return ""
	}
	return thingForm(e.Thing)
}

// plainClear does one unit after the other as long as it may.
func plainClear(v impl.Vault, units int) impl.Swept {
	if units < 0 || units > 10000 {
		return impl.Swept{Code: 1}
	}
	out := impl.Swept{Vault: copyVault(v)}
	n := &out.Vault
	for range units {
		x := plainUnit(n.State, n.Round)
		if x.Code != 0 || !plainRound(x.State, x.Round) {
			return impl.Swept{Code: 1}
		}
		if len(x.Dropped) > 0 && logSize(*n) == 4000 {
			return out
		}
		for _, sum := range x.Dropped {
			n.Log.Loose = append(n.Log.Loose, plainForm(entDrop(sum), ""))
			out.Dropped = append(out.Dropped, sum)
		}
		n.State, n.Round = x.State, x.Round
		out.Units++
	}
	return out
}

// checkCommand holds a command on a valid vault against the document said a second time.
func checkCommand(t *testing.T, v impl.Vault, e impl.Entry) impl.Did {
	t.Helper()
	was := copyVault(v)
	got, want := command(v, e), plainCommand(v, e)
	if !sameVault(v, was) {
		t.Fatalf("%#v: the vault that was given is changed", e)
	}
	if !sameDid(got, want) {
		t.Fatalf("%#v in phase %d, %d in the log: code %d, sum %q, lease %d, not %d, %q, %d, or another vault", e, v.Round.Phase, logSize(v), got.Code, got.Sum, got.Lease, want.Code, want.Sum, want.Lease)
	}
	return got
}

// checkClear holds Clear on a valid vault against the document said a second time.
func checkClear(t *testing.T, v impl.Vault, units int) impl.Swept {
	t.Helper()
	was := copyVault(v)
	got, want := impl.Clear(v, units), plainClear(v, units)
	if !sameVault(v, was) {
		t.Fatalf("%d units: the vault that was given is changed", units)
	}
	if !sameSwept(got, want) {
		t.Fatalf("%d units in phase %d, %d in the log: code %d, %d units, %d dropped, not %d, %d, %d, or another vault", units, v.Round.Phase, logSize(v), got.Code, got.Units, len(got.Dropped), want.Code, want.Units, len(want.Dropped))
	}
	return got
}

func checkFlush(t *testing.T, v impl.Vault) impl.Vault {
	t.Helper()
	got, want := impl.Flush(v), copyVault(v)
	want.Log = impl.Log{Safe: slices.Concat(v.Log.Safe, v.Log.Loose)}
	if !sameVault(got, want) {
		t.Fatalf("Flush: %d safe, %d loose, or another vault", len(got.Log.Safe), len(got.Log.Loose))
	}
	return got
}

func checkLose(t *testing.T, v impl.Vault, keep int) impl.Vault {
	t.Helper()
	kept := min(max(keep, 0), len(v.Log.Loose))
	entries := slices.Concat(v.Log.Safe, v.Log.Loose[:kept])
	want := impl.Vault{Width: v.Width, Limit: v.Limit, Log: impl.Log{Safe: entries}, State: impl.Replay(v.Width, entries).State}
	got := impl.Lose(v, keep)
	if !sameVault(got, want) {
		t.Fatalf("Lose with %d of %d: %d safe, %d loose, or another vault", keep, len(v.Log.Loose), len(got.Log.Safe), len(got.Log.Loose))
	}
	return got
}

// act is one thing that is done to a vault: a command's entry, or a word and its number.
type act struct {
	entry  impl.Entry
	word   string
	number int
}

// act makes acts of all kinds, most of them commands and units.
func (d dice) act(v impl.Vault) act {
	switch d.Intn(20) {
	case 0:
		return act{word: "flush"}
	case 1:
		return act{word: "lose", number: d.Intn(len(v.Log.Loose)+3) - 1}
	case 2, 3, 4, 5, 6, 7, 8:
		return act{word: "clear", number: d.Intn(20)}
	}
	return act{entry: d.command(v.State)}
}

// command takes a longer wait in place of a drop, which is for the units alone.
func (d dice) command(s impl.State) impl.Entry {
	e := d.entry(s)
	if e.Kind == impl.EntDrop {
		return entWait(1 + d.Intn(25))
	}
	return e
}

// did is what became of an act: the vault behind it, and the states that stood on the way there.
type did struct {
	vault   impl.Vault
	code    int
	dropped []string
	states  []impl.State
}

// perform does an act and holds it against the document said a second time.
func perform(t *testing.T, v impl.Vault, a act) did {
	t.Helper()
	switch a.word {
	case "flush":
		return did{vault: checkFlush(t, v)}
	case "lose":
		return did{vault: checkLose(t, v, a.number)}
	case "clear":
		out := did{vault: v}
		for range a.number {
			x := checkClear(t, out.vault, 1)
			out.dropped = append(out.dropped, x.Dropped...)
			out.vault, out.code = x.Vault, x.Code
			out.states = append(out.states, x.Vault.State)
		}
		if x := checkClear(t, v, a.number); x.Code != 0 || !sameVault(x.Vault, out.vault) {
			t.Fatalf("%d units at once are not as many one by one", a.number)
		}
		return out
	}
	x := checkCommand(t, v, a.entry)
	return did{vault: x.Vault, code: x.Code, states: []impl.State{x.Vault.State}}
}

// opened opens the empty log.
func opened(t *testing.T, width, limit int) impl.Vault {
	t.Helper()
	v, code := impl.Open(width, limit, impl.Log{})
	if code != 0 {
		t.Fatalf("Open of nothing: code %d", code)
	}
	return v
}

// vaultOf opens a log that has these entries in Safe.
func vaultOf(t *testing.T, width int, entries ...impl.Entry) impl.Vault {
	t.Helper()
	var l impl.Log
	for _, e := range entries {
		l.Safe = append(l.Safe, plainForm(e, formIfPut(e)))
	}
	v, code := impl.Open(width, impl.MaxRoom, l)
	if code != 0 {
		t.Fatalf("Open of %d entries: code %d", len(entries), code)
	}
	return v
}

// after does commands that have code 0, one after the other.
func after(t *testing.T, v impl.Vault, entries ...impl.Entry) impl.Vault {
	t.Helper()
	for _, e := range entries {
		x := checkCommand(t, v, e)
		if x.Code != 0 {
			t.Fatalf("%#v: code %d", e, x.Code)
		}
		v = x.Vault
	}
	return v
}

// cleared does units with code 0.
func cleared(t *testing.T, v impl.Vault, units int) impl.Vault {
	t.Helper()
	x := checkClear(t, v, units)
	if x.Code != 0 || x.Units != units {
		t.Fatalf("%d units: code %d, %d done", units, x.Code, x.Units)
	}
	return x.Vault
}

// waits are entries that pad a log.
func waits(count int) []impl.Entry {
	return slices.Repeat([]impl.Entry{entWait(1)}, count)
}

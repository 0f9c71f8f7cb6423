package tests

import (
	"slices"
	"testing"

	"loop.example/kilnvault/impl"
)

// plainReplay applies entries one by one to a state, from that on with the number given.
func plainReplay(s impl.State, entries []string, number int) impl.Changed {
	for i, form := range entries {
		e, ok := impl.ReadEntry(form, s.Width)
		if !ok {
			return impl.Changed{Code: 7, Lease: number + i}
		}
		c := impl.Apply(s, e)
		if c.Code != 0 {
			return impl.Changed{Code: 7, Lease: number + i}
		}
		s = c.State
	}
	return impl.Changed{State: s}
}

// history gives the forms of count entries that can be applied one after the other.
func history(seed, width, count int) []string {
	d := newDice(seed)
	s := impl.State{Width: width}
	var out []string
	for range 100 * count {
		e := d.entry(s)
		if c := impl.Apply(s, e); c.Code == 0 {
			s = c.State
			out = append(out, impl.FormEntry(e, width))
		}
		if len(out) == count {
			return out
		}
	}
	panic("hardly an entry can be applied")
}

func TestReplayOfABeginningAndTheOthers(t *testing.T) {
	for seed := range 16 {
		width := []int{8, 1, 3, 2}[seed%4]
		entries := history(seed+9, width, 60)
		whole := impl.Replay(width, entries)
		if whole.Code != 0 || !sameChanged(whole, impl.Changed{State: whole.State}) || !impl.ValidState(whole.State) {
			t.Fatalf("seed %d: code %d", seed, whole.Code)
		}
		for cut := range len(entries) + 1 {
			begun := impl.Replay(width, entries[:cut])
			if begun.Code != 0 {
				t.Fatalf("seed %d, %d entries: code %d", seed, cut, begun.Code)
			}
			if c := plainReplay(begun.State, entries[cut:], cut+1); !sameChanged(c, whole) {
				t.Fatalf("seed %d: cut at %d the state is another", seed, cut)
			}
		}
	}
}

func TestReplayOfNothing(t *testing.T) {
	for width := 1; width <= impl.MaxWidth; width++ {
		for _, entries := range [][]string{nil, {}} {
			if c := impl.Replay(width, entries); !sameChanged(c, impl.Changed{State: impl.State{Width: width}}) {
				t.Errorf("width %d: %#v", width, c)
			}
		}
	}
}

// What is no entry, and what is one but can't be applied, at each place of a history; what lies behind it is not looked at.
func TestReplayTellsTheFirstThatFails(t *testing.T) {
	const width = 8
	entries := history(5, width, 30)
	refused := []impl.Entry{
		entPut(impl.Thing{Refs: []string{"abcdefgh"}}, 1), entPin("x", "abcdefgh"), entLease("abcdefgh", 1), entDrop("abcdefgh"),
		{Kind: impl.EntUnpin, Name: "not-there"}, {Kind: impl.EntGive, Number: impl.MaxTime},
	}
	bad := []string{"", "x", "\x00", "\x08\x00\x00\x00\x01\x00", entries[0][:5], impl.FormEntry(entWait(1), width) + "x", impl.FormEntry(entDrop("abcdefg"), 7)}
	for _, e := range refused {
		bad = append(bad, impl.FormEntry(e, width))
	}
	for at := range len(entries) + 1 {
		for _, form := range bad {
			for _, behind := range [][]string{entries[at:], bad, nil} {
				list := slices.Concat(entries[:at], []string{form}, behind)
				if c := impl.Replay(width, list); !sameChanged(c, impl.Changed{Code: 7, Lease: at + 1}) {
					t.Fatalf("%q at %d: code %d, %d", form, at+1, c.Code, c.Lease)
				}
			}
		}
	}
}

// A refusal for each of Apply's codes, all of which Replay tells as 7.
func TestReplayTellsEveryCodeAsSeven(t *testing.T) {
	old := impl.Thing{Text: "old"}
	var tooMany []impl.Entry
	for range impl.MaxLeases + 1 {
		tooMany = append(tooMany, entPut(old, 1))
	}
	for name, list := range map[string][]impl.Entry{
		"2": {entPut(old, 1), entDrop("z")},
		"3": {entPut(old, 1), entPut(clashOf(old, 1, nil), 1)},
		"4": tooMany,
		"5": {entPut(old, 1), {Kind: impl.EntGive, Number: 2}},
		"6": {entPut(old, 1), entDrop(sumOf(old, 1))},
	} {
		var forms []string
		for _, e := range list {
			forms = append(forms, impl.FormEntry(e, 1))
		}
		if c := impl.Replay(1, forms); !sameChanged(c, impl.Changed{Code: 7, Lease: len(forms)}) {
			t.Errorf("code %s: %d, %d", name, c.Code, c.Lease)
		}
		if c := impl.Replay(1, forms[:len(forms)-1]); c.Code != 0 {
			t.Errorf("code %s: without the last, %d", name, c.Code)
		}
	}
}

func TestReplayOfAsManyAsALogHolds(t *testing.T) {
	forms := make([]string, impl.MaxLog+1)
	for i := range forms {
		forms[i] = impl.FormEntry(entWait(2), 4)
	}
	if c := impl.Replay(4, forms[:impl.MaxLog]); !sameChanged(c, impl.Changed{State: impl.State{Width: 4, Now: 2 * impl.MaxLog}}) {
		t.Errorf("code %d, now %d", c.Code, c.State.Now)
	}
	if c := impl.Replay(4, forms); !sameChanged(c, impl.Changed{Code: 1}) {
		t.Errorf("one more: code %d, %d", c.Code, c.Lease)
	}
	forms[0] = "no entry"
	if c := impl.Replay(4, forms); !sameChanged(c, impl.Changed{Code: 1}) {
		t.Errorf("one more, and no entry among them: code %d, %d", c.Code, c.Lease)
	}
	if c := impl.Replay(4, forms[:impl.MaxLog]); !sameChanged(c, impl.Changed{Code: 7, Lease: 1}) {
		t.Errorf("no entry at the first place: code %d, %d", c.Code, c.Lease)
	}
	forms[0], forms[impl.MaxLog-1] = forms[1], ""
	if c := impl.Replay(4, forms[:impl.MaxLog]); !sameChanged(c, impl.Changed{Code: 7, Lease: impl.MaxLog}) {
		t.Errorf("no entry at the last place: code %d, %d", c.Code, c.Lease)
	}
}

func TestReplayOfNoWidth(t *testing.T) {
	for _, width := range notWidths() {
		for _, entries := range [][]string{nil, {""}, {impl.FormEntry(entWait(1), 8)}} {
			if c := impl.Replay(width, entries); !sameChanged(c, impl.Changed{Code: 1}) {
				t.Errorf("width %d: code %d", width, c.Code)
			}
		}
	}
}

func TestReplayAtTheLimitsOfAState(t *testing.T) {
	var forms []string
	add := func(e impl.Entry) { forms = append(forms, impl.FormEntry(e, 8)) }
	things := leaves(impl.MaxThings+1, 8)
	for i, x := range things[:impl.MaxThings] {
		add(entPut(x, 1))
		add(entWait(1))
		if i < impl.MaxPins {
			add(entPin("n"+x.Text, sumOf(x, 8)))
		}
	}
	for i := range impl.MaxLeases {
		add(entLease(sumOf(things[i], 8), impl.MaxHold))
	}
	c := impl.Replay(8, forms)
	if s := c.State; c.Code != 0 || len(s.Things) != 600 || len(s.Pins) != 100 || len(s.Leases) != 200 || !impl.ValidState(s) {
		t.Fatalf("code %d, %d", c.Code, c.Lease)
	}
	for _, e := range []impl.Entry{entPut(things[impl.MaxThings], 1), entPut(things[0], 1), entPin("x", sumOf(things[0], 8)), entLease(sumOf(things[0], 8), 1)} {
		list := append(slices.Clone(forms), impl.FormEntry(e, 8))
		if c := impl.Replay(8, list); !sameChanged(c, impl.Changed{Code: 7, Lease: len(list)}) {
			t.Errorf("%#v: code %d, %d", e, c.Code, c.Lease)
		}
	}
}

func TestReplaysAnswersAreNewMemory(t *testing.T) {
	entries := history(3, 8, 80)
	was := slices.Clone(entries)
	a, b := impl.Replay(8, entries), impl.Replay(8, entries)
	want := copyState(b.State)
	scribbleState(a.State)
	if !slices.Equal(entries, was) || !sameState(b.State, want) || !sameState(impl.Replay(8, entries).State, want) {
		t.Error("answers share memory")
	}
}

package tests

import (
	"maps"
	"slices"
	"strings"
	"testing"

	"loop.example/kilnvault/impl"
)

// record has for each size of a log what was put up to there, by sum: the last of those with one sum.
type record []map[string]impl.Thing

// follow brings the record up to the log of a vault, behind a command that put something, or behind any other act.
func (r record) follow(v impl.Vault, put *impl.Thing) record {
	size := logSize(v)
	if size < len(r) {
		return r[:size+1] // what a crash took away was never put
	}
	for len(r) <= size {
		next := maps.Clone(r[len(r)-1])
		if put != nil {
			next[sumOf(*put, v.Width)] = *put
		}
		r = append(r, next)
	}
	return r
}

// checkSafety asks of each thing that a pin or a lease holds, by its own count, whether Fetch gives what was put.
func checkSafety(t *testing.T, v impl.Vault, put map[string]impl.Thing) int {
	t.Helper()
	held := 0
	for sum, x := range put {
		got, ok := impl.Fetch(v, sum)
		if there := place(v.State, sum) >= 0; ok != there {
			t.Fatalf("Fetch of %q: %v", sum, ok)
		}
		if ok && !sameThing(got, x) || !ok && !sameThing(got, impl.Thing{}) {
			t.Fatalf("Fetch of %q gives %#v, not %#v", sum, got, x)
		}
	}
	roots := plainRoots(v.State)
	for len(roots) > 0 {
		sum := roots[0]
		x, ok := impl.Fetch(v, sum)
		if !ok || !sameThing(x, put[sum]) {
			t.Fatalf("%q is held and not as it was put: %v, %#v", sum, ok, x)
		}
		held++
		roots = append(roots[1:], x.Refs...)
		if held > 2000 {
			return held
		}
	}
	return held
}

// Whatever is done, in any order: what is held is there as it was put.
func TestWhatIsHeldIsThere(t *testing.T) {
	held, went := 0, 0
	for seed := range 60 {
		d := newDice(seed + 5000)
		v := opened(t, []int{8, 1, 2}[seed%3], 400)
		r := record{{}}
		for range 130 {
			a := d.act(v)
			x := perform(t, v, a)
			if a.entry.Kind == impl.EntPut && x.code == 0 {
				r = r.follow(x.vault, &a.entry.Thing)
			} else {
				r = r.follow(x.vault, nil)
			}
			if a.word == "clear" {
				checkUntouched(t, v, x.vault)
			}
			v, went = x.vault, went+len(x.dropped)
			held += checkSafety(t, v, r[len(r)-1])
		}
	}
	if held < 5000 || went < 300 {
		t.Errorf("too little is held or goes: %d, %d", held, went)
	}
}

// checkUntouched asks whether clearing has left the pins, the leases and all that is live as they were.
func checkUntouched(t *testing.T, before, behind impl.Vault) {
	t.Helper()
	if !slices.Equal(before.State.Pins, behind.State.Pins) || !slices.Equal(before.State.Leases, behind.State.Leases) {
		t.Fatal("clearing changes what is held")
	}
	a, b := before.State, behind.State
	if a.Now != b.Now || a.Given != b.Given || a.Births != b.Births || a.Width != b.Width {
		t.Fatal("clearing changes a number of the state")
	}
	for _, sum := range impl.Live(a) {
		at := place(b, sum)
		if at < 0 || !sameKept(a.Things[place(a, sum)], b.Things[at]) {
			t.Fatalf("%q is live and not as it was", sum)
		}
	}
	if !slices.Equal(impl.Live(a), impl.Live(b)) {
		t.Fatal("what is live is another behind clearing")
	}
}

// A long chain that hangs on one pin, through many rounds, crashes, and a change of the pin's place.
func TestAChainThatHangsOnOnePin(t *testing.T) {
	for _, width := range []int{2, 8} {
		var chain []impl.Thing
		v := opened(t, width, impl.MaxRoom)
		for len(chain) < 40 {
			x := impl.Thing{Text: strings.Repeat("c", len(chain))}
			if len(chain) > 0 {
				x.Refs = sortedSums(width, chain[len(chain)-1])
			}
			chain = append(chain, x)
			v = after(t, v, entPut(x, 1), entPin("top", sumOf(x, width)), entWait(1))
			v = cleared(t, v, len(chain)%7)
		}
		for at := len(chain) - 1; at >= 0; at -= 3 {
			v = after(t, v, entPin("top", sumOf(chain[at], width)))
			v = checkFlush(t, v)
			v = impl.Clear(v, 400).Vault
			for i, x := range chain {
				if got, ok := impl.Fetch(v, sumOf(x, width)); ok != (i <= at) || ok && !sameThing(got, x) {
					t.Fatalf("held at %d: thing %d is there: %v", at, i, ok)
				}
			}
			v = checkLose(t, v, at%5)
			if _, ok := impl.Fetch(v, sumOf(chain[at], width)); !ok {
				t.Fatalf("held at %d: gone behind a crash", at)
			}
		}
	}
}

// A lease holds until its time has come, and not a tick longer.
func TestWhatIsBorrowedAndWhoseTimeHasCome(t *testing.T) {
	leaf := impl.Thing{Text: "leaf"}
	tree := impl.Thing{Text: "tree", Refs: sortedSums(8, leaf)}
	v := after(t, opened(t, 8, 100), entPut(leaf, 1), entPut(tree, 4))
	for left := 4; left > 0; left-- {
		w := impl.Clear(v, 50).Vault
		if _, ok := impl.Fetch(w, sumOf(leaf, 8)); !ok || len(w.State.Things) != 2 {
			t.Errorf("%d ticks are left, and %d things", left, len(w.State.Things))
		}
		v = after(t, v, entWait(1))
	}
	if w := impl.Clear(v, 50).Vault; len(w.State.Things) != 0 {
		t.Errorf("%d things behind the time", len(w.State.Things))
	}
	w := cleared(t, after(t, v, entLease(sumOf(leaf, 8), impl.MaxHold)), 50)
	if _, ok := impl.Fetch(w, sumOf(leaf, 8)); !ok || len(w.State.Things) != 1 {
		t.Error("borrowed anew and gone")
	}
	w = cleared(t, after(t, w, impl.Entry{Kind: impl.EntGive, Number: w.State.Given}), 50)
	if _, ok := impl.Fetch(w, sumOf(leaf, 8)); ok {
		t.Error("given back and there")
	}
}

func TestFetch(t *testing.T) {
	v := grownVault(t)
	for _, k := range v.State.Things {
		if x, ok := impl.Fetch(v, k.Sum); !ok || !sameThing(x, k.Thing) {
			t.Errorf("%#v is not %#v", x, k.Thing)
		}
	}
	for _, sum := range []string{"", "abcdefgh", v.State.Things[0].Sum[:7], v.State.Things[0].Sum + "\x00", sumOf(impl.Thing{Text: "0"}, 8), strings.Repeat("x", 5000)} {
		if x, ok := impl.Fetch(v, sum); ok || !sameThing(x, impl.Thing{}) {
			t.Errorf("%q is there: %#v", sum, x)
		}
	}
	two := vaultOf(t, 2, entPut(twoBytes().Things[0].Thing, 1))
	for name, sum := range sumsNotThere() {
		if x, ok := impl.Fetch(two, sum); ok || !sameThing(x, impl.Thing{}) {
			t.Errorf("%s is there: %#v", name, x)
		}
	}
	if x, ok := impl.Fetch(two, twoBytes().Things[0].Sum); !ok || x.Text != twoBytes().Things[0].Thing.Text {
		t.Errorf("%#v, %v", x, ok)
	}
}

package tests

import (
	"strconv"
	"testing"

	"loop.example/kilnvault/impl"
)

// clashOf gives another thing with the sum of x, on the Refs given.
func clashOf(x impl.Thing, width int, refs []string) impl.Thing {
	for i := 0; ; i++ {
		y := impl.Thing{Text: "clash" + strconv.Itoa(i), Refs: refs}
		if sumOf(y, width) == sumOf(x, width) && !sameThing(x, y) {
			return y
		}
	}
}

func wantClash(t *testing.T, s impl.State, old, new impl.Thing) {
	t.Helper()
	c := checkApply(t, s, entPut(new, 1))
	if !sameChanged(c, impl.Changed{Code: 3, A: thingForm(old), B: thingForm(new)}) {
		t.Fatalf("%#v beside %#v: %#v", new, old, c)
	}
	if c.A == c.B || impl.Sum(c.A, s.Width) != impl.Sum(c.B, s.Width) {
		t.Errorf("%q and %q", c.A, c.B)
	}
}

func TestTwoThingsWithOneSum(t *testing.T) {
	for width := 1; width <= 2; width++ {
		for _, old := range leaves(5, width) {
			s := stateOf(width, old)
			wantClash(t, s, old, clashOf(old, width, nil))
			wantClash(t, s, old, clashOf(old, width, []string{sumOf(old, width)}))
		}
	}
}

// Which of two is refused hangs on which is there, and on nothing that was there before.
func TestTheSecondOfTwoIsRefused(t *testing.T) {
	old := impl.Thing{Text: "x"}
	new := clashOf(old, 1, nil)
	s := must(t, stateOf(1, old), entPin("n", sumOf(old, 1)))
	wantClash(t, s, old, new)
	s = must(t, s, impl.Entry{Kind: impl.EntUnpin, Name: "n"}, entDrop(sumOf(old, 1)))
	s = must(t, s, entPut(new, 1))
	wantClash(t, s, new, old)
}

func TestAThingIsNoClashOfItself(t *testing.T) {
	for _, x := range leaves(100, 1) {
		must(t, stateOf(1, x), entPut(x, 1))
	}
}

func TestAThingOnItsOwnSum(t *testing.T) {
	x := ownRef()
	if c := impl.Apply(impl.State{Width: 1}, entPut(x, 1)); !sameChanged(c, impl.Changed{Code: 2}) {
		t.Errorf("code %d", c.Code)
	}
	old := leafWith(1, func(sum string) bool { return sum == sumOf(x, 1) })
	wantClash(t, stateOf(1, old), old, x)
}

// A Ref that is not there is told ahead of a clash, a clash ahead of a full state.
func TestAClashInTheOrderOfCodes(t *testing.T) {
	old := leaves(impl.MaxThings, 2)
	missing := leafWith(2, func(sum string) bool { return place(stateOf(2, old...), sum) < 0 })
	s := stateOf(2, old...)
	wantCode(t, "a Ref is not there", s, entPut(clashOf(old[7], 2, sortedSums(2, missing)), 1), 2)
	wantClash(t, s, old[7], clashOf(old[7], 2, nil))
	wantClash(t, leased(s, impl.MaxLeases), old[7], clashOf(old[7], 2, nil))
	s.Given, s.Births = impl.MaxTime, impl.MaxTime
	wantClash(t, s, old[599], clashOf(old[599], 2, sortedSums(2, old[0], old[1])))
}

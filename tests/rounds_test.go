package tests

import (
	"slices"
	"testing"

	"loop.example/kilnvault/impl"
)

// What the document says of rounds, written a second time and as plainly as can be.

// mostQueue is MaxThings * (MaxRefs + 2) + MaxLog.
const mostQueue = 23200

func sameRound(a, b impl.Round) bool {
	return a.Phase == b.Phase && a.Top == b.Top && a.At == b.At && a.Rounds == b.Rounds &&
		slices.Equal(a.Queue, b.Queue) && slices.Equal(a.Marked, b.Marked)
}

func sameCleared(a, b impl.Cleared) bool {
	return a.Code == b.Code && sameState(a.State, b.State) && sameRound(a.Round, b.Round) && slices.Equal(a.Dropped, b.Dropped)
}

func copyRound(r impl.Round) impl.Round {
	r.Queue, r.Marked = slices.Clone(r.Queue), slices.Clone(r.Marked)
	return r
}

func plainRound(s impl.State, r impl.Round) bool {
	if !plainState(s) || r.Phase < 0 || r.Phase > 2 || r.Rounds < 0 || r.Rounds > 1000000000 || len(r.Queue) > 23200 || len(r.Marked) > 600 {
		return false
	}
	for _, sum := range r.Queue {
		if len(sum) != s.Width {
			return false
		}
	}
	for i, sum := range r.Marked {
		if len(sum) != s.Width || slices.Contains(r.Marked[:i], sum) {
			return false
		}
	}
	if r.Phase == 0 {
		return len(r.Queue)+len(r.Marked) == 0 && r.Top == 0 && r.At == 0
	}
	if r.Top < 0 || r.Top > s.Births || r.At < 1 || r.At > r.Top+1 {
		return false
	}
	return r.Phase == 2 || r.At == r.Top+1
}

// plainUnit is Unit as the document says it.
func plainUnit(s impl.State, r impl.Round) impl.Cleared {
	if !plainRound(s, r) || r.Rounds == 1000000000 {
		return impl.Cleared{Code: 1}
	}
	out := impl.Cleared{State: copyState(s), Round: copyRound(r)}
	n := &out.Round
	if r.Phase == 0 {
		n.Phase, n.Top, n.At, n.Queue = 1, s.Births, s.Births+1, plainRoots(s)
		return out
	}
	if len(r.Queue) > 0 {
		n.Queue = n.Queue[1:]
		at := place(s, r.Queue[0])
		if at < 0 || slices.Contains(r.Marked, r.Queue[0]) {
			return out
		}
		n.Marked = append(n.Marked, r.Queue[0])
		for _, ref := range s.Things[at].Thing.Refs {
			if !slices.Contains(n.Marked, ref) {
				n.Queue = append(n.Queue, ref)
			}
		}
		return out
	}
	next := -1
	for i, k := range s.Things {
		if k.Born < r.At && (next < 0 || k.Born > s.Things[next].Born) {
			next = i
		}
	}
	if next < 0 {
		out.Round = impl.Round{Rounds: r.Rounds + 1}
		return out
	}
	n.Phase, n.At = 2, s.Things[next].Born
	sum := s.Things[next].Sum
	if slices.Contains(r.Marked, sum) {
		return out
	}
	if c := plainApply(s, entDrop(sum)); c.Code == 0 {
		out.State, out.Dropped = c.State, []string{sum}
	}
	return out
}

func plainRoots(s impl.State) []string {
	var out []string
	for _, p := range s.Pins {
		if !slices.Contains(out, p.Sum) {
			out = append(out, p.Sum)
		}
	}
	for _, l := range s.Leases {
		if !slices.Contains(out, l.Sum) {
			out = append(out, l.Sum)
		}
	}
	return out
}

// plainShade is Shade as the document says it.
func plainShade(s impl.State, r impl.Round, sum string) impl.Round {
	if !plainRound(s, r) {
		return impl.Round{}
	}
	out := copyRound(r)
	if r.Phase != 0 && len(r.Queue) < 23200 && place(s, sum) >= 0 && !slices.Contains(r.Marked, sum) {
		out.Queue = append(out.Queue, sum)
	}
	return out
}

// checkUnit holds Unit and ValidRound against the document said a second time.
func checkUnit(t *testing.T, s impl.State, r impl.Round) impl.Cleared {
	t.Helper()
	state, round := copyState(s), copyRound(r)
	if got, want := impl.ValidRound(s, r), plainRound(s, r); got != want {
		t.Fatalf("phase %d: valid is %v", r.Phase, got)
	}
	got, want := impl.Unit(s, r), plainUnit(s, r)
	if !sameState(s, state) || !sameRound(r, round) {
		t.Fatal("what was given is changed")
	}
	if !sameCleared(got, want) {
		t.Fatalf("phase %d, %d in the queue, %d marked, at %d: %d %d %d %d %d %q, not %d %d %d %d %d %q", r.Phase, len(r.Queue), len(r.Marked), r.At,
			got.Code, got.Round.Phase, len(got.Round.Queue), len(got.Round.Marked), got.Round.At, got.Dropped,
			want.Code, want.Round.Phase, len(want.Round.Queue), len(want.Round.Marked), want.Round.At, want.Dropped)
	}
	return got
}

func checkShade(t *testing.T, s impl.State, r impl.Round, sum string) impl.Round {
	t.Helper()
	state, round := copyState(s), copyRound(r)
	got, want := impl.Shade(s, r, sum), plainShade(s, r, sum)
	if !sameState(s, state) || !sameRound(r, round) {
		t.Fatal("what was given is changed")
	}
	if !sameRound(got, want) {
		t.Fatalf("phase %d: Shade of %q gives %d in the queue, not %d", r.Phase, sum, len(got.Queue), len(want.Queue))
	}
	return got
}

package tests

import (
	"strings"
	"testing"

	"loop.example/kilnvault/impl"
)

// In histories with little room: Room never comes above the limit, not even by a crash.
func TestRoomIsAtMostTheLimit(t *testing.T) {
	refused, atLimit := 0, 0
	for seed := range 60 {
		d := newDice(seed + 3000)
		limit := []int{0, 1, 2, 10, 40, 90, 200}[seed%7]
		v := opened(t, []int{8, 1, 2}[seed%3], limit)
		for range 130 {
			x := perform(t, v, d.act(v))
			v = x.vault
			if room := impl.Room(v.State); room > limit || room != plainRoom(v.State) || v.Limit != limit {
				t.Fatalf("seed %d: room %d, limit %d", seed, room, v.Limit)
			}
			if x.code == 8 {
				refused++
			}
			if plainRoom(v.State) == limit {
				atLimit++
			}
		}
	}
	if refused < 150 || atLimit < 200 {
		t.Errorf("too little is done: %d refused, %d at the limit", refused, atLimit)
	}
}

func TestTheLimitIsMetExactly(t *testing.T) {
	for width := 1; width <= impl.MaxWidth; width++ {
		leaf := impl.Thing{Text: "leaf"}
		tree := impl.Thing{Text: "tree", Refs: sortedSums(width, leaf)}
		size := 5 + 5 + width
		for over := -2; over <= 2; over++ {
			v := after(t, opened(t, width, size+over), entPut(leaf, 1))
			want := 0
			if over < 0 {
				want = 8
			}
			wantDid(t, "a second thing", v, entPut(tree, 1), want)
			wantDid(t, "the first again", v, entPut(leaf, 1), 0)
		}
	}
	none := opened(t, 8, 0)
	wantDid(t, "the empty thing in no room", none, entPut(impl.Thing{}, 1), 8)
	wantDid(t, "a wait in no room", none, entWait(1), 0)
	wantDid(t, "the empty thing in its room", opened(t, 8, 1), entPut(impl.Thing{}, 1), 0)
	wantDid(t, "a byte too much", opened(t, 8, 1), entPut(impl.Thing{Text: "x"}, 1), 8)
}

// heavy are things whose forms have MaxRoom bytes together.
func heavy() []impl.Thing {
	var out []impl.Thing
	for left := impl.MaxRoom; left > 0; {
		size := min(left, impl.MaxText+1)
		out = append(out, impl.Thing{Text: strings.Repeat("h", size-4) + string([]byte{byte('0' + len(out)/100), byte('0' + len(out)/10%10), byte('0' + len(out)%10)})})
		left -= size
	}
	return out
}

func TestTheGreatestLimit(t *testing.T) {
	var entries []impl.Entry
	for _, x := range heavy() {
		entries = append(entries, entPut(x, 1), entWait(1))
	}
	v := vaultOf(t, 8, entries...)
	if impl.Room(v.State) != impl.MaxRoom || v.Limit != impl.MaxRoom {
		t.Fatalf("room %d, limit %d", impl.Room(v.State), v.Limit)
	}
	wantDid(t, "what is there", v, entPut(heavy()[7], 1), 0)
	wantDid(t, "one byte more", v, entPut(impl.Thing{}, 1), 8)
	v = vaultOf(t, 8, entries[:len(entries)-2]...)
	wantDid(t, "the last thing", v, entPut(heavy()[len(heavy())-1], 1), 0)
}

// A vault that was opened above its limit: nothing can be put, not even what is there, until enough is cleared away.
func TestRoomAboveTheLimitAtOpen(t *testing.T) {
	low, high := impl.Thing{Text: "low"}, impl.Thing{Text: "high"}
	base := vaultOf(t, 8, entPut(low, 1), entPut(high, 5), entWait(1))
	v, code := impl.Open(8, 8, base.Log)
	if code != 0 || impl.Room(v.State) != 9 || !impl.ValidVault(v) {
		t.Fatalf("code %d, room %d", code, impl.Room(v.State))
	}
	wantDid(t, "a new thing", v, entPut(impl.Thing{}, 1), 8)
	wantDid(t, "what is there", v, entPut(low, 1), 8)
	wantDid(t, "a pin", v, entPin("n", sumOf(low, 8)), 0)
	wantDid(t, "a lease", v, entLease(sumOf(low, 8), 1), 0)
	w := cleared(t, v, 5)
	if impl.Room(w.State) != 5 {
		t.Fatalf("room %d", impl.Room(w.State))
	}
	wantDid(t, "what is there, behind clearing", w, entPut(high, 1), 0)
	wantDid(t, "up to the limit", w, entPut(impl.Thing{Text: "xx"}, 1), 0)
	wantDid(t, "one byte more", w, entPut(impl.Thing{Text: "xxx"}, 1), 8)
	if again := checkLose(t, w, 0); again.Limit != 8 || impl.Room(again.State) != 9 {
		t.Errorf("limit %d, room %d", again.Limit, impl.Room(again.State))
	}
}

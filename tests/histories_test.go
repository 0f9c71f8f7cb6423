package tests

import (
	"math/rand"
	"slices"
	"strconv"

	"loop.example/kilnvault/impl"
)

// dice makes entries that have to do with a state, most of them such as can be applied; the same seed gives the same ones.
type dice struct {
	*rand.Rand
	texts int
}

func newDice(seed int) dice {
	return dice{Rand: rand.New(rand.NewSource(int64(seed))), texts: 1 + seed%40}
}

func (d dice) sum(s impl.State) string {
	if len(s.Things) == 0 || d.Intn(12) == 0 {
		return impl.Sum("not there"+strconv.Itoa(d.Intn(5)), s.Width)
	}
	return s.Things[d.Intn(len(s.Things))].Sum
}

func (d dice) name() string {
	return string([]byte{byte('a' + d.Intn(6))})
}

func (d dice) thing(s impl.State) impl.Thing {
	x := impl.Thing{Text: strconv.Itoa(d.Intn(d.texts))}
	for range d.Intn(5) {
		x.Refs = append(x.Refs, d.sum(s))
	}
	slices.Sort(x.Refs)
	x.Refs = slices.Compact(x.Refs)
	return x
}

func (d dice) entry(s impl.State) impl.Entry {
	switch d.Intn(14) {
	case 0, 1, 2, 3:
		return impl.Entry{Kind: impl.EntPut, Number: 1 + d.Intn(20), Thing: d.thing(s)}
	case 4, 5:
		return impl.Entry{Kind: impl.EntPin, Name: d.name(), Sum: d.sum(s)}
	case 6:
		return impl.Entry{Kind: impl.EntUnpin, Name: d.name()}
	case 7, 8:
		return impl.Entry{Kind: impl.EntLease, Sum: d.sum(s), Number: 1 + d.Intn(20)}
	case 9:
		return impl.Entry{Kind: impl.EntGive, Number: max(1, s.Given-d.Intn(6))}
	case 10:
		return impl.Entry{Kind: impl.EntWait, Number: 1 + d.Intn(6)}
	default:
		return impl.Entry{Kind: impl.EntDrop, Sum: d.sum(s)}
	}
}

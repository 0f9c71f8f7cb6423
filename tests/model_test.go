package tests

import (
	"slices"
	"strconv"
	"strings"

	"loop.example/kilnvault/impl"
)

// What the document says of states, written a second time and as plainly as can be: no maps, no copies that are spared, one look after the other.

func sumOf(x impl.Thing, width int) string {
	return impl.Sum(thingForm(x), width)
}

// stateOf lays things down by hand, born in the order in which they are given.
func stateOf(width int, things ...impl.Thing) impl.State {
	s := impl.State{Width: width, Births: len(things)}
	for i, x := range things {
		s.Things = append(s.Things, impl.Kept{Sum: sumOf(x, width), Born: i + 1, Thing: x})
	}
	slices.SortFunc(s.Things, func(a, b impl.Kept) int { return strings.Compare(a.Sum, b.Sum) })
	return s
}

// leaves gives count things without Refs, each with a sum of its own.
func leaves(count, width int) []impl.Thing {
	var out []impl.Thing
	taken := map[string]bool{}
	for i := 0; len(out) < count; i++ {
		x := impl.Thing{Text: strconv.Itoa(i)}
		if sum := sumOf(x, width); !taken[sum] {
			taken[sum] = true
			out = append(out, x)
		}
	}
	return out
}

// leafWith gives a thing without Refs for whose sum ok says yes.
func leafWith(width int, ok func(sum string) bool) impl.Thing {
	for i := 0; ; i++ {
		if x := (impl.Thing{Text: "leaf" + strconv.Itoa(i)}); ok(sumOf(x, width)) {
			return x
		}
	}
}

// pinned gives the state with count pins on one of its things, leased with count leases on it.
func pinned(s impl.State, count int) impl.State {
	s.Pins = nil
	for i := range count {
		s.Pins = append(s.Pins, impl.Pin{Name: "n" + strconv.Itoa(1000+i), Sum: s.Things[0].Sum})
	}
	return s
}

func leased(s impl.State, count int) impl.State {
	s.Leases, s.Given = nil, count
	for i := range count {
		s.Leases = append(s.Leases, impl.Lease{Number: i + 1, Sum: s.Things[0].Sum, Until: s.Now + 1})
	}
	return s
}

func sameKept(a, b impl.Kept) bool {
	return a.Sum == b.Sum && a.Born == b.Born && sameThing(a.Thing, b.Thing)
}

func sameState(a, b impl.State) bool {
	return a.Width == b.Width && a.Now == b.Now && a.Given == b.Given && a.Births == b.Births &&
		slices.EqualFunc(a.Things, b.Things, sameKept) && slices.Equal(a.Pins, b.Pins) && slices.Equal(a.Leases, b.Leases)
}

func sameChanged(a, b impl.Changed) bool {
	return a.Code == b.Code && a.Sum == b.Sum && a.Lease == b.Lease && a.A == b.A && a.B == b.B && sameState(a.State, b.State)
}

func copyState(s impl.State) impl.State {
	s.Things, s.Pins, s.Leases = slices.Clone(s.Things), slices.Clone(s.Pins), slices.Clone(s.Leases)
	for i := range s.Things {
		s.Things[i].Thing.Refs = slices.Clone(s.Things[i].Thing.Refs)
	}
	return s
}

func plainThing(x impl.Thing, width int) bool {
	for i, ref := range x.Refs {
		if len(ref) != width || i > 0 && x.Refs[i-1] >= ref {
			return false
		}
	}
	return len(x.Text) <= 2000 && len(x.Refs) <= 30
}

func plainName(name string) bool {
	for _, c := range []byte(name) {
		if c < 33 || c > 126 {
			return false
		}
	}
	return len(name) >= 1 && len(name) <= 40
}

// place is where the thing with a sum lies in a state, or -1.
func place(s impl.State, sum string) int {
	return slices.IndexFunc(s.Things, func(k impl.Kept) bool { return k.Sum == sum })
}

func plainState(s impl.State) bool {
	if s.Width < 1 || s.Width > 8 || len(s.Things) > 600 || len(s.Pins) > 100 || len(s.Leases) > 200 {
		return false
	}
	for _, number := range []int{s.Now, s.Given, s.Births} {
		if number < 0 || number > 1000000000 {
			return false
		}
	}
	for i, k := range s.Things {
		if !plainThing(k.Thing, s.Width) || k.Sum != sumOf(k.Thing, s.Width) || k.Born < 1 || k.Born > s.Births {
			return false
		}
		if i > 0 && s.Things[i-1].Sum >= k.Sum || slices.ContainsFunc(s.Things[:i], func(o impl.Kept) bool { return o.Born == k.Born }) {
			return false
		}
		for _, ref := range k.Thing.Refs {
			if at := place(s, ref); at < 0 || s.Things[at].Born >= k.Born {
				return false
			}
		}
	}
	for i, p := range s.Pins {
		if i > 0 && s.Pins[i-1].Name >= p.Name || !plainName(p.Name) || place(s, p.Sum) < 0 {
			return false
		}
	}
	for i, l := range s.Leases {
		if i > 0 && s.Leases[i-1].Number >= l.Number || l.Number < 1 || l.Number > s.Given || place(s, l.Sum) < 0 || l.Until <= s.Now || l.Until > s.Now+100000 {
			return false
		}
	}
	return true
}

func isHeldIn(s impl.State, sum string) bool {
	return slices.ContainsFunc(s.Pins, func(p impl.Pin) bool { return p.Sum == sum }) ||
		slices.ContainsFunc(s.Leases, func(l impl.Lease) bool { return l.Sum == sum })
}

func isRefIn(s impl.State, sum string) bool {
	return slices.ContainsFunc(s.Things, func(k impl.Kept) bool { return slices.Contains(k.Thing.Refs, sum) })
}

// plainApply is Apply as the document says it.
func plainApply(s impl.State, e impl.Entry) impl.Changed {
	if !plainState(s) || !plainlyValid(e, s.Width) {
		return impl.Changed{Code: 1}
	}
	out := impl.Changed{State: copyState(s)}
	n := &out.State
	switch e.Kind {
	case impl.EntPut:
		return plainPut(s, e)
	case impl.EntPin:
		at := slices.IndexFunc(n.Pins, func(p impl.Pin) bool { return p.Name == e.Name })
		switch {
		case place(s, e.Sum) < 0:
			return impl.Changed{Code: 2}
		case at >= 0:
			n.Pins[at].Sum = e.Sum
		case len(s.Pins) == 100:
			return impl.Changed{Code: 4}
		default:
			n.Pins = append(n.Pins, impl.Pin{Name: e.Name, Sum: e.Sum})
			slices.SortFunc(n.Pins, func(a, b impl.Pin) int { return strings.Compare(a.Name, b.Name) })
		}
	case impl.EntUnpin:
		n.Pins = slices.DeleteFunc(n.Pins, func(p impl.Pin) bool { return p.Name == e.Name })
		if len(n.Pins) == len(s.Pins) {
			return impl.Changed{Code: 5}
		}
	case impl.EntLease:
		if place(s, e.Sum) < 0 {
			return impl.Changed{Code: 2}
		}
		return plainLease(out, e.Sum, e.Number)
	case impl.EntGive:
		n.Leases = slices.DeleteFunc(n.Leases, func(l impl.Lease) bool { return l.Number == e.Number })
		if len(n.Leases) == len(s.Leases) {
			return impl.Changed{Code: 5}
		}
	case impl.EntWait:
		if n.Now += e.Number; n.Now > 1000000000 {
			return impl.Changed{Code: 4}
		}
		n.Leases = slices.DeleteFunc(n.Leases, func(l impl.Lease) bool { return l.Until <= n.Now })
	case impl.EntDrop:
		at := place(s, e.Sum)
		if at < 0 {
			return impl.Changed{Code: 2}
		}
		if isHeldIn(s, e.Sum) || isRefIn(s, e.Sum) {
			return impl.Changed{Code: 6}
		}
		n.Things = slices.Delete(n.Things, at, at+1)
	}
	return out
}

func plainPut(s impl.State, e impl.Entry) impl.Changed {
	for _, ref := range e.Thing.Refs {
		if place(s, ref) < 0 {
			return impl.Changed{Code: 2}
		}
	}
	out := impl.Changed{State: copyState(s), Sum: sumOf(e.Thing, s.Width)}
	n := &out.State
	if at := place(s, out.Sum); at >= 0 {
		if old := thingForm(s.Things[at].Thing); old != thingForm(e.Thing) {
			return impl.Changed{Code: 3, A: old, B: thingForm(e.Thing)}
		}
		return plainLease(out, out.Sum, e.Number)
	}
	if n.Births++; n.Births > 1000000000 || len(n.Things) == 600 {
		return impl.Changed{Code: 4}
	}
	n.Things = append(n.Things, impl.Kept{Sum: out.Sum, Born: n.Births, Thing: e.Thing})
	slices.SortFunc(n.Things, func(a, b impl.Kept) int { return strings.Compare(a.Sum, b.Sum) })
	return plainLease(out, out.Sum, e.Number)
}

func plainLease(out impl.Changed, sum string, ticks int) impl.Changed {
	n := &out.State
	if n.Given++; n.Given > 1000000000 || len(n.Leases) == 200 {
		return impl.Changed{Code: 4}
	}
	n.Leases = append(n.Leases, impl.Lease{Number: n.Given, Sum: sum, Until: n.Now + ticks})
	out.Lease = n.Given
	return out
}

package impl

import "slices"

// Limits of logs.
const (
	MaxEntry = 5000
	MaxLog   = 4000
)

// Log is a log on a disk.
type Log struct {
	Safe  []string
	Loose []string
}

// safePart is what no crash takes away.
type safePart struct {
	safe []string
}

// disk is a log as a crash sees it: a part that stays, and a part of which
// some beginning stays.
type disk struct {
	safePart
	loose []string
}

func (p safePart) kept(yield func(string) bool) {
	for _, entry := range p.safe {
		if !yield(entry) {
			return
		}
	}
}

func (d disk) open(yield func(string) bool) {
	for _, entry := range d.loose {
		if !yield(entry) {
			return
		}
	}
}

func (d disk) all(yield func(string) bool) {
	for entry := range d.kept {
		if !yield(entry) {
			return
		}
	}
	for entry := range d.open {
		if !yield(entry) {
			return
		}
	}
}

func (d disk) count() int {
	return len(d.safe) + len(d.loose)
}

func diskOf(l Log) disk {
	return disk{safePart: safePart{safe: l.Safe}, loose: l.Loose}
}

// ValidLog says whether a log is valid.
func ValidLog(l Log) bool {
	d := diskOf(l)
	if d.count() > MaxLog {
		return false
	}
	for entry := range d.all {
		if len(entry) > MaxEntry {
			return false
		}
	}
	return true
}

// Append puts an entry behind a log.
func Append(l Log, entry string) (Log, int) {
	if !ValidLog(l) || len(entry) > MaxEntry {
		return Log{}, 1
	}
	d := diskOf(l)
	if d.count() == MaxLog {
		return Log{}, 2
	}
	// Both lists are gathered anew: the answer shares none with l.
	return Log{
		Safe:  slices.Collect(d.kept),
		Loose: append(slices.Collect(d.open), entry),
	}, 0
}

// Sync makes a log safe.
func Sync(l Log) Log {
	return Crash(l, len(l.Loose))
}

// Crash gives what a crash leaves of a log.
func Crash(l Log, keep int) Log {
	if !ValidLog(l) {
		return Log{}
	}
	d := diskOf(l)
	d.loose = d.loose[:min(max(keep, 0), len(d.loose))]
	return Log{Safe: slices.Collect(d.all)}
}

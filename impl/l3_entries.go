package impl

import (
	"errors"
	"strconv"
	"strings"
)

// Limits of names and times.
const (
	MaxName = 40
	MaxTime = 1000000000
	MaxHold = 100000
)

// Kinds of entries.
const (
	EntPut = iota + 1
	EntPin
	EntUnpin
	EntLease
	EntGive
	EntWait
	EntDrop
)

// numberSize is how many bytes of a form the Number has.
const numberSize = 4

// Entry is one change.
type Entry struct {
	Kind   int
	Sum    string
	Name   string
	Number int
	Thing  Thing
}

// parts says which parts an entry uses. most is the greatest Number, and 0
// where the Number is not used.
type parts struct {
	name  bool
	sum   bool
	thing bool
	most  int
}

var kindParts = [...]parts{
	EntPut:   {thing: true, most: MaxHold},
	EntPin:   {name: true, sum: true},
	EntUnpin: {name: true},
	EntLease: {sum: true, most: MaxHold},
	EntGive:  {most: MaxTime},
	EntWait:  {most: MaxHold},
	EntDrop:  {sum: true},
}

// Why a text is no entry.
var (
	errWidth = errors.New("no width")
	errKind  = errors.New("no kind of entry")
	errShort = errors.New("it ends too early")
	errThing = errors.New("its thing is none")
	errLong  = errors.New("it goes on behind its end")
	errParts = errors.New("a part is not as its kind asks")
)

// entryError tells of which kind the entry was to be that could not be read.
type entryError struct {
	kind  int
	cause error
}

func (e *entryError) Error() string {
	return "entry of kind " + strconv.Itoa(e.kind) + ": " + e.cause.Error()
}

func (e *entryError) Unwrap() error {
	return e.cause
}

// FormEntry writes an entry.
func FormEntry(e Entry, width int) string {
	if !validEntry(e, width) {
		return ""
	}
	var form strings.Builder
	form.WriteByte(byte(e.Kind))
	for i := range numberSize {
		form.WriteByte(byte(e.Number >> (8 * (numberSize - 1 - i))))
	}
	form.WriteByte(byte(len(e.Name)))
	form.WriteString(e.Name)
	form.WriteString(e.Sum)
	if e.Kind == EntPut {
		form.WriteString(FormThing(e.Thing, width))
	}
	return form.String()
}

// ReadEntry reads an entry.
func ReadEntry(s string, width int) (Entry, bool) {
	r := entryReader{rest: s}
	e := r.entry(width)
	var bad *entryError
	if errors.As(r.err, &bad) {
		return Entry{}, false
	}
	return e, true
}

// entryReader takes a form apart from its front. Its first error stays, and
// all that is read behind it is nothing.
type entryReader struct {
	rest string
	kind int
	err  error
}

func (r *entryReader) fail(cause error) {
	if r.err == nil {
		r.err = &entryError{kind: r.kind, cause: cause}
	}
}

func (r *entryReader) take(size int) string {
	if r.err != nil {
		return ""
	}
	if len(r.rest) < size {
		r.fail(errShort)
		return ""
	}
	taken := r.rest[:size]
	r.rest = r.rest[size:]
	return taken
}

func (r *entryReader) number(size int) int {
	taken, number := r.take(size), 0
	for i := range len(taken) {
		number = number<<8 | int(taken[i])
	}
	return number
}

func (r *entryReader) thing(width int) Thing {
	t, ok := ReadThing(r.take(len(r.rest)), width)
	if !ok {
		r.fail(errThing)
	}
	return t
}

func (r *entryReader) entry(width int) Entry {
	if !isWidth(width) {
		r.fail(errWidth)
	}
	r.kind = r.number(1)
	uses, ok := partsOf(r.kind)
	if !ok {
		r.fail(errKind)
	}
	e := Entry{Kind: r.kind, Number: r.number(numberSize)}
	e.Name = r.take(r.number(1))
	if uses.sum {
		e.Sum = r.take(width)
	}
	if uses.thing {
		e.Thing = r.thing(width)
	}
	if r.rest != "" {
		r.fail(errLong)
	}
	if !validEntry(e, width) {
		r.fail(errParts)
	}
	return e
}

func partsOf(kind int) (parts, bool) {
	if kind < EntPut || kind > EntDrop {
		return parts{}, false
	}
	return kindParts[kind], true
}

func validEntry(e Entry, width int) bool {
	uses, ok := partsOf(e.Kind)
	return ok && isWidth(width) &&
		sumFits(e.Sum, uses, width) &&
		nameFits(e.Name, uses) &&
		numberFits(e.Number, uses) &&
		thingFits(e.Thing, uses, width)
}

func sumFits(sum string, uses parts, width int) bool {
	if !uses.sum {
		return sum == ""
	}
	return len(sum) == width
}

func nameFits(name string, uses parts) bool {
	if !uses.name {
		return name == ""
	}
	return isName(name)
}

func numberFits(number int, uses parts) bool {
	if uses.most == 0 {
		return number == 0
	}
	return number >= 1 && number <= uses.most
}

func thingFits(t Thing, uses parts, width int) bool {
	if !uses.thing {
		return t.Text == "" && len(t.Refs) == 0
	}
	return validThing(t, width)
}

func isName(name string) bool {
	if len(name) < 1 || len(name) > MaxName {
		return false
	}
	for i := range len(name) {
		if name[i] < 33 || name[i] > 126 {
			return false
		}
	}
	return true
}

package tests

import (
	"fmt"
	"net/url"
	"regexp"
	"slices"
	"strconv"
	"strings"
	"testing"

	"loop.example/kilnvault/impl"
)

// What the document says of sessions, written a second time and as plainly as can be: a pattern a line of its table, over the commands of the vault, which have tests of their own.

const (
	wordForm   = `([^ ]+)`
	thingForms = `((?: [^ ]+)*)`
	countForm  = `(0|[1-9][0-9]{0,6})`
	textForm   = `((?:[!-$&-~]|%[0-9a-f]{2})+)`
)

func form(parts ...string) *regexp.Regexp {
	return regexp.MustCompile("^" + strings.Join(parts, "") + "$")
}

// plainLine is a line of the table: its form, and what it does with the words that stand in its places.
type plainLine struct {
	form *regexp.Regexp
	does func(*plainTeller, []string) string
}

var plainLines = []plainLine{
	{form("open ", countForm, " ", countForm), (*plainTeller).open},
	{form("put ", wordForm, " ", countForm, " ", textForm, thingForms), (*plainTeller).put},
	{form("pin ", wordForm, " ", wordForm), (*plainTeller).pin},
	{form("unpin ", wordForm), func(p *plainTeller, w []string) string { return p.did(impl.Loosen(p.vault, w[0])) }},
	{form("lease ", wordForm, " ", countForm), (*plainTeller).lease},
	{form("give ", countForm), func(p *plainTeller, w []string) string { return p.did(impl.GiveBack(p.vault, count(w[0]))) }},
	{form("wait ", countForm), func(p *plainTeller, w []string) string { return p.did(impl.Wait(p.vault, count(w[0]))) }},
	{form("get ", wordForm), (*plainTeller).get},
	{form("flush"), func(p *plainTeller, w []string) string { p.vault = impl.Flush(p.vault); return "ok" }},
	{form("lose ", countForm), func(p *plainTeller, w []string) string { p.vault = impl.Lose(p.vault, count(w[0])); return "ok" }},
	{form("clear ", countForm), (*plainTeller).clear},
	{form("size"), (*plainTeller).size},
}

func count(word string) int {
	number, err := strconv.Atoi(word)
	if err != nil {
		panic(err)
	}
	return number
}

// plainGiven is a name and its sum; of two with one name the later one counts.
type plainGiven struct{ name, sum string }

type plainTeller struct {
	vault impl.Vault
	given []plainGiven
}

// sumOf gives false for a name that was not given.
func (p *plainTeller) sumOf(name string) (string, bool) {
	for _, g := range slices.Backward(p.given) {
		if g.name == name {
			return g.sum, true
		}
	}
	return "", false
}

func (p *plainTeller) did(d impl.Did) string {
	p.vault = d.Vault
	return fmt.Sprintf("code %d", d.Code)
}

func (p *plainTeller) open(w []string) string {
	v, code := impl.Open(count(w[0]), count(w[1]), impl.Log{})
	if code == 0 {
		p.vault = v
	}
	p.given = nil
	return fmt.Sprintf("code %d", code)
}

func (p *plainTeller) put(w []string) string {
	text, err := url.PathUnescape(w[2])
	if err != nil {
		panic(err)
	}
	if w[2] == "-" {
		text = ""
	}
	refs := map[string]bool{}
	for _, name := range strings.Split(w[3], " ")[1:] {
		sum, ok := p.sumOf(name)
		if !ok {
			return "bad"
		}
		refs[sum] = true
	}
	x := impl.Thing{Text: text}
	for sum := range refs {
		x.Refs = append(x.Refs, sum)
	}
	slices.Sort(x.Refs)
	d := impl.Put(p.vault, x, count(w[1]))
	answer := p.did(d)
	switch d.Code {
	case 0:
		p.given = append(p.given, plainGiven{w[0], d.Sum})
		answer += fmt.Sprintf(" lease %d", d.Lease)
	case 3:
		answer += " clash"
	}
	return answer
}

func (p *plainTeller) pin(w []string) string {
	sum, ok := p.sumOf(w[1])
	if !ok {
		return "bad"
	}
	return p.did(impl.Hold(p.vault, w[0], sum))
}

func (p *plainTeller) lease(w []string) string {
	sum, ok := p.sumOf(w[0])
	if !ok {
		return "bad"
	}
	d := impl.Borrow(p.vault, sum, count(w[1]))
	if d.Code == 0 {
		return p.did(d) + fmt.Sprintf(" lease %d", d.Lease)
	}
	return p.did(d)
}

func (p *plainTeller) get(w []string) string {
	sum, ok := p.sumOf(w[0])
	if !ok {
		return "bad"
	}
	x, there := impl.Fetch(p.vault, sum)
	if !there {
		return "none"
	}
	return plainWord(x.Text)
}

func plainWord(text string) string {
	switch text {
	case "":
		return "-"
	case "-":
		return "%2d"
	}
	out := ""
	for _, c := range []byte(text) {
		if c < 33 || c > 126 || c == '%' {
			out += fmt.Sprintf("%%%02x", c)
		} else {
			out += string([]byte{c})
		}
	}
	return out
}

func (p *plainTeller) clear(w []string) string {
	x := impl.Clear(p.vault, count(w[0]))
	if x.Code == 0 {
		p.vault = x.Vault
	}
	return fmt.Sprintf("code %d units %d dropped %d", x.Code, x.Units, len(x.Dropped))
}

func (p *plainTeller) size(w []string) string {
	s := p.vault.State
	return fmt.Sprintf("%d things %d pins %d leases %d now", len(s.Things), len(s.Pins), len(s.Leases), s.Now)
}

func (p *plainTeller) line(line string) string {
	for _, l := range plainLines {
		if m := l.form.FindStringSubmatch(line); m != nil {
			return l.does(p, m[1:])
		}
	}
	return "bad"
}

// plainSession gives the answers line by line; none for a text that is too long.
func plainSession(text string) ([]string, bool) {
	var lines []string
	for rest := text; rest != ""; {
		line, behind, _ := strings.Cut(rest, "\n")
		lines, rest = append(lines, line), behind
	}
	if len(text) > 20000 || len(lines) > 400 {
		return nil, false
	}
	v, _ := impl.Open(8, 1000000, impl.Log{})
	p := &plainTeller{vault: v}
	var out []string
	for _, line := range lines {
		out = append(out, p.line(line)+"\n")
	}
	return out, true
}

// checkSession holds a session against the document said a second time.
func checkSession(t *testing.T, text string) []string {
	t.Helper()
	want, ok := plainSession(text)
	got := impl.Session(text)
	if !ok {
		if got != "too long\n" {
			t.Fatalf("%.300q is not too long: %.300q", text, got)
		}
		return nil
	}
	if got != strings.Join(want, "") {
		t.Fatalf("%q:\n%s\nnot\n%s", text, got, strings.Join(want, ""))
	}
	return want
}

// talk is a session in which each line stands with its answer.
type talk [][2]string

func (k talk) text() string {
	out := ""
	for _, l := range k {
		out += l[0] + "\n"
	}
	return out
}

func (k talk) answers() string {
	out := ""
	for _, l := range k {
		out += l[1] + "\n"
	}
	return out
}

// wantTalk asks for each line's answer, in the words of the test and in those of the document said a second time.
func wantTalk(t *testing.T, name string, k talk) {
	t.Helper()
	got := strings.SplitAfter(impl.Session(k.text()), "\n")
	if len(got) != len(k)+1 {
		t.Fatalf("%s: %d answers to %d lines", name, len(got)-1, len(k))
	}
	for i, l := range k {
		if got[i] != l[1]+"\n" {
			t.Errorf("%s, line %d: %.100q is answered %.100q, not %.100q", name, i+1, l[0], got[i], l[1])
		}
	}
	if plain := strings.Join(checkSession(t, k.text()), ""); plain != k.answers() {
		t.Errorf("%s: the document said a second time answers %q", name, plain)
	}
}

// sessionDice makes lines; the same seed gives the same ones.
type sessionDice struct {
	dice
	wide bool
}

func (d sessionDice) pick(words ...string) string {
	return words[d.Intn(len(words))]
}

func (d sessionDice) thing() string {
	return string([]byte{byte('a' + d.Intn(7))})
}

func (d sessionDice) ticks() string {
	if d.Intn(15) == 0 {
		return d.pick("0", "100000", "100001", "9999999", "10000000", "01", "-1", "x", "1x")
	}
	return strconv.Itoa(1 + d.Intn(30))
}

func (d sessionDice) text() string {
	if d.Intn(4) == 0 {
		return d.pick("-", "%2d", "--", "%25", "%00%ff", "a%20b", "%", "%4", "%4G", "%2D", "\x7f", "\x1f", "\xff", "%61", "~!", strings.Repeat("x", 50))
	}
	return strconv.Itoa(d.Intn(20 * d.texts))
}

func (d sessionDice) put() string {
	line := "put " + d.thing() + " " + d.ticks() + " " + d.text()
	for range max(0, d.Intn(5)-2) {
		line += " " + d.thing()
	}
	return line
}

func (d sessionDice) open() string {
	if d.wide {
		return "open " + d.pick("9", "0", "8", "2", "01") + " " + d.pick("1000000", "1000001", "5000", "10000000")
	}
	return "open " + d.pick("1", "1", "1", "9", "0") + " " + d.pick("9", "40", "1000000", "1000001")
}

func (d sessionDice) line() string {
	switch d.Intn(28) {
	case 0, 1, 2, 3, 4, 5, 24, 25, 26, 27:
		return d.put()
	case 6, 7:
		return "pin " + d.pick("p", "q", "r", "s", strings.Repeat("n", 41), "\x01") + " " + d.thing()
	case 8, 9:
		return "unpin " + d.pick("p", "q", "r", "s", strings.Repeat("n", 40), strings.Repeat("n", 41))
	case 10, 11:
		return "lease " + d.thing() + " " + d.ticks()
	case 12:
		return "give " + d.ticks()
	case 13, 14:
		return "wait " + d.ticks()
	case 15, 16, 17:
		return "get " + d.thing()
	case 18:
		return d.pick("flush", "lose 0", "lose 1", "lose 3", "lose 9999999")
	case 19, 20, 21:
		return "clear " + d.pick("1", "2", "3", "5", "9", "30", "10000", "10001", "0")
	case 22:
		if d.Intn(4) == 0 {
			return d.open()
		}
	}
	return "size"
}

// spoilt puts a byte into a line, cuts it short or writes it in other letters, or leaves it as it is, as most often.
func (d sessionDice) spoilt(line string) string {
	at := d.Intn(len(line) + 1)
	switch d.Intn(50) {
	case 0:
		return line[:at] + d.pick(" ", "x", "\x00", "\t", "%", "\r", "\xe4") + line[at:]
	case 1:
		return line[:at]
	case 2:
		return line[at:]
	case 3:
		return strings.ToUpper(line)
	}
	return line
}

func (d sessionDice) session(lines int) string {
	var out []string
	if !d.wide {
		out = append(out, "open 1 "+d.pick("12", "1000"))
	}
	for len(out) < lines/4 {
		out = append(out, d.put())
	}
	for len(out) < lines {
		out = append(out, d.spoilt(d.line()))
	}
	return strings.Join(out, "\n") + d.pick("", "\n")
}

func newSessionDice(seed int) sessionDice {
	return sessionDice{dice: newDice(seed), wide: seed%2 == 0}
}

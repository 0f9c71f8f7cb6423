package tests

import (
	"math/rand"
	"slices"
	"strings"
	"testing"

	"loop.example/kilnvault/impl"
)

// goodLines has each line of the table, for a session in which a and b are given and p is pinned.
func goodLines() []string {
	return []string{"open 8 50", "put c 5 z", "put c 5 - a", "put c 5 - a b", "pin q a", "unpin p", "lease a 5", "give 1", "wait 1", "get a", "flush", "lose 1", "clear 5", "size"}
}

// wantBad asks that a line is answered bad, and that what stands behind it is answered as without it.
func wantBad(t *testing.T, line string) {
	t.Helper()
	before := "put a 5 x\nput b 5 y\npin p a\nflush\nput b 5 w\n"
	behind := "size\nget a\nget b\nget c\npin q c\nput d 1 - a\nunpin q\nunpin p\nlose 0\nsize\nclear 9\n"
	start, whole := checkSession(t, before), checkSession(t, before+behind)
	got := impl.Session(before + line + "\n" + behind)
	if want := strings.Join(start, "") + "bad\n" + strings.Join(whole[len(start):], ""); got != want {
		t.Errorf("%q: %q, not %q", line, got, want)
	}
}

func TestLinesThatAreBad(t *testing.T) {
	for _, line := range goodLines() {
		if got := checkSession(t, "put a 5 x\nput b 5 y\npin p a\n"+line); got[3] == "bad\n" {
			t.Errorf("%q: bad", line)
		}
		words := strings.Split(line, " ")
		for i := range words {
			spaced := slices.Clone(words)
			spaced[i] += " "
			wantBad(t, strings.Join(spaced, " "))
			spaced[i] = " " + words[i]
			wantBad(t, strings.Join(spaced, " "))
		}
		for _, other := range []string{strings.ToUpper(line), strings.ToUpper(line[:1]) + line[1:], strings.Replace(line, words[0], words[0]+"s", 1), strings.Replace(line, words[0], words[0][1:], 1), "\t" + line, "\x00" + line, "\ufeff" + line} {
			wantBad(t, other)
		}
		if tabs := strings.ReplaceAll(line, " ", "\t"); tabs != line {
			wantBad(t, tabs)
		}
		wantBad(t, line+" nobody")
		for cut := range len(words) - 1 {
			if words[0] != "put" || cut < 3 {
				wantBad(t, strings.Join(words[:cut+1], " "))
			}
		}
	}
	for _, line := range []string{"", " ", "  ", "look", "drop a", "help", "bad", "code 0", "-", "0", "%", "\x00", "\xff", "put", "a", "hold p a", "loosen p", "borrow a 1", "clear", "size\r", "flush\r"} {
		wantBad(t, line)
	}
}

func TestLinesWithWordsTooMany(t *testing.T) {
	for _, line := range []string{"open 8 50 1", "pin q a b", "pin q r a", "unpin p p", "unpin p q", "lease a 5 5", "lease a b 5", "give 1 2", "wait 1 1", "get a b", "get a a", "flush 1", "flush a", "lose 1 1", "clear 5 5", "size size", "size 1", "put c 5 x y", "put c 5 x 1", "put c d 5 x"} {
		wantBad(t, line)
	}
}

func TestLinesThatNameNothing(t *testing.T) {
	for _, line := range []string{"get c", "get p", "get A", "get a1", "get x", "pin q c", "pin a q", "pin p p", "lease c 5", "lease 1 5", "lease p 5", "put c 5 z c", "put c 5 z a c", "put c 5 z c a", "put c 5 z a b p", "put a 5 z q", "put c 0 z q"} {
		wantBad(t, line)
	}
}

// A last piece that is empty is no line; every other one that is empty is a bad one.
func TestWhereLinesEnd(t *testing.T) {
	for text, want := range map[string]string{
		"":                   "",
		"\n":                 "bad\n",
		"\n\n":               "bad\nbad\n",
		"\n\n\n":             "bad\nbad\nbad\n",
		" ":                  "bad\n",
		" \n":                "bad\n",
		"flush":              "ok\n",
		"flush\n":            "ok\n",
		"flush\n\n":          "ok\nbad\n",
		"\nflush":            "bad\nok\n",
		"flush\n\nflush":     "ok\nbad\nok\n",
		"flush\nflush":       "ok\nok\n",
		"flush\n ":           "ok\nbad\n",
		"flush\r\nflush\r\n": "bad\nbad\n",
		"flush\rflush":       "bad\n",
		"flush\x00\nflush":   "bad\nok\n",
		"\x00":               "bad\n",
		"\xff\xfe":           "bad\n",
		"flush\u2028flush":   "bad\n",
	} {
		if got := impl.Session(text); got != want {
			t.Errorf("%q: %q, not %q", text, got, want)
		}
		checkSession(t, text)
	}
}

func TestTheMostLinesOfASession(t *testing.T) {
	for line, answer := range map[string]string{"": "bad\n", "look": "bad\n", "flush": "ok\n", " ": "bad\n", "size": "0 things 0 pins 0 leases 0 now\n"} {
		full := strings.Repeat(line+"\n", impl.MaxLines)
		want := strings.Repeat(answer, impl.MaxLines)
		if got := impl.Session(full); got != want {
			t.Errorf("%q: %d bytes, not %d", line, len(got), len(want))
		}
		for _, more := range []string{"\n", "x", " ", "size", "size\n", "\n\n"} {
			if got := impl.Session(full + more); got != "too long\n" {
				t.Errorf("%q and %q: %d bytes, %.40q", line, more, len(got), got)
			}
		}
		if line == "" {
			continue // without its newline the last of them is no line
		}
		if got := impl.Session(full[:len(full)-1]); got != want {
			t.Errorf("%q with no newline at its end: %d bytes, not %d", line, len(got), len(want))
		}
	}
	if got := impl.Session(strings.Repeat("\n", impl.MaxLines-1)); got != strings.Repeat("bad\n", impl.MaxLines-1) {
		t.Errorf("%d bytes", len(got))
	}
}

func TestTheMostBytesOfASession(t *testing.T) {
	for _, begin := range []string{"", "flush\n", "put a 1 x\nget a\n", "put a 1 ", "size\nget "} {
		for _, end := range []string{"", "\n", "\nflush", "\nflush\n", "\n\n"} {
			for _, c := range []string{"x", " ", "\x00", "\xff", "%"} {
				full := begin + strings.Repeat(c, impl.MaxSession-len(begin)-len(end)) + end
				if len(full) != impl.MaxSession {
					t.Fatal(len(full))
				}
				if got := checkSession(t, full); len(got) == 0 {
					t.Errorf("%q: no answer", begin)
				}
				checkSession(t, full[1:])
				for _, more := range []string{full + "\n", full + "x", "\n" + full, " " + full, full + full} {
					if got := impl.Session(more); got != "too long\n" {
						t.Errorf("%d bytes from %q on: %.40q", len(more), begin, got)
					}
				}
			}
		}
	}
	// As many bytes and as many lines as may be, in one text.
	line := strings.Repeat("x", impl.MaxSession/impl.MaxLines-1) + "\n"
	full := strings.Repeat(line, impl.MaxLines)
	if got := impl.Session(full); len(full) != impl.MaxSession || got != strings.Repeat("bad\n", impl.MaxLines) {
		t.Errorf("%d bytes: %d", len(full), len(got))
	}
}

// wantBeginnings asks that a session, cut at any line, with and without the newline there, is answered by the beginning of the whole answer.
func wantBeginnings(t *testing.T, text string, whole []string) {
	t.Helper()
	lines := strings.SplitAfter(text, "\n")
	for i := range len(whole) + 1 {
		cut, want := strings.Join(lines[:i], ""), strings.Join(whole[:i], "")
		if got := impl.Session(cut); got != want {
			t.Fatalf("%q: %q, not %q", cut, got, want)
		}
		bare := strings.TrimSuffix(cut, "\n")
		if strings.HasSuffix(bare, "\n") || bare == "" {
			continue // its last line is empty, and is none without its newline
		}
		if got := impl.Session(bare); got != want {
			t.Fatalf("%q: %q, not %q", bare, got, want)
		}
	}
}

func TestSessionsAreAnsweredLineByLine(t *testing.T) {
	var kinds [12]int
	for seed := range 600 {
		text := newSessionDice(seed).session(40)
		whole := checkSession(t, text)
		for i, kind := range []string{"bad\n", "none\n", "ok\n", "code 0\n", "code 0 lease ", "code 1\n", "code 2\n", "code 3 clash\n", "code 5\n", "code 8\n", "code 0 units ", "code 1 units "} {
			for _, answer := range whole {
				if strings.HasPrefix(answer, kind) {
					kinds[i]++
				}
			}
		}
		if seed < 60 {
			wantBeginnings(t, text, whole)
		}
	}
	for i, count := range kinds {
		if count < 20 {
			t.Errorf("too few of kind %d: %d", i, kinds)
		}
	}
}

func TestLongSessionsAreAnsweredLineByLine(t *testing.T) {
	for seed := range 20 {
		text := newSessionDice(seed + 5000).session(impl.MaxLines)
		if len(text) > impl.MaxSession {
			continue
		}
		checkSession(t, text)
		if got := impl.Session(strings.TrimSuffix(text, "\n") + "\nsize\nsize"); got != "too long\n" {
			t.Errorf("seed %d: %.60q", seed, got)
		}
	}
}

// Texts of any bytes: as many lines of answers as there are lines.
func TestSessionAnswersEveryText(t *testing.T) {
	for _, text := range words("\n p\x00", 5) {
		checkSession(t, text)
	}
	r := rand.New(rand.NewSource(16))
	scraps := []string{"put", "get", "pin", "open", "lease", "clear", "size", " ", " ", " ", " ", "\n", "\n", "\n", "a", "b", "1", "8", "50", "-", "%", "%2d", "\xff", "\x00", "put a 5 x\n", "put b 5 y a\n"}
	for range 3000 {
		var text strings.Builder
		for range r.Intn(60) {
			text.WriteString(scraps[r.Intn(len(scraps))])
		}
		checkSession(t, text.String())
	}
	for range 500 {
		text := make([]byte, r.Intn(300))
		r.Read(text)
		checkSession(t, string(text))
	}
}

// A session leaves nothing behind for the next one, whatever the one before it did.
func TestSessionsKeepNothing(t *testing.T) {
	first := impl.Session("put a 5 x\npin p a\nopen 1 50\nput b 5 y\nwait 3\nclear 2\nsize\n")
	impl.Session("get a\nget b\nunpin p\nsize\n")
	for _, text := range []string{"get a\nget b\nunpin p\nsize\n", "\n", ""} {
		checkSession(t, text)
	}
	if again := impl.Session("put a 5 x\npin p a\nopen 1 50\nput b 5 y\nwait 3\nclear 2\nsize\n"); again != first {
		t.Errorf("%q, and then %q", first, again)
	}
}

func TestSessionsBesideEachOther(t *testing.T) {
	var texts []string
	for seed := range 16 {
		texts = append(texts, newSessionDice(seed+7000).session(30))
	}
	got := make([]string, len(texts))
	done := make(chan int)
	for i, text := range texts {
		go func() {
			got[i] = impl.Session(text)
			done <- i
		}()
	}
	for range texts {
		<-done
	}
	for i, text := range texts {
		if want := strings.Join(checkSession(t, text), ""); got[i] != want {
			t.Errorf("%q: %q, not %q", text, got[i], want)
		}
	}
}

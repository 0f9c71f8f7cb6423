package tests

import (
	"slices"
	"strconv"
	"strings"
	"testing"

	"loop.example/kilnvault/impl"
)

// numbered gives count entries that begin with a word, each another.
func numbered(word string, count int) []string {
	out := make([]string, count)
	for i := range out {
		out[i] = word + strconv.Itoa(i)
	}
	return out
}

func logOf(safe, loose int) impl.Log {
	return impl.Log{Safe: numbered("safe", safe), Loose: numbered("loose", loose)}
}

func notValidLogs() map[string]impl.Log {
	long := strings.Repeat("x", impl.MaxEntry+1)
	return map[string]impl.Log{
		"too many safe":      logOf(impl.MaxLog+1, 0),
		"too many loose":     logOf(0, impl.MaxLog+1),
		"too many together":  logOf(2000, impl.MaxLog-2000+1),
		"a safe one long":    {Safe: []string{"a", long}},
		"a loose one long":   {Safe: []string{"a"}, Loose: []string{long}},
		"the last one long":  {Loose: append(numbered("x", 20), long)},
		"far too many":       {Safe: make([]string, 100000), Loose: make([]string, 100000)},
		"many, and one long": {Safe: make([]string, impl.MaxLog), Loose: []string{long}},
	}
}

func TestValidLogs(t *testing.T) {
	full := strings.Repeat("x", impl.MaxEntry)
	for name, l := range map[string]impl.Log{
		"nothing":        {},
		"empty lists":    {Safe: []string{}, Loose: []string{}},
		"empty entries":  {Safe: []string{"", ""}, Loose: []string{""}},
		"full of safe":   logOf(impl.MaxLog, 0),
		"full of loose":  logOf(0, impl.MaxLog),
		"full of both":   logOf(1, impl.MaxLog-1),
		"longest, safe":  {Safe: []string{full}},
		"longest, loose": {Loose: []string{"", full}},
	} {
		if !impl.ValidLog(l) {
			t.Errorf("%s: not valid", name)
		}
	}
	for name, l := range notValidLogs() {
		if impl.ValidLog(l) {
			t.Errorf("%s: valid", name)
		}
	}
}

func TestAppendPutsTheEntryBehindLoose(t *testing.T) {
	full := strings.Repeat("x", impl.MaxEntry)
	for _, l := range []impl.Log{{}, logOf(3, 0), logOf(0, 3), logOf(2, 2), logOf(impl.MaxLog-1, 0), logOf(0, impl.MaxLog-1), logOf(2000, impl.MaxLog-2001)} {
		for _, entry := range []string{"", "e", allBytes(), full} {
			got, code := impl.Append(l, entry)
			want := impl.Log{Safe: l.Safe, Loose: append(slices.Clone(l.Loose), entry)}
			if code != 0 || !sameLog(got, want) {
				t.Fatalf("%d safe, %d loose, %d bytes: code %d", len(l.Safe), len(l.Loose), len(entry), code)
			}
			if !impl.ValidLog(got) {
				t.Fatal("not valid behind it")
			}
		}
	}
}

func TestAppendRefuses(t *testing.T) {
	long := strings.Repeat("x", impl.MaxEntry+1)
	check := func(name string, l impl.Log, entry string, want int) {
		got, code := impl.Append(l, entry)
		if code != want || !sameLog(got, impl.Log{}) {
			t.Errorf("%s: code %d, not %d, with %d and %d entries", name, code, want, len(got.Safe), len(got.Loose))
		}
	}
	for name, l := range notValidLogs() {
		check(name, l, "e", 1)
	}
	check("entry too long", logOf(1, 1), long, 1)
	check("entry too long for a full log", logOf(0, impl.MaxLog), long, 1)
	check("full of safe", logOf(impl.MaxLog, 0), "", 2)
	check("full of loose", logOf(0, impl.MaxLog), "e", 2)
	check("full of both", logOf(1, impl.MaxLog-1), "e", 2)
}

func TestSyncLosesNothing(t *testing.T) {
	for _, l := range []impl.Log{{}, logOf(3, 0), logOf(0, 3), logOf(3, 4), logOf(1000, impl.MaxLog-1000)} {
		want := impl.Log{Safe: slices.Concat(l.Safe, l.Loose)}
		if got := impl.Sync(l); !sameLog(got, want) {
			t.Errorf("%d safe, %d loose: %d safe, %d loose", len(l.Safe), len(l.Loose), len(got.Safe), len(got.Loose))
		}
	}
}

func TestCrashLeavesSafeAndABeginningOfLoose(t *testing.T) {
	for safe := range 4 {
		for loose := range 5 {
			l := logOf(safe, loose)
			for _, keep := range []int{-1 << 63, -2, -1, 0, 1, 2, 3, 4, 5, 6, 1<<63 - 1} {
				kept := min(max(keep, 0), loose)
				want := impl.Log{Safe: slices.Concat(l.Safe, l.Loose[:kept])}
				if got := impl.Crash(l, keep); !sameLog(got, want) {
					t.Fatalf("%+v, keep %d: %+v", l, keep, got)
				}
			}
		}
	}
	if got := impl.Crash(logOf(1, impl.MaxLog-1), impl.MaxLog); len(got.Safe) != impl.MaxLog || len(got.Loose) != 0 {
		t.Error("a full log")
	}
}

func TestSyncAndCrashOfALogThatIsNotValid(t *testing.T) {
	for name, l := range notValidLogs() {
		if !sameLog(impl.Sync(l), impl.Log{}) {
			t.Errorf("%s: Sync gives a log", name)
		}
		for _, keep := range []int{-1, 0, 1, 1 << 40} {
			if !sameLog(impl.Crash(l, keep), impl.Log{}) {
				t.Errorf("%s: Crash gives a log", name)
			}
		}
	}
}

// Whatever is appended, made safe and crashed in turn: a list kept beside the log says what must be there.
func TestWhatIsSafeIsNeverLost(t *testing.T) {
	for run := range 300 {
		var l impl.Log
		var safe, loose []string
		seed := uint32(run*2654435 + 1)
		for step := range 60 {
			seed = seed*1664525 + 1013904223
			switch pick := seed >> 24; {
			case pick < 180:
				entry := strconv.Itoa(step)
				next, code := impl.Append(l, entry)
				if code != 0 {
					t.Fatal(code)
				}
				l, loose = next, append(loose, entry)
			case pick < 215:
				l, safe, loose = impl.Sync(l), append(safe, loose...), nil
			default:
				keep := int(seed>>16&7) - 1
				l, safe, loose = impl.Crash(l, keep), append(safe, loose[:min(max(keep, 0), len(loose))]...), nil
			}
			if !sameLog(l, impl.Log{Safe: safe, Loose: loose}) {
				t.Fatalf("run %d, step %d: %+v, not %q and %q", run, step, l, safe, loose)
			}
		}
	}
}

func TestLogsShareNoMemory(t *testing.T) {
	safe, loose := append(make([]string, 0, 20), numbered("s", 3)...), append(make([]string, 0, 20), numbered("l", 3)...)
	l := impl.Log{Safe: safe, Loose: loose}
	first, _ := impl.Append(l, "one")
	second, _ := impl.Append(l, "two")
	if first.Loose[3] != "one" || second.Loose[3] != "two" {
		t.Error("two answers of Append share a list")
	}
	for name, got := range map[string]impl.Log{"Append": first, "Sync": impl.Sync(l), "Crash": impl.Crash(l, 2)} {
		scribble(got.Safe)
		scribble(got.Loose)
		if !sameLog(l, logOfWords("s", "l", 3)) || loose[:4][3] != "" || safe[:4][3] != "" {
			t.Errorf("%s: the answer shares a list with the argument", name)
		}
	}
}

func logOfWords(safe, loose string, count int) impl.Log {
	return impl.Log{Safe: numbered(safe, count), Loose: numbered(loose, count)}
}

// scribble writes over a list and what lies behind it.
func scribble(list []string) {
	list = list[:cap(list)]
	for i := range list {
		list[i] = "scribble"
	}
}

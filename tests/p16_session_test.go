package tests

import (
	"fmt"
	"strings"
	"testing"

	"loop.example/kilnvault/impl"
)

// lots repeats a line and its answer; %d in them is 1, 2 and so on.
func lots(count int, line, answer string) talk {
	var out talk
	for i := range count {
		out = append(out, [2]string{strings.ReplaceAll(line, "%d", fmt.Sprint(i+1)), strings.ReplaceAll(answer, "%d", fmt.Sprint(i+1))})
	}
	return out
}

func TestTheExampleOfSessions(t *testing.T) {
	wantTalk(t, "the example", talk{
		{"put leaf 10 hello", "code 0 lease 1"},
		{"put tree 10 - leaf", "code 0 lease 2"},
		{"pin top tree", "code 0"},
		{"wait 10", "code 0"},
		{"clear 100", "code 0 units 100 dropped 0"},
		{"unpin top", "code 0"},
		{"clear 100", "code 0 units 100 dropped 2"},
		{"get leaf", "none"},
		{"size", "0 things 0 pins 0 leases 10 now"},
	})
}

func TestOpenInSessions(t *testing.T) {
	wantTalk(t, "open", talk{
		{"open 8 1000000", "code 0"},
		{"open 1 0", "code 0"},
		{"put a 1 -", "code 8"},
		{"open 1 1", "code 0"},
		{"put a 1 -", "code 0 lease 1"},
		{"pin p a", "code 0"},
		{"wait 5", "code 0"},
		{"open 0 5", "code 1"},
		{"open 9 5", "code 1"},
		{"open 9999999 0", "code 1"},
		{"open 1 1000001", "code 1"},
		{"open 1 9999999", "code 1"},
		{"size", "1 things 1 pins 0 leases 5 now"},
		{"put b 1 x", "code 8"},
		{"open 1 1", "code 0"},
		{"size", "0 things 0 pins 0 leases 0 now"},
	})
}

// No session has texts enough for the Limit that it begins with.
func TestTheRoomASessionBeginsWith(t *testing.T) {
	long := strings.Repeat("x", impl.MaxText-1)
	wantTalk(t, "nine long texts", append(lots(9, "put t%d 1 %d"+long, "code 0 lease %d"), [2]string{"size", "9 things 0 pins 9 leases 0 now"}))
}

// Which of two Refs is marked first hangs on their sums, and so on the width; where it is the upper one, the lower one is in the queue twice, and a round takes a unit more.
func TestTheWidthASessionBeginsWith(t *testing.T) {
	low, up := crossed(t)
	for units, dropped := range map[int]int{8: 0, 9: 1} {
		wantTalk(t, low+" and "+up, talk{
			{"put waste 1 waste", "code 0 lease 1"},
			{"wait 1", "code 0"},
			{"put low 1 " + low, "code 0 lease 2"},
			{"put up 1 " + up + " low", "code 0 lease 3"},
			{"put top 1 top up low", "code 0 lease 4"},
			{"pin p top", "code 0"},
			{"wait 1", "code 0"},
			{fmt.Sprintf("clear %d", units), fmt.Sprintf("code 0 units %d dropped %d", units, dropped)},
		})
	}
}

// crossed gives texts of a thing and of one that stands on it whose sum is the lesser one at width 8, and the greater one at every other width.
func crossed(t *testing.T) (string, string) {
	t.Helper()
	for i := range 1000 {
		for j := range 1000 {
			low, up := fmt.Sprint("low", i), fmt.Sprint("up", j)
			if isAbove(low, up, 1, 2, 3, 4, 5, 6, 7) && !isAbove(low, up, 8) {
				return low, up
			}
		}
	}
	t.Fatal("no such texts")
	return "", ""
}

func isAbove(low, up string, widths ...int) bool {
	for _, width := range widths {
		under := impl.Thing{Text: low}
		if sumOf(impl.Thing{Text: up, Refs: sortedSums(width, under)}, width) < sumOf(under, width) {
			return false
		}
	}
	return true
}

// Two texts that have one sum at width 1 have two at the width that a session begins with.
func TestAClashInSessions(t *testing.T) {
	old := impl.Thing{Text: "old"}
	new := clashOf(old, 1, nil)
	wantTalk(t, "a clash", talk{
		{"put a 5 " + old.Text, "code 0 lease 1"},
		{"put b 5 " + new.Text, "code 0 lease 2"},
		{"open 1 1000", "code 0"},
		{"put a 5 " + old.Text, "code 0 lease 1"},
		{"put b 5 " + new.Text, "code 3 clash"},
		{"get b", "bad"},
		{"put a 5 " + new.Text, "code 3 clash"},
		{"get a", old.Text},
		{"put a 5 " + old.Text, "code 0 lease 2"},
		{"wait 5", "code 0"},
		{"clear 10", "code 0 units 10 dropped 1"},
		{"put b 5 " + new.Text, "code 0 lease 3"},
		{"get a", new.Text},
		{"put a 5 " + old.Text, "code 3 clash"},
	})
}

func TestTheCodesOfPutInSessions(t *testing.T) {
	wantTalk(t, "put", talk{
		{"put a 0 x", "code 1"},
		{"put a 100001 x", "code 1"},
		{"put a 9999999 x", "code 1"},
		{"put a 100000 x", "code 0 lease 1"},
		{"put a 1 x", "code 0 lease 2"},
		{"put b 1 " + strings.Repeat("x", impl.MaxText+1), "code 1"},
		{"put b 1 " + strings.Repeat("%78", impl.MaxText), "code 0 lease 3"},
		{"put b 1 " + strings.Repeat("%78", impl.MaxText+1), "code 1"},
		{"put top 1 y a b", "code 0 lease 4"},
		{"flush", "ok"},
		{"put c 1 z", "code 0 lease 5"},
		{"lose 0", "ok"},
		{"put d 1 - c", "code 2"},
		{"put d 1 - a c b", "code 2"},
		{"put d 0 - c", "code 1"},
		{"get d", "bad"},
		{"open 8 10", "code 0"},
		{"put a 1 12345678", "code 0 lease 1"},
		{"put b 1 -", "code 0 lease 2"},
		{"put c 1 z", "code 8"},
		{"put c 1 - a", "code 8"},
		{"put c 1 -", "code 0 lease 3"},
		{"size", "2 things 0 pins 3 leases 0 now"},
	})
	wantTalk(t, "leases", append(lots(impl.MaxLeases, "put t%d 7 %d", "code 0 lease %d"), talk{
		{"put t1 7 1", "code 4"},
		{"put more 7 more", "code 4"},
		{"lease t1 7", "code 4"},
		{"put more 0 more", "code 1"},
		{"size", "200 things 0 pins 200 leases 0 now"},
		{"give 100", "code 0"},
		{"put more 7 more", "code 0 lease 201"},
		{"lease t1 7", "code 4"},
		{"give 101", "code 0"},
		{"lease t1 7", "code 0 lease 202"},
		{"size", "201 things 0 pins 200 leases 0 now"},
	}...))
}

func TestPinsInSessions(t *testing.T) {
	long := strings.Repeat("n", impl.MaxName)
	wantTalk(t, "pins", talk{
		{"put a 5 x", "code 0 lease 1"},
		{"put b 5 y", "code 0 lease 2"},
		{"pin top a", "code 0"},
		{"pin top b", "code 0"},
		{"pin " + long + " a", "code 0"},
		{"pin " + long + "n a", "code 1"},
		{"pin \x7f a", "code 1"},
		{"pin top\t a", "code 1"},
		{"pin \xc3\xa4 a", "code 1"},
		{"pin a a", "code 0"},
		{"size", "2 things 3 pins 2 leases 0 now"},
		{"unpin to", "code 5"},
		{"unpin " + long + "n", "code 1"},
		{"unpin \x1f", "code 1"},
		{"unpin " + long, "code 0"},
		{"unpin " + long, "code 5"},
		{"unpin a", "code 0"},
		{"wait 5", "code 0"},
		{"clear 20", "code 0 units 20 dropped 1"},
		{"get a", "none"},
		{"get b", "y"},
		{"pin top a", "code 2"},
		{"pin new a", "code 2"},
		{"pin top\x80 a", "code 1"},
		{"size", "1 things 1 pins 0 leases 5 now"},
	})
	wantTalk(t, "many pins", append(append(talk{{"put a 5 x", "code 0 lease 1"}}, lots(impl.MaxPins, "pin p%d a", "code 0")...), talk{
		{"pin more a", "code 4"},
		{"pin p7 a", "code 0"},
		{"unpin p7", "code 0"},
		{"pin more a", "code 0"},
		{"size", "1 things 100 pins 1 leases 0 now"},
	}...))
}

func TestLeasesAndTimeInSessions(t *testing.T) {
	wantTalk(t, "leases", talk{
		{"put a 3 x", "code 0 lease 1"},
		{"lease a 1", "code 0 lease 2"},
		{"lease a 100000", "code 0 lease 3"},
		{"lease a 100001", "code 1"},
		{"lease a 0", "code 1"},
		{"give 0", "code 1"},
		{"give 4", "code 5"},
		{"give 9999999", "code 5"},
		{"give 3", "code 0"},
		{"give 3", "code 5"},
		{"wait 0", "code 1"},
		{"wait 100001", "code 1"},
		{"wait 2", "code 0"},
		{"size", "1 things 0 pins 1 leases 2 now"},
		{"give 2", "code 5"},
		{"wait 100000", "code 0"},
		{"size", "1 things 0 pins 0 leases 100002 now"},
		{"clear 3", "code 0 units 3 dropped 1"},
		{"lease a 1", "code 2"},
		{"lease a 0", "code 1"},
	})
}

func TestCrashesInSessions(t *testing.T) {
	wantTalk(t, "crashes", talk{
		{"put a 5 x", "code 0 lease 1"},
		{"flush", "ok"},
		{"put b 5 y", "code 0 lease 2"},
		{"put c 5 z", "code 0 lease 3"},
		{"lose 1", "ok"},
		{"get a", "x"},
		{"get b", "y"},
		{"get c", "none"},
		{"put d 5 z", "code 0 lease 3"},
		{"get c", "z"},
		{"lose 9999999", "ok"},
		{"size", "3 things 0 pins 3 leases 0 now"},
		{"wait 5", "code 0"},
		{"clear 100", "code 0 units 100 dropped 3"},
		{"lose 3", "ok"},
		{"size", "1 things 0 pins 0 leases 5 now"},
		{"lose 0", "ok"},
		{"size", "1 things 0 pins 0 leases 5 now"},
		{"open 8 100", "code 0"},
		{"lose 0", "ok"},
		{"flush", "ok"},
		{"size", "0 things 0 pins 0 leases 0 now"},
	})
}

func TestClearingInSessions(t *testing.T) {
	wantTalk(t, "clearing", talk{
		{"clear 0", "code 0 units 0 dropped 0"},
		{"clear 10000", "code 0 units 10000 dropped 0"},
		{"clear 10001", "code 1 units 0 dropped 0"},
		{"clear 9999999", "code 1 units 0 dropped 0"},
		{"put a 1 x", "code 0 lease 1"},
		{"put b 1 y a", "code 0 lease 2"},
		{"put c 1 z", "code 0 lease 3"},
		{"pin p c", "code 0"},
		{"wait 1", "code 0"},
		{"clear 10001", "code 1 units 0 dropped 0"},
		{"size", "3 things 1 pins 0 leases 1 now"},
		{"clear 3", "code 0 units 3 dropped 0"},
		{"lease a 9", "code 0 lease 4"},
		{"clear 1", "code 0 units 1 dropped 0"},
		{"clear 1", "code 0 units 1 dropped 1"},
		{"get a", "x"},
		{"get b", "none"},
		{"get c", "z"},
		{"clear 100", "code 0 units 100 dropped 0"},
		{"give 4", "code 0"},
		{"unpin p", "code 0"},
		{"clear 100", "code 0 units 100 dropped 2"},
		{"size", "0 things 0 pins 0 leases 1 now"},
	})
}

func TestTextsAsWords(t *testing.T) {
	wantTalk(t, "texts", talk{
		{"put a 1 -", "code 0 lease 1"},
		{"get a", "-"},
		{"put a 1 %2d", "code 0 lease 2"},
		{"get a", "%2d"},
		{"put a 1 --", "code 0 lease 3"},
		{"get a", "--"},
		{"put a 1 %2d-", "code 0 lease 4"},
		{"get a", "--"},
		{"put a 1 %2d%2d", "code 0 lease 5"},
		{"get a", "--"},
		{"put a 1 -x", "code 0 lease 6"},
		{"get a", "-x"},
		{"put a 1 %25", "code 0 lease 7"},
		{"get a", "%25"},
		{"put a 1 %2541", "code 0 lease 8"},
		{"get a", "%2541"},
		{"put a 1 %41%7e%21", "code 0 lease 9"},
		{"get a", "A~!"},
		{"put a 1 %20%0a%00%7f%80%ff", "code 0 lease 10"},
		{"get a", "%20%0a%00%7f%80%ff"},
		{"put a 1 a+b%2bc", "code 0 lease 11"},
		{"get a", "a+b+c"},
	})
	for _, word := range []string{"%", "%4", "4%", "%%", "%%41", "%4%41", "x%", "x%2", "%2D", "%fF", "%g0", "%0g", "%-1", "%+1", "% 1", "%2:", "%2/", "%2`", "%x41", "%4\x00", "\t", "a\tb", "\r", "a\r", "\x1f", "\x7f", "\x80", "\xff", "a\xff", "\xc3\xa4", "\x00"} {
		wantTalk(t, "no text", talk{{"put a 1 " + word, "bad"}, {"get a", "bad"}, {"size", "0 things 0 pins 0 leases 0 now"}})
	}
}

// Each byte as it is and by its digits, alone and among others.
func TestEachByteOfATextAsAWord(t *testing.T) {
	for b := range 256 {
		byDigits := fmt.Sprintf("%%%02x", b)
		plain := b >= 33 && b <= 126 && b != '%'
		told := byDigits
		if plain {
			told = string([]byte{byte(b)})
		}
		alone := told
		if b == '-' {
			alone = byDigits
		}
		wantTalk(t, byDigits, talk{
			{"put a 1 " + byDigits, "code 0 lease 1"}, {"get a", alone},
			{"put a 1 x" + byDigits + "9", "code 0 lease 2"}, {"get a", "x" + told + "9"},
		})
		if b == ' ' || b == '\n' {
			continue
		}
		k := talk{{"put a 1 x" + string([]byte{byte(b)}) + "z", "code 0 lease 1"}, {"get a", "x" + told + "z"}}
		if !plain {
			k = talk{{k[0][0], "bad"}, {"get a", "bad"}}
		}
		wantTalk(t, byDigits+" itself", k)
	}
	whole := plainWord(allBytes())
	wantTalk(t, "all of them", talk{{"put a 1 " + whole, "code 0 lease 1"}, {"get a", whole}})
}

// Each N of the table: seven digits, eight, needless zeros, 0, and what is no decimal.
func TestNumbersAsWords(t *testing.T) {
	never := []string{"00", "01", "007", "0000001", "00000000", "10000000", "99999999", "01000000", "99999999999999999999", "-1", "-0", "+1", "1.0", "1e3", "0x1", "1_0", "x", "1x", "x1", "-", "%31", "\xd9\xa1", "1\r", "\t1", "1\x00"}
	for line, answers := range map[string][2]string{
		"open N 5":    {"code 1", "code 1"},
		"open 5 N":    {"code 0", "code 1"},
		"open N N":    {"code 1", "code 1"},
		"put b N x":   {"code 1", "code 1"},
		"put b N x a": {"code 1", "code 1"},
		"put N N N":   {"code 1", "code 1"},
		"lease a N":   {"code 1", "code 1"},
		"give N":      {"code 1", "code 5"},
		"wait N":      {"code 1", "code 1"},
		"lose N":      {"ok", "ok"},
		"clear N":     {"code 0 units 0 dropped 0", "code 1 units 0 dropped 0"},
	} {
		told := func(number, answer string) {
			t.Helper()
			wantTalk(t, line, talk{{"put a 9 x", "code 0 lease 1"}, {strings.ReplaceAll(line, "N", number), answer}})
		}
		told("0", answers[0])
		told("9999999", answers[1])
		told("1000001", answers[1])
		for _, number := range never {
			told(number, "bad")
		}
	}
}

func TestNamesOfThings(t *testing.T) {
	wantTalk(t, "given again", talk{
		{"put a 5 x", "code 0 lease 1"},
		{"put b 5 y a", "code 0 lease 2"},
		{"put a 5 z", "code 0 lease 3"},
		{"get a", "z"},
		{"put a 5 w a b", "code 0 lease 4"},
		{"get a", "w"},
		{"put c 5 x", "code 0 lease 5"},
		{"size", "4 things 0 pins 5 leases 0 now"},
		{"pin p a", "code 0"},
		{"wait 5", "code 0"},
		{"clear 40", "code 0 units 40 dropped 0"},
		{"get c", "x"},
	})
	wantTalk(t, "in a put that has a code", talk{
		{"put a 0 x", "code 1"},
		{"get a", "bad"},
		{"put a 5 x", "code 0 lease 1"},
		{"put a 0 y", "code 1"},
		{"get a", "x"},
		{"put a 0 y a", "code 1"},
		{"put a 5 %", "bad"},
		{"put a 5 y b", "bad"},
		{"get a", "x"},
		{"put b 5 y b", "bad"},
		{"get b", "bad"},
	})
	wantTalk(t, "ahead of an open", talk{
		{"put a 5 x", "code 0 lease 1"},
		{"open 8 x", "bad"},
		{"open 8", "bad"},
		{"open 08 5", "bad"},
		{"get a", "x"},
		{"open 8 5", "code 0"},
		{"get a", "bad"},
		{"pin p a", "bad"},
		{"lease a 1", "bad"},
		{"put b 1 - a", "bad"},
		{"put a 1 -", "code 0 lease 1"},
		{"get a", "-"},
		{"open 8 5", "code 0"},
		{"get a", "bad"},
	})
}

// An open with a code leaves the vault, but the table forgets the names at each open, whatever it has for a code, and a name is one that a put has given since the last open.
func TestNamesOfThingsAtAnOpenWithACode(t *testing.T) {
	wantTalk(t, "ahead of an open with a code", talk{
		{"put a 5 x", "code 0 lease 1"},
		{"pin p a", "code 0"},
		{"open 9 5", "code 1"},
		{"get a", "bad"},
		{"lease a 1", "bad"},
		{"pin p a", "bad"},
		{"put b 1 - a", "bad"},
		{"size", "1 things 1 pins 1 leases 0 now"},
		{"put a 5 x", "code 0 lease 2"},
		{"get a", "x"},
		{"size", "1 things 1 pins 2 leases 0 now"},
		{"unpin p", "code 0"},
	})
}

// Any word names a thing, those of commands, numbers and texts among them; two names may differ in one bit.
func TestWordsThatNameThings(t *testing.T) {
	names := []string{"put", "get", "-", "%", "0", "01", "10000000", "a", "A", "\x00", "\xff", "\t", "\r", strings.Repeat("n", impl.MaxName), strings.Repeat("n", impl.MaxName+1), strings.Repeat("n", 1000)}
	var k talk
	for i, name := range names {
		k = append(k, [2]string{fmt.Sprintf("put %s 5 %d", name, i), fmt.Sprintf("code 0 lease %d", i+1)})
	}
	for i, name := range names {
		k = append(k, [2]string{"get " + name, fmt.Sprint(i)})
	}
	wantTalk(t, "names", k)
}

// The things of one put come in any order, and several of them may stand for one sum.
func TestThingsOfOnePut(t *testing.T) {
	start := talk{
		{"put a 5 x", "code 0 lease 1"},
		{"put b 5 y", "code 0 lease 2"},
		{"put c 5 z", "code 0 lease 3"},
		{"put d 5 x", "code 0 lease 4"},
		{"put top 5 top a b c", "code 0 lease 5"},
		{"size", "4 things 0 pins 5 leases 0 now"},
	}
	for _, things := range []string{"a c b", "b a c", "b c a", "c a b", "c b a", "d b c", "a b c d", "a a b b c c", "d a c b a", "c b a d d d d"} {
		wantTalk(t, things, append(start[:len(start):len(start)], talk{
			{"put same 5 top " + things, "code 0 lease 6"},
			{"size", "4 things 0 pins 6 leases 0 now"},
		}...))
	}
	for _, things := range []string{"a b", "a d", "a b a", "top", "a b c top"} {
		wantTalk(t, things, append(start[:len(start):len(start)], talk{
			{"put other 5 top " + things, "code 0 lease 6"},
			{"size", "5 things 0 pins 6 leases 0 now"},
		}...))
	}
	few := lots(impl.MaxRefs, "put t%d 9 %d", "code 0 lease %d")
	all := ""
	for i := range few {
		all += fmt.Sprintf(" t%d", i+1)
	}
	wantTalk(t, "as many as may be", append(few, talk{
		{"put top 9 -" + all, "code 0 lease 31"},
		{"put again 9 -" + all + all, "code 0 lease 32"},
		{"put t31 9 31", "code 0 lease 33"},
		{"put more 9 -" + all + " t31", "code 1"},
		{"put more 9 -" + all + " t31 t32", "bad"},
		{"size", "32 things 0 pins 33 leases 0 now"},
	}...))
}

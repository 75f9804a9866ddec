package tests

import (
	"fmt"
	"slices"
	"strings"
	"testing"

	"loop.example/g00314/impl"
)

// rightLines are of each kind, some at the limits of what a line may be.
func rightLines() []string {
	return []string{
		"route 10.0.0.0 8 7", "route 2001:db8:: 32 999999999", "route :: 0 0",
		"udp in 10.0.0.1 5 192.0.2.9 53", "udp out ::1 999999999 10.0.0.1 0",
		"tcp in 2001:db8::5 5 64:ff9b::c000:209 80 2", "tcp out 255.255.255.255 0 0.0.0.0 0 999999999",
		"tick 0", "tick 10", "tick 999999999", "binds",
	}
}

// wrongNumbers stand for none: too long, not of digits alone, or not as a number is told.
var wrongNumbers = []string{"", "-", "+", "-1", "+1", "-0", "+0", "00", "01", "007", "000000001", "0000000001", "1000000000",
	"1000000001", "9999999999", "18446744073709551617", "99999999999999999999999", "0x1", "0b1", "0o1", "1.0", ".", "1.", "1,0", "1_0",
	"1e3", "a", "A", "1a", "a1", "1:", "N", "in", "\xef\xbc\x91", "\xd9\xa3", "\xc2\xb2", "1\x00", "\x001", "1\xff", "\xff", "1\t", "\t1", "1\r", "--1", "1-"}

// wrongAddresses are no address's text: of too few or too many parts, or another spelling of one.
var wrongAddresses = []string{"", "x", "0", "10", "10.0.0", "10.0.0.", "10.0.0.0.0", "10.0.0.0.", ".10.0.0.0", "10..0.0", "10.0.0.256", "10.0.0.1000",
	"010.0.0.1", "10.0.0.01", "10.0.0.00", "10.0.0.-1", "10.0.0.+1", "10.0.0.a", "10.0.0.1/8", "10.0.0.1:5", "10.0.0.1\x00", "10.0.0.1\xff", "\xff10.0.0.1",
	"10,0,0,1", "167772161", "0x0a.0.0.1", "1.2.3.\xd9\xa4", ":", ":::", "::::", "1", "1:", ":1", "1:2", "1::2::3", "::1::", "::0", "0::", "0::0",
	"0:0:0:0:0:0:0:0", "0:0:0:0:0:0:0:1", "1:2:3:4:5:6:7", "1:2:3:4:5:6:7:8:9", "1:2:3:4:5:6:7:8:", ":1:2:3:4:5:6:7:8", "1:2:3:4:5:6:7::", "1:2:3::4:5:6:7:8",
	"2001:DB8::1", "2001:0db8::1", "2001:db8:0:0:0:0:0:1", "2001:db8::00001", "2001:db8::g", "1::2:0:0:0:3", "1:0:0:0:2::", "::ffff:1.2.3.4", "::1.2.3.4",
	"[::1]", "::1%eth0", "::1/128", "-1::", "in"}

var wrongSides = []string{"", "i", "n", "o", "ou", "inn", "outt", "inout", "IN", "Out", "OUT", "inside", "outside", "on", "0", "1", "W", "in\x00", "out\xff", "\xffin", "in\t", "in\r"}

var wrongFirstWords = []string{"", "r", "rout", "routes", "Route", "ROUTE", "udp4", "ud", "UDP", "tcpp", "tc", "ticks", "tic", "Tick", "bind", "bindss", "BINDS", "icmp", "echo",
	"add", "help", "0", "1", "10.0.0.1", "::1", "in", "out", "\x00", "\xff", "binds\x00", "binds\xff", "\xffbinds", "\xef\xbb\xbfbinds", "binds\r", "\tbinds", "binds\t", "binds\xc2\xa0"}

// wrongWords are those that a word of a right line, by its place, must not become.
func wrongWords(words []string, at int) []string {
	switch {
	case at == 0:
		return wrongFirstWords
	case words[at] == "in" || words[at] == "out":
		return wrongSides
	case strings.ContainsAny(words[at], ":."):
		return wrongAddresses
	}
	return wrongNumbers
}

// wrongWordLines have one word that is none, is missing, or is there too often.
func wrongWordLines(right string) []string {
	words := strings.Split(right, " ")
	lines := []string{right + " 1", right + " 0", right + " x", right + " binds", right + " in", right + " ::1", right + " " + right}
	for at := range words {
		for _, word := range wrongWords(words, at) {
			changed := slices.Clone(words)
			changed[at] = word
			lines = append(lines, strings.Join(changed, " "))
		}
		lines = append(lines, strings.Join(slices.Delete(slices.Clone(words), at, at+1), " "),
			strings.Join(slices.Insert(slices.Clone(words), at, words[at]), " "),
			strings.Join(slices.Insert(slices.Clone(words), at, "1"), " "))
	}
	return lines
}

// wrongLines are wrong in one thing each.
func wrongLines() []string {
	lines := []string{"", " ", "  ", "\x00", "\xff", "\t", "\r", "#", "x", "tick N", "route A N N", "binds binds"}
	for _, right := range rightLines() {
		lines = append(lines, wrongWordLines(right)...)
		lines = append(lines, " "+right, right+" ", "  "+right, right+"  ", "\t"+right, right+"\t", right+"\r", "\r"+right, "\v"+right,
			strings.ReplaceAll(right+" ", " ", "  "), strings.ToUpper(right), right+";", right+"\x00")
		for at, r := range right {
			if r == ' ' {
				for _, other := range []string{"", "  ", "   ", "\t", " \t", "\r", ",", "\x00", "\xc2\xa0", "\xe3\x80\x80", "\xa0", "_"} {
					lines = append(lines, right[:at]+other+right[at+1:])
				}
			}
		}
		for at := range len(right) + 1 {
			for _, added := range []string{"\xff", "\xc3", "\xc3\xa4", "\xef\xbf\xbd", "\xed\xa0\x80", "\xe2\x80"} {
				lines = append(lines, right[:at]+added+right[at:])
			}
		}
	}
	return lines
}

// deskRefuses asks for that fault and nothing else, of DeskFault too.
func deskRefuses(t *testing.T, what string, text string, line int64) {
	t.Helper()
	want := impl.DeskOut{Line: line, Code: impl.ErrSyntax}
	wantDeskOut(t, what, impl.DeskRun(text), want)
	wantDeskOut(t, what+": the fault alone", impl.DeskFault(text), want)
	wantDeskOut(t, what+" (as reckoned)", deskTold(text), want)
}

// rightText is of so many right lines.
func rightText(count int) string {
	lines := rightLines()
	text := ""
	for i := range count {
		text += lines[i%len(lines)] + "\n"
	}
	return text
}

func TestDeskTakesRightLines(t *testing.T) {
	for _, line := range rightLines() {
		got := deskRuns(t, line, line+"\n")
		wantNumber(t, line, got.Code, impl.OK)
		wantNumber(t, line+": lines told", int64(strings.Count(got.Text, "\n")), 1)
		deskRefuses(t, line+", without its line feed", line, 0)
		deskRefuses(t, line+", with a carriage return in the place of it", line+"\r", 0)
		deskRefuses(t, line+", cut short", line[:len(line)-1], 0)
	}
	wantDeskOut(t, "an empty text", deskRuns(t, "an empty text", ""), impl.DeskOut{})
}

func TestDeskRefusesWrongLines(t *testing.T) {
	lines := wrongLines()
	wantAnswer(t, fmt.Sprintf("%d wrong lines are many", len(lines)), len(lines) > 3000, true)
	for i, wrong := range lines {
		what := fmt.Sprintf("%q", wrong)
		deskRefuses(t, what, wrong+"\n", 0)
		ahead := 1 + i%59
		deskRefuses(t, fmt.Sprintf("%s behind %d lines", what, ahead), rightText(ahead)+wrong+"\n"+rightText(i%60), int64(ahead))
		other := lines[(i*31+7)%len(lines)]
		deskRefuses(t, fmt.Sprintf("%s ahead of %q", what, other), rightText(i%3)+wrong+"\n"+rightText(i%2)+other+"\n", int64(i%3))
		if wrong != "" {
			deskRefuses(t, what+", without its line feed", rightText(i%4)+wrong, int64(i%4))
		}
	}
}

// Each two of the faults, in each order: the line that comes first is told, whatever it is that is wrong with it.
func TestDeskTellsTheFirstFault(t *testing.T) {
	wrong := []string{"", "x", "tick", "tick 01", "binds 1", " binds", "binds ", "route 10.0.0 8 7", "udp on 10.0.0.1 5 10.0.0.2 6", "tcp in 10.0.0.1 5 10.0.0.2 6", "\xff"}
	for first := range 62 {
		for i, a := range wrong {
			b := wrong[(i+first)%len(wrong)]
			for _, between := range []int{0, 1, 58 - min(first, 58)} {
				text := rightText(first) + a + "\n" + rightText(between) + b
				deskRefuses(t, fmt.Sprintf("%q behind %d, %q behind %d more", a, first, b, between), text, int64(min(first, 60)))
				deskRefuses(t, fmt.Sprintf("%q behind %d, %q behind %d more, all ended", a, first, b, between), text+"\n", int64(min(first, 60)))
			}
		}
	}
}

func TestDeskOfMostLines(t *testing.T) {
	wantNumber(t, "MaxDesk", impl.MaxDesk, 60)
	for count := range 130 {
		what := fmt.Sprintf("%d lines", count)
		if count <= 60 {
			got := deskRuns(t, what, rightText(count))
			wantNumber(t, what, got.Code, impl.OK)
			wantNumber(t, what+": told", int64(strings.Count(got.Text, "\n")), int64(count))
			if count > 0 {
				deskRefuses(t, what+", the last one without its line feed", strings.TrimSuffix(rightText(count), "\n"), int64(count-1))
			}
		} else {
			deskRefuses(t, what, rightText(count), 60)
			deskRefuses(t, what+", the last one without its line feed", strings.TrimSuffix(rightText(count), "\n"), 60)
		}
		deskRefuses(t, what+", and an empty one", rightText(count)+"\n", int64(min(count, 60)))
		deskRefuses(t, what+", and a blank", rightText(count)+" ", int64(min(count, 60)))
	}
	// What tells errors counts as all else does.
	errors := strings.Repeat("route 10.0.0.1 8 7\n", 60)
	wantDeskOut(t, "60 errors", deskRuns(t, "60 errors", errors), impl.DeskOut{Text: strings.Repeat("error 1\n", 60)})
	deskRefuses(t, "61 errors", errors+"route 10.0.0.1 8 7\n", 60)
}

func TestDeskOfMostBytes(t *testing.T) {
	// The longest lines that there are come to less than MaxBytes.
	long := "1111:2222:3333:4444:5555:6666:7777:8888"
	line := "tcp out " + long + " 999999999 " + long + " 999999999 999999999\n"
	wantDeskOut(t, "the longest lines", deskRuns(t, "the longest lines", strings.Repeat(line, 60)), impl.DeskOut{Text: strings.Repeat("error 1\n", 60)})
	for _, size := range []int{19999, 20000} {
		for what, c := range map[string]struct {
			text string
			line int64
		}{
			"one word":              {strings.Repeat("1", size), 0},
			"one word, ended":       {strings.Repeat("1", size-1) + "\n", 0},
			"a long number":         {"tick " + strings.Repeat("1", size-6) + "\n", 0},
			"a long address":        {"route " + strings.Repeat(":", size-11) + " 8 7\n", 0},
			"blanks":                {"tick 1" + strings.Repeat(" ", size-6), 0},
			"a long line behind":    {"tick 1\nbinds\n" + strings.Repeat("binds ", size)[:size-13], 2},
			"many lines":            {strings.Repeat("binds\n", 4000)[:size], 60},
			"empty lines":           {strings.Repeat("\n", size), 0},
			"a fault ahead of many": {"binds\nx\n" + strings.Repeat("binds\n", 4000)[:size-8], 1},
		} {
			wantNumber(t, what, int64(len(c.text)), int64(size))
			deskRefuses(t, fmt.Sprintf("%s, %d bytes", what, size), c.text, c.line)
		}
	}
	for _, size := range []int{20001, 20002, 65536, 100000} {
		for what, text := range map[string]string{
			"one word": strings.Repeat("1", size), "many lines": strings.Repeat("binds\n", size)[:size], "empty lines": strings.Repeat("\n", size),
			"a fault ahead": "x\n" + strings.Repeat("binds\n", size)[:size-2], "no texts": strings.Repeat("\xff", size),
		} {
			what = fmt.Sprintf("%s, %d bytes", what, size)
			wantDeskOut(t, what, deskRuns(t, what, text), impl.DeskOut{Code: impl.ErrSize})
			wantDeskOut(t, what, impl.DeskFault(text), impl.DeskOut{Code: impl.ErrSize})
		}
	}
}

// Texts of bytes by chance, most of them near right ones, end without a panic and are told as the words say.
func TestDeskOfAnyBytes(t *testing.T) {
	d := dice(25)
	refused := 0
	for range 6000 {
		text := rightText(int(d.upTo(8)))
		for range d.upTo(2) {
			at := d.upTo(int64(len(text)))
			switch d.upTo(3) {
			case 0:
				text = text[:at] + d.text(d.upTo(4)) + text[at:]
			case 1:
				text = text[:at]
			case 2:
				text = text[:at] + []string{" ", "\n", "0", "1", ":", ".", "binds\n", "tick 1\n"}[d.upTo(7)] + text[at:]
			default:
				text = text[:at] + text[min(at+1+d.upTo(3), int64(len(text))):]
			}
		}
		if deskRuns(t, fmt.Sprintf("%q", text), text).Code != impl.OK {
			refused++
		}
	}
	wantAnswer(t, fmt.Sprintf("%d of 6000 were refused", refused), among(int64(refused), 1500, 5000), true)
	for range 500 {
		deskRuns(t, "any bytes", d.text(d.upTo(300)))
	}
}

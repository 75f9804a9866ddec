package tests

import (
	"fmt"
	"math"
	"strings"
	"testing"

	"loop.example/g00314/impl"
)

// noWords are numbers just outside of the words, and far outside of them.
var noWords = []int64{-1, -65535, -65536, 65536, 65537, 131071, 1 << 32, math.MinInt64, math.MaxInt64}

// someWords are the words at the edges of bytes and of 16 bits, and some between.
var someWords = []int64{0, 1, 2, 5, 127, 128, 255, 256, 257, 4608, 32767, 32768, 65279, 65280, 65533, 65534, 65535}

// expected reckons a sum by another way than the program: the sum of all words in one number,
// of which 65535 is taken as often as something above 0 is left.
func expected(text string) int64 {
	var all int64
	for i := range len(text) {
		if i%2 == 0 {
			all += 256 * int64(text[i])
		} else {
			all += int64(text[i])
		}
	}
	for all > 65535 {
		all -= 65535
	}
	return all
}

// madeTexts are texts of 0 to 70 bytes, always the same ones, and some long ones.
func madeTexts() []string {
	texts := []string{
		strings.Repeat("\xff", impl.MaxBytes),
		strings.Repeat("\xff", impl.MaxBytes-1),
		strings.Repeat("\x80\x01", impl.MaxBytes/2),
	}
	seed := uint32(7)
	for n := range 71 {
		text := make([]byte, n)
		for i := range text {
			seed = seed*1664525 + 1013904223
			text[i] = byte(seed >> 24)
		}
		texts = append(texts, string(text), strings.Repeat("\x00", n), strings.Repeat("\xff", n))
	}
	return texts
}

// withWord is the text with the word in the place of its two bytes from at on.
func withWord(text string, at int, word int64) string {
	return text[:at] + impl.WordBytes(word) + text[at+2:]
}

// withCheck is the text with its check in the place of its two bytes from at on.
func withCheck(text string, at int) string {
	rest := withWord(text, at, 0)
	return withWord(rest, at, 65535-impl.Sum(rest))
}

// allZero tells whether there is nothing but bytes 0 beside the two from at on.
func allZero(text string, at int) bool {
	return strings.Trim(text[:at]+text[at+2:], "\x00") == ""
}

func wantNumber(t *testing.T, what string, got int64, want int64) {
	t.Helper()
	if got != want {
		t.Errorf("%s: got %d, want %d", what, got, want)
	}
}

func wantRight(t *testing.T, what string, text string, want bool) {
	t.Helper()
	if got := impl.SumRight(text); got != want {
		t.Errorf("%s: right is %v of a text of %d bytes, want %v", what, got, len(text), want)
	}
}

func TestCodesAndLimits(t *testing.T) {
	got := []int64{impl.OK, impl.ErrForm, impl.ErrSize, impl.ErrSyntax, impl.ErrShort, impl.ErrSum, impl.ErrNone,
		impl.ErrThere, impl.ErrRange, impl.ErrFull, impl.ErrFrag, impl.ErrKind, impl.ErrHops, impl.ErrBig}
	for code, number := range got {
		wantNumber(t, "code", number, int64(code))
	}
	wantNumber(t, "MaxBytes", impl.MaxBytes, 20000)
	wantNumber(t, "MaxList", impl.MaxList, 400)
	wantNumber(t, "MaxTime", impl.MaxTime, 1000000000)
}

func TestWord(t *testing.T) {
	for _, c := range []struct {
		text string
		at   int64
		want int64
	}{
		{"\x01\x02", 0, 258},
		{"\x00\xff\x00", 0, 255},
		{"\x00\xff\x00", 1, 65280},
		{"\xff\xff", 0, 65535},
		{"\x01\x02\x03\x04\x05", 2, 772},
		{"\x01\x02\x03\x04\x05", 3, 1029},
	} {
		wantNumber(t, fmt.Sprintf("Word(%q, %d)", c.text, c.at), impl.Word(c.text, c.at), c.want)
	}
}

func TestWordNotThere(t *testing.T) {
	for _, text := range []string{"", "\xff", "\xff\xff", "\xff\xff\xff"} {
		n := int64(len(text))
		for _, at := range []int64{-1, -2, n - 1, n, n + 1, 1 << 32, -1 << 32, math.MinInt64, math.MaxInt64, math.MaxInt64 - 1} {
			wantNumber(t, fmt.Sprintf("Word(%q, %d)", text, at), impl.Word(text, at), 0)
		}
	}
}

func TestWordOfLongTexts(t *testing.T) {
	most := strings.Repeat("\x01", impl.MaxBytes-2) + "\x02\x03"
	wantNumber(t, "the first word", impl.Word(most, 0), 257)
	wantNumber(t, "the last word", impl.Word(most, impl.MaxBytes-2), 515)
	wantNumber(t, "one byte alone", impl.Word(most, impl.MaxBytes-1), 0)
	for _, at := range []int64{-1, 0, 1, impl.MaxBytes - 1} {
		wantNumber(t, "a word of too long a text", impl.Word(most+"\x04", at), 0)
	}
}

func TestWordBytes(t *testing.T) {
	for n := range int64(65536) {
		text := impl.WordBytes(n)
		if text != string([]byte{byte(n / 256), byte(n % 256)}) {
			t.Fatalf("WordBytes(%d): got %q", n, text)
		}
		wantNumber(t, "a word from its bytes", impl.Word(text, 0), n)
	}
	for _, n := range noWords {
		if got := impl.WordBytes(n); got != "" {
			t.Errorf("WordBytes(%d): got %q, want the empty text", n, got)
		}
	}
}

func TestSum(t *testing.T) {
	for _, c := range []struct {
		text string
		want int64
	}{
		{"", 0},
		{"\x00", 0},
		{"\x00\x00\x00", 0},
		{"\x12", 0x1200},
		{"\x12\x34", 0x1234},
		{"\x12\x34\x56", 0x6834},
		{"\xff\xff", 65535},
		{"\xff\xff\x00\x00", 65535},
		{"\xff\xff\xff\xff", 65535},
		{"\xff\xff\x00\x01", 1},
		{"\x80\x00\x80\x00", 1},
		{"\xff\xff\x01", 0x0100},
		{"\x00\x01\xf2\x03\xf4\xf5\xf6\xf7", 0xddf2},
	} {
		wantNumber(t, fmt.Sprintf("Sum(%q)", c.text), impl.Sum(c.text), c.want)
	}
	for _, text := range madeTexts() {
		wantNumber(t, fmt.Sprintf("Sum of %d bytes", len(text)), impl.Sum(text), expected(text))
	}
}

func TestSumOfTooLongTexts(t *testing.T) {
	most := strings.Repeat("\x00", impl.MaxBytes-2) + "\x02\x03"
	wantNumber(t, "Sum of MaxBytes", impl.Sum(most), 515)
	wantNumber(t, "Sum of one more", impl.Sum(most+"\x04"), 0)
	wantNumber(t, "Sum of two more", impl.Sum(most+"\x04\x05"), 0)

	right := withCheck(strings.Repeat("\xa7", impl.MaxBytes), 10)
	wantRight(t, "MaxBytes with a check", right, true)
	wantRight(t, "one more byte, 0", right+"\x00", false)
	wantRight(t, "a longer text", right+right, false)
}

func TestSumAdd(t *testing.T) {
	for _, a := range someWords {
		for _, b := range someWords {
			want := a + b
			if want > 65535 {
				want -= 65535
			}
			what := fmt.Sprintf("SumAdd(%d, %d)", a, b)
			wantNumber(t, what, impl.SumAdd(a, b), want)
			wantNumber(t, what+" as a text", impl.Sum(impl.WordBytes(a)+impl.WordBytes(b)), want)
		}
		for _, b := range noWords {
			wantNumber(t, fmt.Sprintf("SumAdd(%d, %d)", a, b), impl.SumAdd(a, b), 0)
			wantNumber(t, fmt.Sprintf("SumAdd(%d, %d)", b, a), impl.SumAdd(b, a), 0)
		}
	}
}

func TestSumTurn(t *testing.T) {
	for _, sum := range someWords {
		for _, old := range someWords {
			for _, new1 := range someWords {
				three := impl.WordBytes(65535-sum) + impl.WordBytes(65535-old) + impl.WordBytes(new1)
				what := fmt.Sprintf("SumTurn(%d, %d, %d)", sum, old, new1)
				wantNumber(t, what, impl.SumTurn(sum, old, new1), 65535-expected(three))
			}
		}
	}
	// The example of RFC 1624.
	wantNumber(t, "a check that is near 0", impl.SumTurn(0xdd2f, 0x5555, 0x3285), 0)
}

func TestSumTurnOfNoWords(t *testing.T) {
	for _, n := range noWords {
		for _, word := range []int64{0, 7, 65535} {
			wantNumber(t, fmt.Sprintf("the check %d", n), impl.SumTurn(n, word, word), 0)
			wantNumber(t, fmt.Sprintf("the old word %d", n), impl.SumTurn(word, n, word), 0)
			wantNumber(t, fmt.Sprintf("the new word %d", n), impl.SumTurn(word, word, n), 0)
		}
		wantNumber(t, fmt.Sprintf("%d alone", n), impl.SumTurn(n, n, n), 0)
	}
}

// Promise 1: a check makes a text's sum right.
func TestCheckMakesSumRight(t *testing.T) {
	for _, text := range madeTexts() {
		if len(text) < impl.MaxBytes-1 {
			// A whole last word ahead of it, or the check would not begin a word.
			even := text + strings.Repeat("\x00", len(text)%2)
			wantRight(t, "a check behind", even+impl.WordBytes(65535-impl.Sum(text)), true)
			wantRight(t, "a check ahead", impl.WordBytes(65535-impl.Sum(text))+text, true)
		}
		for _, at := range []int{0, 2, 10, 16, len(text)/2*2 - 2} {
			if at < 0 || at+2 > len(text) {
				continue
			}
			checked := withCheck(text, at)
			wantRight(t, "a check inside", checked, true)
			check := impl.Word(checked, int64(at))
			wantRight(t, "a wrong check", withWord(checked, at, (check+1)%65535), false)
		}
	}
}

func TestSumRight(t *testing.T) {
	for _, text := range []string{"\xff\xff", "\xff\xff\x00", "\x00\xff\xff", "\xff\xff\xff\xff", "\x45\x00\xba\xff"} {
		wantRight(t, fmt.Sprintf("%q", text), text, true)
	}
	for _, text := range []string{"", "\x00", "\x00\x00", "\xff", "\x00\xff", "\xff\xfe", "\xff\xff\x00\x01", "\x45\x00\xba\xfe"} {
		wantRight(t, fmt.Sprintf("%q", text), text, false)
	}
}

// turned is a right text with another word at a place, and its check turned with it.
func turned(text string, check int, at int, word int64) string {
	sum := impl.SumTurn(impl.Word(text, int64(check)), impl.Word(text, int64(at)), word)
	return withWord(withWord(text, at, word), check, sum)
}

// Promise 1: a word that is turned, and its check with it, keep a sum right, unless all is 0.
func TestTurnKeepsSumRight(t *testing.T) {
	for _, text := range madeTexts() {
		if len(text) < 4 || len(text) > 100 {
			continue
		}
		last := len(text)/2*2 - 2
		for _, places := range [][2]int{{0, 2}, {2, 0}, {0, last}, {last, 0}} {
			check, at := places[0], places[1]
			right := withCheck(text, check)
			for _, word := range someWords {
				next := turned(right, check, at, word)
				what := fmt.Sprintf("check at %d, %d at %d of %q", check, word, at, text)
				wantRight(t, what, next, !allZero(next, check))
				if !allZero(next, check) {
					wantRight(t, what+", turned again", turned(next, check, at, 4660), true)
				}
			}
		}
	}
}

func TestTurnOfAllZero(t *testing.T) {
	wantNumber(t, "the last word becomes 0", impl.SumTurn(65530, 5, 0), 0)
	wantRight(t, "all 0, the check too", turned("\xff\xfa\x00\x05", 0, 2, 0), false)
	wantNumber(t, "0 stays 0", impl.SumTurn(65535, 0, 0), 0)
	wantRight(t, "all 0 from the first", turned("\xff\xff\x00\x00", 0, 2, 0), false)
	wantNumber(t, "0 becomes 9 under the check 65535", impl.SumTurn(65535, 0, 9), 65526)
	wantNumber(t, "0 becomes 9 under the check 0", impl.SumTurn(0, 0, 9), 65526)
	wantRight(t, "from all 0 on", turned("\x00\x00\x00\x00", 0, 2, 9), true)
	wantRight(t, "a word of 65535 is not 0", turned("\xff\xfa\x00\x05", 0, 2, 65535), true)
}

// An answer must not hang on the calls ahead of it.
func TestSumsKeepNothing(t *testing.T) {
	first := impl.Sum("\x12\x34\x56")
	impl.SumTurn(1, 2, 3)
	impl.Sum(strings.Repeat("\xff", impl.MaxBytes+1))
	wantNumber(t, "the same text again", impl.Sum("\x12\x34\x56"), first)
}

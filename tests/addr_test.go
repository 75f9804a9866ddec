package tests

import (
	"fmt"
	"math"
	"math/big"
	"net/netip"
	"strings"
	"testing"

	"loop.example/g00314/impl"
)

// farNumbers are numbers that are neither a place of a bit nor a count of bits.
var farNumbers = []int64{-1, -8, -128, 129, 136, 256, 1 << 32, 1<<32 + 8, math.MinInt64, math.MaxInt64}

// fourLengths are the lengths of prefixes into which four bytes may be put, with the
// places at which RFC 6052 shows them.
var fourLengths = []struct {
	bits   int64
	places [4]int
}{
	{32, [4]int{4, 5, 6, 7}},
	{40, [4]int{5, 6, 7, 9}},
	{48, [4]int{6, 7, 9, 10}},
	{56, [4]int{7, 9, 10, 11}},
	{64, [4]int{9, 10, 11, 12}},
	{96, [4]int{12, 13, 14, 15}},
}

// noAddresses are texts of lengths that addresses do not have.
func noAddresses() []string {
	var texts []string
	for _, n := range []int{0, 1, 2, 3, 5, 6, 8, 12, 15, 17, 32, impl.MaxBytes, impl.MaxBytes + 1, impl.MaxBytes + 4} {
		texts = append(texts, strings.Repeat("\x00", n), strings.Repeat("\x20", n))
	}
	return texts
}

// madeAddresses are addresses of so many bytes, always the same ones, those of zeros and ones among them.
func madeAddresses(size int, count int) []string {
	made := []string{strings.Repeat("\x00", size), strings.Repeat("\xff", size)}
	seed := uint32(11 + size)
	for range count {
		a := make([]byte, size)
		for i := range a {
			seed = seed*1664525 + 1013904223
			a[i] = byte(seed >> 24)
			// Many bytes 0, so that rows of groups that are 0 come about.
			if seed>>16&3 == 0 {
				a[i] = 0
			}
		}
		made = append(made, string(a))
	}
	return made
}

// rowAddresses are those of IPv6 of every choice of groups that are 0, with groups of 1 to 4 digits between.
func rowAddresses() []string {
	var made []string
	for _, group := range []string{"\x00\x01", "\x00\xa0", "\x0b\x00", "\xf0\x0d"} {
		for choice := range 256 {
			a := ""
			for i := range 8 {
				if choice>>i&1 == 0 {
					a += "\x00\x00"
				} else {
					a += group
				}
			}
			made = append(made, a)
		}
	}
	return made
}

func bothKinds() []string {
	return append(append(madeAddresses(4, 60), madeAddresses(16, 60)...), rowAddresses()...)
}

// canonical is an address's text as the library tells it, which writes the end of a mapped one as IPv4 does.
func canonical(a string) string {
	addr, _ := netip.AddrFromSlice([]byte(a))
	if addr.Is4In6() {
		return fmt.Sprintf("::ffff:%x:%x", impl.Word(a, 12), impl.Word(a, 14))
	}
	return addr.String()
}

// addressOf is the address of a text that the library reads, whatever its spelling.
func addressOf(text string) string {
	return string(netip.MustParseAddr(text).AsSlice())
}

func prefixOf(text string) impl.Prefix {
	p := netip.MustParsePrefix(text)
	return impl.Prefix{Addr: string(p.Addr().AsSlice()), Bits: int64(p.Bits())}
}

func told(p impl.Prefix) string {
	return fmt.Sprintf("%q/%d", p.Addr, p.Bits)
}

func withBitFlipped(a string, at int64) string {
	b := []byte(a)
	b[at/8] ^= 128 >> (at % 8)
	return string(b)
}

func wantOut(t *testing.T, what string, got impl.AddrOut, want impl.AddrOut) {
	t.Helper()
	if got != want {
		t.Errorf("%s: got %q with code %d, want %q with code %d", what, got.Addr, got.Code, want.Addr, want.Code)
	}
}

func wantRefused(t *testing.T, what string, got impl.AddrOut, code int64) {
	t.Helper()
	wantOut(t, what, got, impl.AddrOut{Code: code})
}

func wantText(t *testing.T, what string, got string, want string) {
	t.Helper()
	if got != want {
		t.Errorf("%s: got %q, want %q", what, got, want)
	}
}

func wantAnswer(t *testing.T, what string, got bool, want bool) {
	t.Helper()
	if got != want {
		t.Errorf("%s: got %v, want %v", what, got, want)
	}
}

func TestAddrRight(t *testing.T) {
	for _, a := range bothKinds() {
		wantAnswer(t, fmt.Sprintf("AddrRight(%q)", a), impl.AddrRight(a), true)
	}
	for _, a := range noAddresses() {
		wantAnswer(t, fmt.Sprintf("AddrRight of %d bytes", len(a)), impl.AddrRight(a), false)
	}
}

func TestAddrText(t *testing.T) {
	for _, c := range []struct {
		a    string
		want string
	}{
		{"\x00\x00\x00\x00", "0.0.0.0"},
		{"\xff\xff\xff\xff", "255.255.255.255"},
		{"\x0a\x00\x64\x09", "10.0.100.9"},
		{addressOf("::"), "::"},
		{addressOf("::1"), "::1"},
		{addressOf("1::"), "1::"},
		{addressOf("0:1::"), "0:1::"},
		{addressOf("2001:db8:0:1:1:1:1:1"), "2001:db8:0:1:1:1:1:1"},
		{addressOf("0:1:2:3:4:5:6:7"), "0:1:2:3:4:5:6:7"},
		{addressOf("1:2:3:4:5:6:7:0"), "1:2:3:4:5:6:7:0"},
		{addressOf("0:1:0:1:0:1:0:1"), "0:1:0:1:0:1:0:1"},
		{addressOf("0:0:1:0:0:1:0:0"), "::1:0:0:1:0:0"},
		{addressOf("1:0:0:2:0:0:0:3"), "1:0:0:2::3"},
		{addressOf("1:0:0:0:2:0:0:3"), "1::2:0:0:3"},
		{addressOf("1:0:0:2:0:0:0:0"), "1:0:0:2::"},
		{addressOf("2001:db8::1:0:0:1"), "2001:db8::1:0:0:1"},
		{addressOf("2001:0DB8:00A0:0B00::10"), "2001:db8:a0:b00::10"},
		{addressOf("abcd:ef01:2345:6789:abcd:ef01:2345:6789"), "abcd:ef01:2345:6789:abcd:ef01:2345:6789"},
		{addressOf("::ffff:1.2.3.4"), "::ffff:102:304"},
		{addressOf("::1.2.3.4"), "::102:304"},
		{addressOf("64:ff9b::192.0.2.33"), "64:ff9b::c000:221"},
	} {
		wantText(t, fmt.Sprintf("AddrText(%q)", c.a), impl.AddrText(c.a), c.want)
	}
	for _, a := range bothKinds() {
		wantText(t, fmt.Sprintf("AddrText(%q)", a), impl.AddrText(a), canonical(a))
	}
	for _, a := range noAddresses() {
		wantText(t, fmt.Sprintf("AddrText of %d bytes", len(a)), impl.AddrText(a), "")
	}
}

// Promise 2: addresses come back from their texts.
func TestAddressesComeBack(t *testing.T) {
	for _, a := range bothKinds() {
		wantOut(t, impl.AddrText(a), impl.AddrRead(impl.AddrText(a)), impl.AddrOut{Addr: a})
		wantOut(t, canonical(a), impl.AddrRead(canonical(a)), impl.AddrOut{Addr: a})
	}
	for n := range 256 {
		for place := range 4 {
			a := []byte{10, 20, 30, 40}
			a[place] = byte(n)
			wantOut(t, canonical(string(a)), impl.AddrRead(canonical(string(a))), impl.AddrOut{Addr: string(a)})
		}
	}
	for n := range int64(65536) {
		a := addressOf("2001:db8::")[:14] + impl.WordBytes(n)
		wantOut(t, canonical(a), impl.AddrRead(canonical(a)), impl.AddrOut{Addr: a})
	}
}

func TestAddrReadRefusesFours(t *testing.T) {
	for _, text := range []string{
		"", " ", ".", "...", "0", "1", "1.2.3", "1.2.3.", ".1.2.3", "1..2.3", "1.2.3.4.", ".1.2.3.4", "1.2.3.4.5",
		"256.1.1.1", "1.256.1.1", "1.1.1.256", "10.0.0.1000", "1.1.1.18446744073709551617", "1.1.1.4294967297",
		"01.2.3.4", "1.02.3.4", "1.2.3.00", "1.2.3.000", "001.2.3.4", "1.2.3.04",
		" 1.2.3.4", "1.2.3.4 ", "1. 2.3.4", "1.2.3.4\n", "1.2.3.4\x00", "\x001.2.3.4", "1.2.3.4/32",
		"+1.2.3.4", "-1.2.3.4", "1.2.3.-0", "1.2.3.a", "a.2.3.4", "0x1.2.3.4", "1_0.2.3.4", "1e1.2.3.4", "\u0661.2.3.4",
		"1,2,3,4", "1:2:3:4", "1.2.3:4", "16909060", "\x01\x02\x03\x04",
	} {
		wantRefused(t, fmt.Sprintf("AddrRead(%q)", text), impl.AddrRead(text), impl.ErrSyntax)
	}
}

func TestAddrReadRefusesSixes(t *testing.T) {
	for _, text := range []string{
		":", ":::", "::::", "1", "1:", ":1", "1:2:3:4:5:6:7", "1:2:3:4:5:6:7:", ":1:2:3:4:5:6:7", ":2:3:4:5:6:7:8",
		"1:2:3:4:5:6:7:8:", ":1:2:3:4:5:6:7:8", "1:2:3:4:5:6:7:8:9", "::1:2:3:4:5:6:7:8", "1:2:3:4:5:6:7:8::",
		"1:2:3:4::5:6:7:8", "1::2:3:4:5:6:7:8:9", "::1:2:3:4:5:6:7:8:9", "1::" + strings.Repeat("1:", 99) + "1", "::1::", "1::2::3", "1:::2", ":1::2", "1::2:", ":::1", "1:::",
		// A row that is not the longest, not the first of like ones, not the whole of it, or a lone group.
		"1:0:0:2::3:4", "1:0:0:0:2::3", "1::2:0:0:0:3", "0:0:1::1:0:0", "::1:0:0:0:0:1", "2001:db8:0:0::1", "2001:db8::0:1",
		"0::", "::0", "0::0", "0::1", "1::0", "1:2:3:4:5:6:7::", "::2:3:4:5:6:7:8", "1:2:3::5:6:7:8", "2001:db8::1:1:1:1:1",
		// A row that is not left out.
		"0:0:0:0:0:0:0:0", "0:0:0:0:0:0:0:1", "1:2:3:0:0:6:7:8", "1:2:3:4:5:6:0:0", "2001:db8:0:0:1:0:0:1",
		// Digits.
		"01::", "::01", "::0001", "::0010", "2001:0db8::", "1:2:3:4:5:6:7:08", "1:2:3:00:5:6:7:8", "::10000", "::12345", "12345::", "00000::",
		"2001:DB8::1", "::A", "::aF", "::g", "::x1", "::-1", "::+1", "::1_0", "::\u0661",
		// Something beside.
		" ::1", "::1 ", ":: 1", "::1\n", "::1\x00", "\x00::1", "[::1]", "::1/128", "fe80::1%1", "fe80::1%eth0",
		"1.:2:3:4:5:6:7:8", "1;2;3;4;5;6;7;8", "1-2-3-4-5-6-7-8", "1:2:3:4:5:6:7.8",
		// The end as IPv4 writes it is no text of this document.
		"::1.2.3.4", "::ffff:1.2.3.4", "64:ff9b::192.0.2.33", "1:2:3:4:5:6:1.2.3.4",
		strings.Repeat("\x01", 16),
	} {
		wantRefused(t, fmt.Sprintf("AddrRead(%q)", text), impl.AddrRead(text), impl.ErrSyntax)
	}
}

func TestAddrReadOfLongTexts(t *testing.T) {
	for _, piece := range []string{"0", "1", ":", ".", "1:", "::", "1.", "\x00", "\xff", " "} {
		long := strings.Repeat(piece, impl.MaxBytes)
		what := fmt.Sprintf("AddrRead of many %q", piece)
		wantRefused(t, what, impl.AddrRead(long[:impl.MaxBytes]), impl.ErrSyntax)
		wantRefused(t, what+", one too many", impl.AddrRead(long[:impl.MaxBytes]+"1"), impl.ErrSize)
		wantRefused(t, what+", one ahead", impl.AddrRead("1"+long[:impl.MaxBytes]), impl.ErrSize)
	}
	wantRefused(t, "noughts ahead", impl.AddrRead(strings.Repeat("0", impl.MaxBytes)+"1.2.3.4"), impl.ErrSize)
}

// Promise 2: a text that is a little other than an address's one is none, or that of another address.
func TestAddrReadOfNearTexts(t *testing.T) {
	signs := "0123456789abcdefABFg:. \x00"
	for _, a := range append(madeAddresses(4, 12), append(madeAddresses(16, 12), rowAddresses()[:256]...)...) {
		text := impl.AddrText(a)
		for i := range len(text) + 1 {
			near := []string{text[:i], text[i:]}
			for _, sign := range signs {
				near = append(near, text[:i]+string(sign)+text[i:])
				if i < len(text) {
					near = append(near, text[:i]+string(sign)+text[i+1:])
				}
			}
			if i < len(text) {
				near = append(near, text[:i]+text[i+1:])
			}
			for _, other := range near {
				wantAsTheLibrary(t, other)
			}
		}
	}
}

// wantAsTheLibrary holds a text that is read against what the library reads, if that is how it writes it.
func wantAsTheLibrary(t *testing.T, text string) {
	t.Helper()
	want := impl.AddrOut{Code: impl.ErrSyntax}
	if addr, err := netip.ParseAddr(text); err == nil {
		a := string(addr.AsSlice())
		if canonical(a) == text {
			want = impl.AddrOut{Addr: a}
		}
	}
	wantOut(t, fmt.Sprintf("AddrRead(%q)", text), impl.AddrRead(text), want)
}

func TestAddrBit(t *testing.T) {
	for _, a := range append(madeAddresses(4, 20), madeAddresses(16, 20)...) {
		number := new(big.Int).SetBytes([]byte(a))
		bits := 8 * len(a)
		for at := range bits {
			want := int64(number.Bit(bits - 1 - at))
			wantNumber(t, fmt.Sprintf("AddrBit(%q, %d)", a, at), impl.AddrBit(a, int64(at)), want)
		}
	}
	for _, size := range []int{4, 16} {
		ones := strings.Repeat("\xff", size)
		last := int64(8*size - 1)
		wantNumber(t, "the first bit", impl.AddrBit(ones, 0), 1)
		wantNumber(t, "the last bit", impl.AddrBit(ones, last), 1)
		wantNumber(t, "behind the last bit", impl.AddrBit(ones, last+1), 0)
		wantNumber(t, "the first bit alone", impl.AddrBit("\x80"+strings.Repeat("\x00", size-1), 0), 1)
		wantNumber(t, "the last bit alone", impl.AddrBit(strings.Repeat("\x00", size-1)+"\x01", last), 1)
		for _, at := range farNumbers {
			wantNumber(t, fmt.Sprintf("bit %d", at), impl.AddrBit(ones, at), 0)
		}
	}
	for _, a := range noAddresses() {
		for _, at := range []int64{-1, 0, 2, 10, 31, 127} {
			wantNumber(t, fmt.Sprintf("bit %d of %d bytes", at, len(a)), impl.AddrBit(a, at), 0)
		}
	}
}

func TestPrefixRight(t *testing.T) {
	for _, a := range append(madeAddresses(4, 20), madeAddresses(16, 20)...) {
		addr, _ := netip.AddrFromSlice([]byte(a))
		for bits := range 8*len(a) + 1 {
			masked, _ := addr.Prefix(bits)
			cut := string(masked.Addr().AsSlice())
			wantAnswer(t, fmt.Sprintf("%v", masked), impl.PrefixRight(impl.Prefix{Addr: cut, Bits: int64(bits)}), true)
			wantAnswer(t, fmt.Sprintf("%v/%d", addr, bits), impl.PrefixRight(impl.Prefix{Addr: a, Bits: int64(bits)}), cut == a)
		}
	}
}

func TestPrefixRightOfOneBit(t *testing.T) {
	for _, size := range []int{4, 16} {
		zeros := strings.Repeat("\x00", size)
		most := int64(8 * size)
		for bits := range most + 1 {
			for at := range most {
				p := impl.Prefix{Addr: withBitFlipped(zeros, at), Bits: bits}
				wantAnswer(t, told(p), impl.PrefixRight(p), at < bits)
			}
		}
		wantAnswer(t, "one bit too many", impl.PrefixRight(impl.Prefix{Addr: zeros, Bits: most + 1}), false)
		wantAnswer(t, "eight bits too many", impl.PrefixRight(impl.Prefix{Addr: zeros, Bits: most + 8}), false)
		for _, bits := range farNumbers {
			wantAnswer(t, fmt.Sprintf("%d bits", bits), impl.PrefixRight(impl.Prefix{Addr: zeros, Bits: bits}), false)
		}
	}
	for _, a := range noAddresses() {
		for _, bits := range []int64{-1, 0, 1, 8, 32, 128, 8 * int64(len(a))} {
			p := impl.Prefix{Addr: a, Bits: bits}
			wantAnswer(t, fmt.Sprintf("%d bytes, %d bits", len(a), bits), impl.PrefixRight(p), false)
		}
	}
}

func TestPrefixHas(t *testing.T) {
	for _, a := range append(madeAddresses(4, 12), madeAddresses(16, 6)...) {
		addr, _ := netip.AddrFromSlice([]byte(a))
		most := int64(8 * len(a))
		for bits := range most + 1 {
			masked, _ := addr.Prefix(int(bits))
			p := impl.Prefix{Addr: string(masked.Addr().AsSlice()), Bits: bits}
			wantAnswer(t, fmt.Sprintf("%v has %v", masked, addr), impl.PrefixHas(p, a), true)
			for at := range most {
				other := withBitFlipped(a, at)
				wantAnswer(t, fmt.Sprintf("%v has %q", masked, other), impl.PrefixHas(p, other), at >= bits)
			}
		}
	}
}

func TestPrefixHasNot(t *testing.T) {
	four, six := strings.Repeat("\x00", 4), strings.Repeat("\x00", 16)
	for _, c := range []struct {
		what string
		p    impl.Prefix
		a    string
	}{
		{"a six of a four", impl.Prefix{Addr: four}, six},
		{"a four of a six", impl.Prefix{Addr: six}, four},
		{"a whole six of a four", impl.Prefix{Addr: four, Bits: 32}, six},
		{"a whole four of a six", impl.Prefix{Addr: six, Bits: 32}, four},
		{"a bit too much", impl.Prefix{Addr: "\x0a\x00\x00\x01", Bits: 8}, "\x0a\x00\x00\x01"},
		{"too many bits", impl.Prefix{Addr: four, Bits: 33}, four},
		{"too many bits of a six", impl.Prefix{Addr: six, Bits: 129}, six},
		{"bits below 0", impl.Prefix{Addr: four, Bits: -1}, four},
		{"bits far off", impl.Prefix{Addr: four, Bits: math.MinInt64}, four},
	} {
		wantAnswer(t, c.what, impl.PrefixHas(c.p, c.a), false)
	}
	for _, a := range noAddresses() {
		wantAnswer(t, fmt.Sprintf("%d bytes of a four", len(a)), impl.PrefixHas(impl.Prefix{Addr: four}, a), false)
		wantAnswer(t, fmt.Sprintf("%d bytes of a six", len(a)), impl.PrefixHas(impl.Prefix{Addr: six}, a), false)
		wantAnswer(t, fmt.Sprintf("%d bytes of themselves", len(a)), impl.PrefixHas(impl.Prefix{Addr: a}, a), false)
	}
}

func TestEmbed(t *testing.T) {
	four := addressOf("192.0.2.33")
	for _, c := range []struct {
		prefix string
		want   string
	}{
		// The table of RFC 6052.
		{"2001:db8::/32", "2001:db8:c000:221::"},
		{"2001:db8:100::/40", "2001:db8:1c0:2:21::"},
		{"2001:db8:122::/48", "2001:db8:122:c000:2:2100::"},
		{"2001:db8:122:300::/56", "2001:db8:122:3c0:0:221::"},
		{"2001:db8:122:344::/64", "2001:db8:122:344:c0:2:2100::"},
		{"2001:db8:122:344::/96", "2001:db8:122:344::c000:221"},
		{"64:ff9b::/96", "64:ff9b::c000:221"},
		// A prefix that goes behind the byte of the number 8 keeps its own.
		{"2001:db8:122:344:5600::/96", "2001:db8:122:344:5600:0:c000:221"},
		{"ffff:ffff:ffff:ffff:ffff:ffff::/96", "ffff:ffff:ffff:ffff:ffff:ffff:c000:221"},
	} {
		wantOut(t, c.prefix, impl.Embed(prefixOf(c.prefix), four), impl.AddrOut{Addr: addressOf(c.want)})
	}
	for _, c := range fourLengths {
		for _, net := range madeAddresses(16, 20) {
			p := impl.Prefix{Addr: net[:c.bits/8] + strings.Repeat("\x00", 16-int(c.bits/8)), Bits: c.bits}
			for _, a := range madeAddresses(4, 20) {
				want := []byte(p.Addr)
				for i, place := range c.places {
					want[place] = a[i]
				}
				wantOut(t, fmt.Sprintf("Embed of %s and %q", told(p), a), impl.Embed(p, a), impl.AddrOut{Addr: string(want)})
			}
		}
	}
}

// wrongForEmbed are prefixes that take no four bytes, each for another fault.
func wrongForEmbed() []impl.Prefix {
	zeros := strings.Repeat("\x00", 16)
	wrong := []impl.Prefix{{}, {Bits: 32}, {Bits: 96}, {Addr: "\x00\x00\x00\x00", Bits: 32}, {Addr: "\x00\x00\x00\x00", Bits: 96}}
	for bits := int64(-1); bits <= 130; bits++ {
		switch bits {
		case 32, 40, 48, 56, 64, 96:
			// A bit behind the last one, and the last of all.
			wrong = append(wrong, impl.Prefix{Addr: withBitFlipped(zeros, bits), Bits: bits},
				impl.Prefix{Addr: withBitFlipped(zeros, 127), Bits: bits})
		default:
			wrong = append(wrong, impl.Prefix{Addr: zeros, Bits: bits})
		}
	}
	for _, bits := range farNumbers {
		wrong = append(wrong, impl.Prefix{Addr: zeros, Bits: bits})
	}
	for _, a := range noAddresses() {
		wrong = append(wrong, impl.Prefix{Addr: a, Bits: 32}, impl.Prefix{Addr: a, Bits: 96})
	}
	return wrong
}

func TestEmbedRefuses(t *testing.T) {
	for _, p := range wrongForEmbed() {
		what := fmt.Sprintf("a prefix of %d bytes and %d bits", len(p.Addr), p.Bits)
		wantRefused(t, what, impl.Embed(p, "\x01\x02\x03\x04"), impl.ErrForm)
		wantRefused(t, what, impl.Embed(p, strings.Repeat("\x00", impl.MaxBytes+1)), impl.ErrForm)
	}
	for _, c := range fourLengths {
		p := impl.Prefix{Addr: strings.Repeat("\x00", 16), Bits: c.bits}
		for _, four := range append(noAddresses(), strings.Repeat("\x00", 16)) {
			wantRefused(t, fmt.Sprintf("%d bytes for four", len(four)), impl.Embed(p, four), impl.ErrForm)
		}
	}
}

// Promise 3: four bytes that are put into a prefix come out of it.
func TestFourBytesComeOut(t *testing.T) {
	for _, c := range fourLengths {
		for _, net := range madeAddresses(16, 20) {
			p := impl.Prefix{Addr: net[:c.bits/8] + strings.Repeat("\x00", 16-int(c.bits/8)), Bits: c.bits}
			for _, four := range madeAddresses(4, 20) {
				six := impl.Embed(p, four)
				wantNumber(t, "code of Embed", six.Code, impl.OK)
				wantAnswer(t, "the prefix has what was put into it", impl.PrefixHas(p, six.Addr), true)
				wantOut(t, fmt.Sprintf("Extract of %s and %q", told(p), six.Addr), impl.Extract(p, six.Addr), impl.AddrOut{Addr: four})
			}
		}
	}
}

// Each bit of an address is of the prefix, of the four bytes, or one that no Embed sets.
func TestExtractOfEachBit(t *testing.T) {
	four := "\xa5\x00\xff\x5a"
	for _, c := range fourLengths {
		net := "\x20\x01\x0d\xb8\x00\xff\x7e\x81\x3c\x00\xff\x01"[:c.bits/8]
		p := impl.Prefix{Addr: net + strings.Repeat("\x00", 16-len(net)), Bits: c.bits}
		six := impl.Embed(p, four).Addr
		for at := range int64(128) {
			want := impl.AddrOut{Code: impl.ErrSyntax}
			if at < c.bits {
				want = impl.AddrOut{Code: impl.ErrNone}
			}
			for i, place := range c.places {
				if int64(place) == at/8 {
					want = impl.AddrOut{Addr: withBitFlipped(four, 8*int64(i)+at%8)}
				}
			}
			wantOut(t, fmt.Sprintf("%d bits, bit %d", c.bits, at), impl.Extract(p, withBitFlipped(six, at)), want)
		}
	}
}

func TestExtractRefuses(t *testing.T) {
	ones := strings.Repeat("\xff", 16)
	for _, p := range wrongForEmbed() {
		what := fmt.Sprintf("a prefix of %d bytes and %d bits", len(p.Addr), p.Bits)
		wantRefused(t, what, impl.Extract(p, strings.Repeat("\x00", 16)), impl.ErrForm)
		// Nor has the prefix this one, which would be told later.
		wantRefused(t, what, impl.Extract(p, ones), impl.ErrForm)
	}
	for _, c := range fourLengths {
		p := impl.Prefix{Addr: strings.Repeat("\x00", 16), Bits: c.bits}
		for _, six := range append(noAddresses(), "\x00\x00\x00\x00") {
			wantRefused(t, fmt.Sprintf("%d bytes for six", len(six)), impl.Extract(p, six), impl.ErrForm)
		}
		// Not of the prefix, and of no Embed either: the first fault is told.
		wantRefused(t, fmt.Sprintf("ones of %d bits", c.bits), impl.Extract(p, ones), impl.ErrNone)
	}
	for _, c := range []struct {
		prefix string
		six    string
		code   int64
	}{
		{"64:ff9b::/96", "64:ff9b:1::c000:221", impl.ErrNone},
		{"64:ff9b::/96", "64:ff9b::1:c000:221", impl.ErrNone},
		{"64:ff9b::/96", "::c000:221", impl.ErrNone},
		{"2001:db8::/32", "2001:db9:c000:221::", impl.ErrNone},
		{"2001:db8::/32", "2001:db8:c000:221:100::", impl.ErrSyntax},
		{"2001:db8::/32", "2001:db8:c000:221::1", impl.ErrSyntax},
		{"2001:db8:100::/40", "2001:db8:1c0:2:121::", impl.ErrSyntax},
		{"2001:db8:122:344::/64", "2001:db8:122:344:1c0:2:2100::", impl.ErrSyntax},
		{"2001:db8:122:344::/64", "2001:db8:122:344:c0:2:2101::", impl.ErrSyntax},
		{"2001:db8:122:344::/64", "2001:db8:122:344:c0:2:2100:1", impl.ErrSyntax},
	} {
		wantRefused(t, c.six+" of "+c.prefix, impl.Extract(prefixOf(c.prefix), addressOf(c.six)), c.code)
	}
}

package tests

import (
	"encoding/binary"
	"fmt"
	"math"
	"strings"
	"testing"

	"loop.example/g00314/impl"
)

// noBytes are numbers just outside of the bytes, and far outside of them.
var noBytes = []int64{-1, -255, -256, 256, 257, 511, 65536, 1 << 32, 1<<32 + 1, math.MinInt64, math.MaxInt64}

// filler is a text of so many bytes, no two neighbours alike.
func filler(count int) string {
	text := make([]byte, count)
	for i := range text {
		text[i] = byte(7*i + 1)
	}
	return string(text)
}

func fourPacket() impl.V4 {
	return impl.V4{Tos: 184, Id: 43981, Ttl: 64, Proto: 17, Src: addressOf("192.0.2.1"),
		Dst: addressOf("198.51.100.254"), Data: filler(24)}
}

func sixPacket() impl.V6 {
	return impl.V6{Class: 184, Flow: 703710, Next: 6, Hops: 63, Src: addressOf("2001:db8::1"),
		Dst: addressOf("64:ff9b::c633:6401"), Data: filler(24)}
}

func sixPiece() impl.V6 {
	p := sixPacket()
	p.Piece, p.More, p.Off, p.Id = true, true, 185, 3735928559
	return p
}

func fourWith(change func(p *impl.V4)) impl.V4 {
	p := fourPacket()
	change(&p)
	return p
}

func sixWith(change func(p *impl.V6)) impl.V6 {
	p := sixPacket()
	change(&p)
	return p
}

func pieceWith(change func(p *impl.V6)) impl.V6 {
	p := sixPiece()
	change(&p)
	return p
}

func among(n int64, low int64, high int64) bool {
	return low <= n && n <= high
}

// fourIsRight asks the document's words one by one.
func fourIsRight(p impl.V4) bool {
	length := int64(len(p.Data))
	switch {
	case !among(p.Tos, 0, 255), !among(p.Ttl, 0, 255), !among(p.Proto, 0, 255), !among(p.Id, 0, 65535):
		return false
	case !among(p.Off, 0, 8191), len(p.Src) != 4, len(p.Dst) != 4, len(p.Options) > 40, len(p.Options)&3 != 0:
		return false
	case length > 1400, p.More && length&7 != 0, p.Off*8+length > 65515:
		return false
	case p.Whole && p.More, p.Whole && p.Off > 0:
		return false
	}
	return true
}

// sixIsRight asks the document's words one by one.
func sixIsRight(p impl.V6) bool {
	length := int64(len(p.Data))
	switch {
	case !among(p.Class, 0, 255), !among(p.Next, 0, 255), !among(p.Hops, 0, 255), !among(p.Flow, 0, 1048575):
		return false
	case len(p.Src) != 16, len(p.Dst) != 16, length > 1400, p.Next == 44:
		return false
	case !p.Piece:
		return !p.More && p.Off == 0 && p.Id == 0
	case !among(p.Off, 0, 8191), !among(p.Id, 0, 4294967295), p.More && length&7 != 0, p.Off*8+length > 65535:
		return false
	}
	return true
}

// layFour lays the bytes by numbers of the library, with the check that expected reckons.
func layFour(p impl.V4) string {
	flags := uint16(p.Off)
	if p.Whole {
		flags += 16384
	}
	if p.More {
		flags += 8192
	}
	var b []byte
	b = append(b, byte(64+5+len(p.Options)/4), byte(p.Tos))
	b = binary.BigEndian.AppendUint16(b, uint16(20+len(p.Options)+len(p.Data)))
	b = binary.BigEndian.AppendUint16(b, uint16(p.Id))
	b = binary.BigEndian.AppendUint16(b, flags)
	b = append(b, byte(p.Ttl), byte(p.Proto), 0, 0)
	b = append(b, p.Src+p.Dst+p.Options...)
	binary.BigEndian.PutUint16(b[10:], uint16(65535-expected(string(b))))
	return string(b) + p.Data
}

// laySix lays the bytes by numbers of the library.
func laySix(p impl.V6) string {
	next, length := p.Next, len(p.Data)
	if p.Piece {
		next, length = 44, length+8
	}
	var b []byte
	b = binary.BigEndian.AppendUint32(b, uint32(6*268435456+p.Class*1048576+p.Flow))
	b = binary.BigEndian.AppendUint16(b, uint16(length))
	b = append(b, byte(next), byte(p.Hops))
	b = append(b, p.Src+p.Dst...)
	if p.Piece {
		word := uint16(8 * p.Off)
		if p.More {
			word++
		}
		b = append(b, byte(p.Next), 0)
		b = binary.BigEndian.AppendUint16(b, word)
		b = binary.BigEndian.AppendUint32(b, uint32(p.Id))
	}
	return string(b) + p.Data
}

// fourOf reads by places, fault by fault in the document's order.
func fourOf(text string) impl.V4Out {
	if len(text) > 20000 {
		return impl.V4Out{Code: impl.ErrSize}
	}
	if len(text) < 20 {
		return impl.V4Out{Code: impl.ErrShort}
	}
	header, whole := int(text[0]%16)*4, int(text[2])*256+int(text[3])
	if text[0]/16 != 4 || header < 20 || whole < header || text[6] >= 128 {
		return impl.V4Out{Code: impl.ErrSyntax}
	}
	if len(text) < header || len(text) < whole {
		return impl.V4Out{Code: impl.ErrShort}
	}
	if expected(text[:header]) != 65535 {
		return impl.V4Out{Code: impl.ErrSum}
	}
	p := impl.V4{Tos: int64(text[1]), Id: int64(text[4])*256 + int64(text[5]), Whole: text[6]/64 == 1,
		More: text[6]/32%2 == 1, Off: int64(text[6]%32)*256 + int64(text[7]), Ttl: int64(text[8]),
		Proto: int64(text[9]), Src: text[12:16], Dst: text[16:20], Options: text[20:header], Data: text[header:whole]}
	if !fourIsRight(p) {
		return impl.V4Out{Code: impl.ErrForm}
	}
	return impl.V4Out{Packet: p}
}

// sixOf reads by places, fault by fault in the document's order.
func sixOf(text string) impl.V6Out {
	if len(text) > 20000 {
		return impl.V6Out{Code: impl.ErrSize}
	}
	if len(text) < 40 {
		return impl.V6Out{Code: impl.ErrShort}
	}
	if text[0]/16 != 6 {
		return impl.V6Out{Code: impl.ErrSyntax}
	}
	length, piece := int(text[4])*256+int(text[5]), text[6] == 44
	if len(text)-40 < length || piece && length < 8 {
		return impl.V6Out{Code: impl.ErrShort}
	}
	p := impl.V6{Class: int64(text[0]%16)*16 + int64(text[1]/16),
		Flow: int64(text[1]%16)*65536 + int64(text[2])*256 + int64(text[3]), Next: int64(text[6]),
		Hops: int64(text[7]), Src: text[8:24], Dst: text[24:40], Data: text[40 : 40+length]}
	if piece {
		p.Piece, p.Next, p.More = true, int64(text[40]), text[43]%2 == 1
		p.Off = int64(text[42])*32 + int64(text[43]/8)
		p.Id = int64(binary.BigEndian.Uint32([]byte(text[44:48])))
		p.Data = text[48 : 40+length]
	}
	if !sixIsRight(p) {
		return impl.V6Out{Code: impl.ErrForm}
	}
	return impl.V6Out{Packet: p}
}

// clipped is the text, or how it begins, for what is told of a fault.
func clipped(text string) string {
	if len(text) <= 40 {
		return text
	}
	return fmt.Sprintf("%s .. of %d bytes", text[:40], len(text))
}

func wantFour(t *testing.T, what string, got impl.V4Out, want impl.V4Out) {
	t.Helper()
	if got != want {
		got.Packet.Data, want.Packet.Data = clipped(got.Packet.Data), clipped(want.Packet.Data)
		t.Errorf("%s: got %#v, want %#v", what, got, want)
	}
}

func wantSix(t *testing.T, what string, got impl.V6Out, want impl.V6Out) {
	t.Helper()
	if got != want {
		got.Packet.Data, want.Packet.Data = clipped(got.Packet.Data), clipped(want.Packet.Data)
		t.Errorf("%s: got %#v, want %#v", what, got, want)
	}
}

// behind are texts that may stand behind a packet of so many bytes.
func behind(count int) []string {
	return []string{"", "\x00", "\xff", "\x45\x00", filler(7), filler(1400), strings.Repeat("\x60", 1401),
		strings.Repeat("\xff", impl.MaxBytes-count)}
}

// wantFourBack holds a right packet against its bytes, and what is read from these.
func wantFourBack(t *testing.T, what string, p impl.V4) {
	t.Helper()
	wantAnswer(t, what+": right", impl.V4Right(p), true)
	text := impl.V4Bytes(p)
	wantText(t, what+": bytes", text, layFour(p))
	for _, rest := range behind(len(text)) {
		wantFour(t, fmt.Sprintf("%s: read back, %d bytes behind", what, len(rest)), impl.V4Read(text+rest), impl.V4Out{Packet: p})
	}
}

func wantSixBack(t *testing.T, what string, p impl.V6) {
	t.Helper()
	wantAnswer(t, what+": right", impl.V6Right(p), true)
	text := impl.V6Bytes(p)
	wantText(t, what+": bytes", text, laySix(p))
	for _, rest := range behind(len(text)) {
		wantSix(t, fmt.Sprintf("%s: read back, %d bytes behind", what, len(rest)), impl.V6Read(text+rest), impl.V6Out{Packet: p})
	}
}

func wantFourWrong(t *testing.T, what string, p impl.V4) {
	t.Helper()
	wantAnswer(t, what+": right", impl.V4Right(p), false)
	wantText(t, what+": bytes", impl.V4Bytes(p), "")
}

func wantSixWrong(t *testing.T, what string, p impl.V6) {
	t.Helper()
	wantAnswer(t, what+": right", impl.V6Right(p), false)
	wantText(t, what+": bytes", impl.V6Bytes(p), "")
}

// wantFourAs holds the packet for right or not, as the last one says.
func wantFourAs(t *testing.T, what string, p impl.V4, right bool) {
	t.Helper()
	if right {
		wantFourBack(t, what, p)
	} else {
		wantFourWrong(t, what, p)
	}
}

func wantSixAs(t *testing.T, what string, p impl.V6, right bool) {
	t.Helper()
	if right {
		wantSixBack(t, what, p)
	} else {
		wantSixWrong(t, what, p)
	}
}

func TestMaxData(t *testing.T) {
	wantNumber(t, "MaxData", impl.MaxData, 1400)
}

func TestBytesOfFour(t *testing.T) {
	// The header of an example that is often shown for its check, b861.
	p := impl.V4{Id: 0, Whole: true, Ttl: 64, Proto: 17, Src: "\xc0\xa8\x00\x01", Dst: "\xc0\xa8\x00\xc7", Data: filler(95)}
	wantText(t, "a header of 20 bytes", impl.V4Bytes(p)[:20],
		"\x45\x00\x00\x73\x00\x00\x40\x00\x40\x11\xb8\x61\xc0\xa8\x00\x01\xc0\xa8\x00\xc7")
	p = impl.V4{Tos: 1, Id: 515, More: true, Off: 1029, Ttl: 6, Proto: 7, Src: "abcd", Dst: "efgh",
		Options: "\x94\x04\x00\x00", Data: "datadata"}
	text := impl.V4Bytes(p)
	wantText(t, "a piece with options", text[:10]+text[12:],
		"\x46\x01\x00\x20\x02\x03\x24\x05\x06\x07abcdefgh\x94\x04\x00\x00datadata")
	wantRight(t, "its header", text[:24], true)
}

func TestBytesOfSix(t *testing.T) {
	p := impl.V6{Class: 18, Flow: 214375, Next: 17, Hops: 9, Src: "abcdefghijklmnop", Dst: "ABCDEFGHIJKLMNOP", Data: "data"}
	wantText(t, "a whole one", impl.V6Bytes(p), "\x61\x23\x45\x67\x00\x04\x11\x09abcdefghijklmnopABCDEFGHIJKLMNOPdata")
	p.Piece, p.Off, p.Id = true, 258, 16909060
	wantText(t, "the last piece", impl.V6Bytes(p),
		"\x61\x23\x45\x67\x00\x0c\x2c\x09abcdefghijklmnopABCDEFGHIJKLMNOP\x11\x00\x08\x10\x01\x02\x03\x04data")
	p.More, p.Data = true, "datadata"
	wantText(t, "a piece ahead of it", impl.V6Bytes(p),
		"\x61\x23\x45\x67\x00\x10\x2c\x09abcdefghijklmnopABCDEFGHIJKLMNOP\x11\x00\x08\x11\x01\x02\x03\x04datadata")
}

// A header whose words but the check come to 65535 has the check 0.
func TestCheckOfZero(t *testing.T) {
	p := fourPacket()
	for id := range int64(65536) {
		p.Id = id
		if text := impl.V4Bytes(p); impl.Word(text, 10) == 0 {
			wantFourBack(t, "a check of 0", p)
			wantFour(t, "the other check of 0", impl.V4Read(withWord(text, 10, 65535)), impl.V4Out{Packet: p})
			return
		}
	}
	t.Error("no Id has the check 0")
}

func TestFourNumbers(t *testing.T) {
	bytes := append([]int64{0, 1, 127, 128, 254, 255}, noBytes...)
	for what, field := range map[string]func(p *impl.V4) *int64{
		"Tos":   func(p *impl.V4) *int64 { return &p.Tos },
		"Ttl":   func(p *impl.V4) *int64 { return &p.Ttl },
		"Proto": func(p *impl.V4) *int64 { return &p.Proto },
	} {
		for _, n := range bytes {
			p := fourWith(func(p *impl.V4) { *field(p) = n })
			wantFourAs(t, fmt.Sprintf("%s %d", what, n), p, among(n, 0, 255))
		}
	}
	for _, n := range append(someWords, noWords...) {
		p := fourWith(func(p *impl.V4) { p.Id = n })
		wantFourAs(t, fmt.Sprintf("Id %d", n), p, among(n, 0, 65535))
	}
}

func TestSixNumbers(t *testing.T) {
	bytes := append([]int64{0, 1, 43, 45, 127, 128, 254, 255}, noBytes...)
	for what, field := range map[string]func(p *impl.V6) *int64{
		"Class": func(p *impl.V6) *int64 { return &p.Class },
		"Next":  func(p *impl.V6) *int64 { return &p.Next },
		"Hops":  func(p *impl.V6) *int64 { return &p.Hops },
	} {
		for _, n := range bytes {
			change := func(p *impl.V6) { *field(p) = n }
			wantSixAs(t, fmt.Sprintf("%s %d", what, n), sixWith(change), among(n, 0, 255))
			wantSixAs(t, fmt.Sprintf("%s %d of a piece", what, n), pieceWith(change), among(n, 0, 255))
		}
	}
	for _, n := range []int64{0, 1, 65535, 65536, 1048574, 1048575, 1048576, 1048577, 2097151, -1, -1048576, 1 << 32, math.MinInt64, math.MaxInt64} {
		change := func(p *impl.V6) { p.Flow = n }
		wantSixAs(t, fmt.Sprintf("Flow %d", n), sixWith(change), among(n, 0, 1048575))
		wantSixAs(t, fmt.Sprintf("Flow %d of a piece", n), pieceWith(change), among(n, 0, 1048575))
	}
	for _, n := range []int64{0, 1, 65535, 65536, 2147483648, 4294967294, 4294967295, 4294967296, 4294967297, -1, -4294967296, math.MinInt64, math.MaxInt64} {
		change := func(p *impl.V6) { p.Id = n }
		wantSixAs(t, fmt.Sprintf("Id %d", n), sixWith(change), n == 0)
		wantSixAs(t, fmt.Sprintf("Id %d of a piece", n), pieceWith(change), among(n, 0, 4294967295))
	}
}

// No V6 has the Next 44, which would tell a piece where there is none, or one within another.
func TestNextIsNoPiece(t *testing.T) {
	change := func(p *impl.V6) { p.Next = 44 }
	wantSixWrong(t, "Next 44", sixWith(change))
	wantSixWrong(t, "Next 44 of a piece", pieceWith(change))
}

func TestAddressesOfPackets(t *testing.T) {
	for _, a := range append(noAddresses(), madeAddresses(4, 20)...) {
		wantSixWrong(t, fmt.Sprintf("Src of %d bytes", len(a)), sixWith(func(p *impl.V6) { p.Src = a }))
		wantSixWrong(t, fmt.Sprintf("Dst of %d bytes", len(a)), sixWith(func(p *impl.V6) { p.Dst = a }))
	}
	for _, a := range append(noAddresses(), madeAddresses(16, 20)...) {
		wantFourWrong(t, fmt.Sprintf("Src of %d bytes", len(a)), fourWith(func(p *impl.V4) { p.Src = a }))
		wantFourWrong(t, fmt.Sprintf("Dst of %d bytes", len(a)), fourWith(func(p *impl.V4) { p.Dst = a }))
	}
	for _, a := range madeAddresses(4, 20) {
		wantFourBack(t, "an address of four", fourWith(func(p *impl.V4) { p.Src = a }))
		wantFourBack(t, "an address of four", fourWith(func(p *impl.V4) { p.Dst = a }))
	}
	for _, a := range madeAddresses(16, 20) {
		wantSixBack(t, "an address of six", sixWith(func(p *impl.V6) { p.Src = a }))
		wantSixBack(t, "an address of six", pieceWith(func(p *impl.V6) { p.Dst = a }))
	}
	// Together these have as many bytes as two right ones.
	wantFourWrong(t, "lengths of 3 and 5", fourWith(func(p *impl.V4) { p.Src, p.Dst = "abc", "defgh" }))
	wantSixWrong(t, "lengths of 15 and 17", sixWith(func(p *impl.V6) { p.Src, p.Dst = filler(15), filler(17) }))
}

func TestOptions(t *testing.T) {
	for _, data := range []string{"", "d", filler(impl.MaxData)} {
		for n := range 70 {
			p := fourWith(func(p *impl.V4) { p.Options, p.Data = filler(n), data })
			wantFourAs(t, fmt.Sprintf("options of %d bytes", n), p, n <= 40 && n%4 == 0)
		}
	}
	for _, n := range []int{256, 320, 1024, impl.MaxBytes, impl.MaxBytes + 4} {
		wantFourWrong(t, fmt.Sprintf("options of %d bytes", n), fourWith(func(p *impl.V4) { p.Options = filler(n) }))
	}
}

func TestLengthsOfData(t *testing.T) {
	for _, n := range []int{0, 1, 2, 7, 8, 9, 255, 256, 257, 1391, 1392, 1393, 1399, 1400, 1401, 1407, 1408, 65536, 70000} {
		what := fmt.Sprintf("%d bytes", n)
		right := n <= impl.MaxData
		wantFourAs(t, what, fourWith(func(p *impl.V4) { p.Data = filler(n) }), right)
		wantFourAs(t, what+", whole", fourWith(func(p *impl.V4) { p.Whole, p.Data = true, filler(n) }), right)
		wantFourAs(t, what+", the last piece", fourWith(func(p *impl.V4) { p.Off, p.Data = 7, filler(n) }), right)
		wantFourAs(t, what+", more", fourWith(func(p *impl.V4) { p.More, p.Data = true, filler(n) }), right && n%8 == 0)
		wantSixAs(t, what, sixWith(func(p *impl.V6) { p.Data = filler(n) }), right)
		wantSixAs(t, what+", the last piece", pieceWith(func(p *impl.V6) { p.More, p.Data = false, filler(n) }), right)
		wantSixAs(t, what+", more", pieceWith(func(p *impl.V6) { p.Data = filler(n) }), right && n%8 == 0)
	}
}

// Pieces of IPv4 end at 65515 at most: 8189 times 8 and 3.
func TestEndsOfFourPieces(t *testing.T) {
	for _, c := range []struct {
		off   int64
		count int
		more  bool
		right bool
	}{
		{8189, 3, false, true}, {8189, 4, false, false}, {8189, 0, false, true}, {8189, 0, true, true},
		{8189, 8, true, false}, {8188, 8, true, true}, {8188, 11, false, true}, {8188, 12, false, false},
		{8188, 16, true, false}, {8190, 0, false, false}, {8190, 0, true, false}, {8191, 0, false, false},
		{8191, 0, true, false}, {8192, 0, false, false}, {8192, 8, true, false}, {-1, 0, false, false},
		{-1, 16, true, false}, {1, 0, false, true}, {1, 7, true, false}, {0, 8, true, true},
		{8014, 1400, false, true}, {8014, 1400, true, true}, {8015, 1395, false, true}, {8015, 1396, false, false},
		{8015, 1392, true, true}, {8015, 1400, true, false}, {65535, 0, false, false},
		{1 << 61, 0, false, false}, {1 << 60, 8, true, false}, {math.MinInt64, 8, true, false}, {math.MaxInt64, 8, true, false},
	} {
		p := fourWith(func(p *impl.V4) { p.Off, p.More, p.Data = c.off, c.more, filler(c.count) })
		wantFourAs(t, fmt.Sprintf("Off %d, %d bytes, more %v", c.off, c.count, c.more), p, c.right)
		p.Options = filler(40)
		wantFourAs(t, fmt.Sprintf("Off %d, %d bytes, more %v, options", c.off, c.count, c.more), p, c.right)
	}
}

// Pieces of IPv6 end at 65535 at most: 8191 times 8 and 7.
func TestEndsOfSixPieces(t *testing.T) {
	for _, c := range []struct {
		off   int64
		count int
		more  bool
		right bool
	}{
		{8191, 7, false, true}, {8191, 8, false, false}, {8191, 0, false, true}, {8191, 0, true, true},
		{8191, 8, true, false}, {8191, 7, true, false}, {8190, 8, true, true}, {8190, 15, false, true},
		{8190, 16, false, false}, {8190, 16, true, false}, {8192, 0, false, false}, {8192, 0, true, false},
		{-1, 0, false, false}, {-1, 16, true, false}, {1, 0, false, true}, {1, 7, true, false}, {0, 8, true, true},
		{0, 0, false, true}, {8016, 1400, true, true}, {8017, 1399, false, true}, {8017, 1400, false, false},
		{8017, 1392, true, true}, {8017, 1400, true, false}, {65535, 0, false, false},
		{1 << 61, 0, false, false}, {1 << 60, 8, true, false}, {math.MinInt64, 8, true, false}, {math.MaxInt64, 8, true, false},
	} {
		p := pieceWith(func(p *impl.V6) { p.Off, p.More, p.Data = c.off, c.more, filler(c.count) })
		wantSixAs(t, fmt.Sprintf("Off %d, %d bytes, more %v", c.off, c.count, c.more), p, c.right)
	}
}

func TestWholeBesideMoreOrOff(t *testing.T) {
	for _, off := range []int64{0, 1, 2, 8188} {
		for _, more := range []bool{false, true} {
			p := fourWith(func(p *impl.V4) { p.Whole, p.More, p.Off, p.Data = true, more, off, filler(8) })
			wantFourAs(t, fmt.Sprintf("Whole, Off %d, more %v", off, more), p, off == 0 && !more)
			p.Whole = false
			wantFourBack(t, fmt.Sprintf("Off %d, more %v", off, more), p)
		}
	}
}

func TestSixThatIsNoPiece(t *testing.T) {
	wantSixWrong(t, "More", sixWith(func(p *impl.V6) { p.More = true }))
	wantSixWrong(t, "More without data", sixWith(func(p *impl.V6) { p.More, p.Data = true, "" }))
	wantSixWrong(t, "Off", sixWith(func(p *impl.V6) { p.Off = 1 }))
	wantSixWrong(t, "Off below 0", sixWith(func(p *impl.V6) { p.Off = -1 }))
	wantSixWrong(t, "Id", sixWith(func(p *impl.V6) { p.Id = 1 }))
	wantSixWrong(t, "all of them", pieceWith(func(p *impl.V6) { p.Piece = false }))
	wantSixBack(t, "a piece that is the whole", sixWith(func(p *impl.V6) { p.Piece = true }))
}

func TestZeroPackets(t *testing.T) {
	wantFourWrong(t, "the zero V4", impl.V4{})
	wantSixWrong(t, "the zero V6", impl.V6{})
	wantFourBack(t, "nothing but addresses", impl.V4{Src: "\x00\x00\x00\x00", Dst: "\x00\x00\x00\x00"})
	zero := strings.Repeat("\x00", 16)
	wantSixBack(t, "nothing but addresses", impl.V6{Src: zero, Dst: zero})
	wantSixBack(t, "nothing but addresses, a piece", impl.V6{Src: zero, Dst: zero, Piece: true})
}

func TestFullPackets(t *testing.T) {
	ones, data := strings.Repeat("\xff", 16), strings.Repeat("\xff", impl.MaxData)
	p := impl.V4{Tos: 255, Id: 65535, More: true, Off: 8014, Ttl: 255, Proto: 255, Src: ones[:4], Dst: ones[:4],
		Options: strings.Repeat("\xff", 40), Data: data}
	wantFourBack(t, "all ones", p)
	p.More, p.Off, p.Whole = false, 0, true
	wantFourBack(t, "all ones, whole", p)
	q := impl.V6{Class: 255, Flow: 1048575, Next: 255, Hops: 255, Src: ones, Dst: ones, Data: data}
	wantSixBack(t, "all ones", q)
	q.Piece, q.More, q.Off, q.Id = true, true, 8016, 4294967295
	wantSixBack(t, "all ones, a piece", q)
}

// fourExamples are right ones, of each kind of header.
func fourExamples() []impl.V4 {
	return []impl.V4{
		fourPacket(),
		fourWith(func(p *impl.V4) { p.Data = "" }),
		fourWith(func(p *impl.V4) { p.Whole, p.Options = true, filler(4) }),
		fourWith(func(p *impl.V4) { p.More, p.Options, p.Data = true, filler(40), filler(8) }),
		fourWith(func(p *impl.V4) { p.Off, p.Data = 8189, "end" }),
	}
}

func sixExamples() []impl.V6 {
	return []impl.V6{
		sixPacket(),
		sixWith(func(p *impl.V6) { p.Data = "" }),
		sixPiece(),
		pieceWith(func(p *impl.V6) { p.More, p.Data = false, "" }),
		pieceWith(func(p *impl.V6) { p.More, p.Off, p.Data = false, 8191, "the end" }),
	}
}

// turnedAt is the text with another byte at that place, by exclusive or.
func turnedAt(text string, at int, by int) string {
	return text[:at] + string([]byte{text[at] ^ byte(by)}) + text[at+1:]
}

func TestTextsCutShort(t *testing.T) {
	for _, p := range fourExamples() {
		text := impl.V4Bytes(p)
		for n := range len(text) {
			wantFour(t, fmt.Sprintf("%d bytes of %d", n, len(text)), impl.V4Read(text[:n]), impl.V4Out{Code: impl.ErrShort})
		}
	}
	for _, p := range sixExamples() {
		text := impl.V6Bytes(p)
		for n := range len(text) {
			wantSix(t, fmt.Sprintf("%d bytes of %d", n, len(text)), impl.V6Read(text[:n]), impl.V6Out{Code: impl.ErrShort})
		}
	}
}

// Each byte of each header becomes each other one: alone, and with a check of IPv4 that is right again.
func TestHeadersTurned(t *testing.T) {
	met := map[int64]int{}
	for _, p := range fourExamples() {
		text := impl.V4Bytes(p)
		header := 20 + len(p.Options)
		for at := range header {
			for by := 1; by < 256; by++ {
				turned := turnedAt(text, at, by)
				again := withCheck(turned[:header], 10) + turned[header:]
				for _, rest := range []string{"", filler(60)} {
					for _, whole := range []string{turned + rest, again + rest} {
						got := impl.V4Read(whole)
						wantFour(t, fmt.Sprintf("the byte at %d turned by %d", at, by), got, fourOf(whole))
						met[got.Code]++
					}
				}
			}
		}
	}
	for _, code := range []int64{impl.OK, impl.ErrSyntax, impl.ErrShort, impl.ErrSum, impl.ErrForm} {
		if met[code] == 0 {
			t.Errorf("no byte that was turned had the code %d", code)
		}
	}
}

func TestSixHeadersTurned(t *testing.T) {
	met := map[int64]int{}
	for _, p := range sixExamples() {
		text := impl.V6Bytes(p)
		for at := range len(text) {
			for by := 1; by < 256; by++ {
				for _, rest := range []string{"", filler(60)} {
					whole := turnedAt(text, at, by) + rest
					got := impl.V6Read(whole)
					wantSix(t, fmt.Sprintf("the byte at %d turned by %d", at, by), got, sixOf(whole))
					met[got.Code]++
				}
			}
		}
	}
	for _, code := range []int64{impl.OK, impl.ErrSyntax, impl.ErrShort, impl.ErrForm} {
		if met[code] == 0 {
			t.Errorf("no byte that was turned had the code %d", code)
		}
	}
}

// A byte of IPv4's header that is turned alone is never read as if nothing had been.
func TestSumOfHeader(t *testing.T) {
	for _, p := range fourExamples() {
		text := impl.V4Bytes(p)
		for at := range 20 + len(p.Options) {
			if code := impl.V4Read(turnedAt(text, at, 1) + filler(300)).Code; code == impl.OK {
				t.Errorf("the byte at %d turned: read all the same", at)
			}
		}
		for at := 20 + len(p.Options); at < len(text); at++ {
			wantNumber(t, "a byte of the data turned", impl.V4Read(turnedAt(text, at, 255)).Code, impl.OK)
		}
	}
}

func TestLongTexts(t *testing.T) {
	four, six := impl.V4Bytes(fourPacket()), impl.V6Bytes(sixPiece())
	most := filler(impl.MaxBytes)
	wantFour(t, "MaxBytes bytes", impl.V4Read(four+most[len(four):]), impl.V4Out{Packet: fourPacket()})
	wantSix(t, "MaxBytes bytes", impl.V6Read(six+most[len(six):]), impl.V6Out{Packet: sixPiece()})
	wantFour(t, "MaxBytes bytes of nothing", impl.V4Read(most), impl.V4Out{Code: impl.ErrSyntax})
	wantSix(t, "MaxBytes bytes of nothing", impl.V6Read(most), impl.V6Out{Code: impl.ErrSyntax})
	for _, n := range []int{impl.MaxBytes + 1, impl.MaxBytes + 2, 70000} {
		rest := filler(n)
		wantFour(t, "too long", impl.V4Read(four+rest[len(four):]), impl.V4Out{Code: impl.ErrSize})
		wantSix(t, "too long", impl.V6Read(six+rest[len(six):]), impl.V6Out{Code: impl.ErrSize})
		wantFour(t, "too long, of nothing", impl.V4Read(rest), impl.V4Out{Code: impl.ErrSize})
		wantSix(t, "too long, of nothing", impl.V6Read(rest), impl.V6Out{Code: impl.ErrSize})
	}
	// As long as a text may be, and yet shorter than it is to be.
	long := impl.WordBytes(impl.MaxBytes + 1)
	wantFour(t, "one byte too few", impl.V4Read(withCheck(four[:2]+long+four[4:20], 10)+most[20:]), impl.V4Out{Code: impl.ErrShort})
	long = impl.WordBytes(impl.MaxBytes - 39)
	wantSix(t, "one byte too few", impl.V6Read(six[:4]+long+six[6:40]+most[40:]), impl.V6Out{Code: impl.ErrShort})
}

// Faults of IPv4, each beside one that the document names later.
func TestFourFaultsMeet(t *testing.T) {
	header := impl.V4Bytes(fourWith(func(p *impl.V4) { p.Data = "" }))
	options := impl.V4Bytes(fourWith(func(p *impl.V4) { p.Options, p.Data = filler(8), filler(9) }))
	form := func(word int64, count int) string {
		return withCheck(withWord(withWord(header, 2, int64(20+count)), 6, word), 10) + filler(count)
	}
	for _, c := range []struct {
		what string
		text string
		code int64
	}{
		{"too long, too short for its length", "\x4f" + strings.Repeat("\xff", impl.MaxBytes), impl.ErrSize},
		{"too long, not 4", strings.Repeat("\x00", impl.MaxBytes+1), impl.ErrSize},
		{"nothing", "", impl.ErrShort},
		{"19 bytes, not 4", "\x65" + header[1:19], impl.ErrShort},
		{"19 bytes, header below 5", "\x44" + header[1:19], impl.ErrShort},
		{"19 bytes, whole below the header", withWord(header, 2, 19)[:19], impl.ErrShort},
		{"19 bytes, barred bit", withWord(header, 6, 32768)[:19], impl.ErrShort},
		{"20 bytes, not 4", "\x65" + header[1:], impl.ErrSyntax},
		{"not 4, and the length not there", "\x5f" + options[1:24], impl.ErrSyntax},
		{"header of 4 fours, the whole not there", "\x44" + options[1:24], impl.ErrSyntax},
		{"header of no fours, whole 0", "\x40" + header[1:2] + "\x00\x00" + header[4:], impl.ErrSyntax},
		{"whole below the header, the header not there", withWord(options, 2, 27)[:24], impl.ErrSyntax},
		{"whole 0", withWord(header, 2, 0), impl.ErrSyntax},
		{"barred bit, the whole not there", withWord(options, 6, 32768)[:30], impl.ErrSyntax},
		{"barred bit, the sum wrong", withWord(header, 6, 32768), impl.ErrSyntax},
		{"barred bit, the sum right", withCheck(withWord(header, 6, 32768), 10), impl.ErrSyntax},
		{"barred bit, the form wrong", form(57345, 7), impl.ErrSyntax},
		{"the header not there, the sum wrong", withWord(options, 4, 1)[:27], impl.ErrShort},
		{"the whole not there, the sum wrong", withWord(options, 4, 1)[:36], impl.ErrShort},
		{"the whole not there, the form wrong", form(24576, 1401)[:1420], impl.ErrShort},
		{"65535 bytes that are not there", withCheck(withWord(header, 2, 65535), 10) + filler(1400), impl.ErrShort},
		{"the sum wrong, the form wrong", withWord(form(24576, 8), 4, 1), impl.ErrSum},
		{"the sum wrong, too much data", withWord(form(0, 1401), 4, 1), impl.ErrSum},
		{"Whole and More", form(24576, 8), impl.ErrForm},
		{"Whole and Off", form(16385, 8), impl.ErrForm},
		{"More, 7 bytes", form(8192, 7), impl.ErrForm},
		{"too much data", form(0, 1401), impl.ErrForm},
		{"more than 65515", form(8189, 4), impl.ErrForm},
		{"as much data as may be", form(0, 1400), impl.OK},
		{"just 65515", form(8189, 3), impl.OK},
	} {
		got := impl.V4Read(c.text)
		wantNumber(t, c.what, got.Code, c.code)
		if got.Code != impl.OK && got.Packet != (impl.V4{}) {
			t.Errorf("%s: a packet beside a code: %#v", c.what, got.Packet)
		}
	}
}

// Faults of IPv6, each beside one that the document names later.
func TestSixFaultsMeet(t *testing.T) {
	whole := impl.V6Bytes(sixWith(func(p *impl.V6) { p.Data = "" }))
	piece := impl.V6Bytes(pieceWith(func(p *impl.V6) { p.Data = filler(16) }))
	form := func(next int64, word int64, count int) string {
		start := withWord(piece[:40], 4, int64(8+count)) + string([]byte{byte(next), 0}) + impl.WordBytes(word)
		return start + piece[44:48] + filler(count)
	}
	for _, c := range []struct {
		what string
		text string
		code int64
	}{
		{"too long, too short for its length", "\x60" + strings.Repeat("\xff", impl.MaxBytes), impl.ErrSize},
		{"too long, not 6", strings.Repeat("\x00", impl.MaxBytes+1), impl.ErrSize},
		{"nothing", "", impl.ErrShort},
		{"39 bytes, not 6", "\x40" + whole[1:39], impl.ErrShort},
		{"39 bytes of a piece", piece[:39], impl.ErrShort},
		{"40 bytes, not 6", "\x40" + whole[1:], impl.ErrSyntax},
		{"not 6, the length not there", "\x7f" + piece[1:50], impl.ErrSyntax},
		{"not 6, a piece of 7 bytes", "\x50" + withWord(piece, 4, 7)[1:], impl.ErrSyntax},
		{"the length not there, the form wrong", form(6, 1, 1401)[:1448], impl.ErrShort},
		{"the length not there, 44 again", form(44, 1, 8)[:55], impl.ErrShort},
		{"65535 bytes that are not there", withWord(whole, 4, 65535) + filler(1400), impl.ErrShort},
		{"a piece of 0 bytes", withWord(piece, 4, 0), impl.ErrShort},
		{"a piece of 7 bytes", withWord(piece, 4, 7), impl.ErrShort},
		{"a piece of 7 bytes, 44 again", withWord(form(44, 1, 8), 4, 7), impl.ErrShort},
		{"a piece of 8 bytes", withWord(piece, 4, 8), impl.OK},
		{"a piece of 9 bytes, more", withWord(piece, 4, 9), impl.ErrForm},
		{"44 again", form(44, 1, 8), impl.ErrForm},
		{"More, 7 bytes", form(6, 1, 7), impl.ErrForm},
		{"too much data of a piece", form(6, 0, 1401), impl.ErrForm},
		{"too much data", withWord(whole, 4, 1401) + filler(1401), impl.ErrForm},
		{"more than 65535", form(6, 65528, 8), impl.ErrForm},
		{"as much data as may be", withWord(whole, 4, 1400) + filler(1401), impl.OK},
		{"as much data of a piece as may be", form(6, 1, 1400), impl.OK},
		{"just 65535", form(6, 65528, 7), impl.OK},
	} {
		got := impl.V6Read(c.text)
		wantNumber(t, c.what, got.Code, c.code)
		if got.Code != impl.OK && got.Packet != (impl.V6{}) {
			t.Errorf("%s: a packet beside a code: %#v", c.what, got.Packet)
		}
	}
}

// The byte behind a piece's Next, and the two bits behind its Off, count for nothing.
func TestBitsThatCountForNothing(t *testing.T) {
	for _, p := range sixExamples()[2:] {
		text := impl.V6Bytes(p)
		for by := range 256 {
			for _, bits := range []int{0, 2, 4, 6} {
				got := impl.V6Read(turnedAt(turnedAt(text, 41, by), 43, bits))
				wantSix(t, fmt.Sprintf("the byte turned by %d, the bits by %d", by, bits), got, impl.V6Out{Packet: p})
			}
		}
	}
}

// dice are numbers that are always the same ones.
type dice uint32

func (d *dice) upTo(most int64) int64 {
	*d = *d*1664525 + 1013904223
	high := int64(*d >> 8)
	*d = *d*1664525 + 1013904223
	return (high<<24 | int64(*d>>8)) % (most + 1)
}

func (d *dice) yes() bool {
	return d.upTo(1) == 1
}

func (d *dice) text(count int64) string {
	text := make([]byte, count)
	for i := range text {
		text[i] = byte(d.upTo(255))
	}
	return string(text)
}

func (d *dice) four() impl.V4 {
	p := impl.V4{Tos: d.upTo(255), Id: d.upTo(65535), Whole: d.upTo(3) == 0, Ttl: d.upTo(255), Proto: d.upTo(255),
		Src: d.text(4), Dst: d.text(4), Options: d.text(4 * d.upTo(10)), Data: d.text(d.upTo(80))}
	if d.yes() {
		p.More, p.Off = d.yes(), d.upTo(8191)
	}
	return p
}

func (d *dice) six() impl.V6 {
	p := impl.V6{Class: d.upTo(255), Flow: d.upTo(1048575), Next: d.upTo(255), Hops: d.upTo(255),
		Src: d.text(16), Dst: d.text(16), Data: d.text(d.upTo(80)), Piece: d.yes()}
	if d.upTo(3) > 0 {
		p.More, p.Off, p.Id = d.yes(), d.upTo(8192), d.upTo(4294967296)
	}
	return p
}

func TestMadePackets(t *testing.T) {
	d := dice(4)
	right := [2]int{}
	for range 1500 {
		p, q := d.four(), d.six()
		wantFourAs(t, fmt.Sprintf("%#v", p), p, fourIsRight(p))
		wantSixAs(t, fmt.Sprintf("%#v", q), q, sixIsRight(q))
		if fourIsRight(p) {
			right[0]++
		}
		if sixIsRight(q) {
			right[1]++
		}
	}
	if right[0] < 300 || right[1] < 300 {
		t.Errorf("only %v packets were right", right)
	}
}

// Texts of bytes by chance, under headers that are begun well: what is read is told by the bytes alone.
func TestMadeTexts(t *testing.T) {
	d := dice(5)
	for range 4000 {
		four := string([]byte{byte(68 + d.upTo(4)), 0, 0, byte(d.upTo(80))}) + d.text(d.upTo(76))
		if header := 4 * int(four[0]%16); d.yes() && len(four) >= header {
			four = withCheck(four[:header], 10) + four[header:]
		}
		wantFour(t, fmt.Sprintf("%q", four), impl.V4Read(four), fourOf(four))
		six := "\x6f" + d.text(3) + "\x00" + string([]byte{byte(d.upTo(50)), byte(42 + d.upTo(3))}) + d.text(d.upTo(90))
		wantSix(t, fmt.Sprintf("%q", six), impl.V6Read(six), sixOf(six))
	}
	for _, text := range madeTexts() {
		wantFour(t, fmt.Sprintf("%.80q", text), impl.V4Read(text), fourOf(text))
		wantSix(t, fmt.Sprintf("%.80q", text), impl.V6Read(text), sixOf(text))
	}
}

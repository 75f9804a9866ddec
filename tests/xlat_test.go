package tests

import (
	"fmt"
	"math"
	"slices"
	"strings"
	"testing"

	"loop.example/g00314/impl"
)

// The ends that packets are turned to in these tests, of both kinds.
var (
	fourFrom = addressOf("203.0.113.7")
	fourTo   = addressOf("198.51.100.200")
	sixFrom  = addressOf("2001:db8:1:2:3:4:5:6")
	sixTo    = addressOf("64:ff9b::c000:221")
)

// pieceIds are the numbers of pieces at the edges of 16 bits and of 32, and some between.
var pieceIds = []int64{0, 1, 255, 256, 65534, 65535, 65536, 65537, 131071, 131072, 2147483648, 4294901760, 4294967294, 4294967295}

// turnedToFour goes by the document's words, fault by fault in their order.
func turnedToFour(p impl.V6, src string, dst string) impl.V4Out {
	switch {
	case len(src) > 20000, len(dst) > 20000:
		return impl.V4Out{Code: impl.ErrSize}
	case !sixIsRight(p), len(src) != 4, len(dst) != 4:
		return impl.V4Out{Code: impl.ErrForm}
	}
	q := impl.V4{Tos: p.Class, Whole: true, Ttl: p.Hops, Proto: p.Next, Src: src, Dst: dst, Data: p.Data}
	if p.Next == 58 {
		q.Proto = 1
	}
	if p.Piece {
		q.Whole, q.Id, q.Off, q.More = false, p.Id%65536, p.Off, p.More
	}
	if !fourIsRight(q) {
		return impl.V4Out{Code: impl.ErrForm}
	}
	return impl.V4Out{Packet: q}
}

// turnedToSix goes by the document's words, as turnedToFour does.
func turnedToSix(p impl.V4, src string, dst string) impl.V6Out {
	switch {
	case len(src) > 20000, len(dst) > 20000:
		return impl.V6Out{Code: impl.ErrSize}
	case !fourIsRight(p), len(src) != 16, len(dst) != 16:
		return impl.V6Out{Code: impl.ErrForm}
	}
	q := impl.V6{Class: p.Tos, Next: p.Proto, Hops: p.Ttl, Src: src, Dst: dst, Data: p.Data}
	if p.Proto == 1 {
		q.Next = 58
	}
	if p.More || p.Off > 0 {
		q.Piece, q.Off, q.More, q.Id = true, p.Off, p.More, p.Id
	}
	if !sixIsRight(q) {
		return impl.V6Out{Code: impl.ErrForm}
	}
	return impl.V6Out{Packet: q}
}

// keptBySix is what is left of a packet of IPv6 that was turned to IPv4 and back.
func keptBySix(p impl.V6) impl.V6 {
	p.Flow = 0
	if p.Next == 1 {
		p.Next = 58
	}
	p.Id %= 65536
	if !p.More && p.Off == 0 {
		p.Piece, p.Id = false, 0
	}
	return p
}

// keptByFour is what is left of a packet of IPv4 that was turned to IPv6 and back.
func keptByFour(p impl.V4) impl.V4 {
	p.Options = ""
	if p.Proto == 58 {
		p.Proto = 1
	}
	if !p.More && p.Off == 0 {
		p.Whole, p.Id = true, 0
	}
	return p
}

// wantAsFour holds an answer against the one that was written by hand, and against the reckoned one.
func wantAsFour(t *testing.T, what string, p impl.V6, src string, dst string, want impl.V4Out) {
	t.Helper()
	wantFour(t, "ToFour: "+what, impl.ToFour(p, src, dst), want)
	wantFour(t, "ToFour: "+what+" (as reckoned)", turnedToFour(p, src, dst), want)
}

func wantAsSix(t *testing.T, what string, p impl.V4, src string, dst string, want impl.V6Out) {
	t.Helper()
	wantSix(t, "ToSix: "+what, impl.ToSix(p, src, dst), want)
	wantSix(t, "ToSix: "+what+" (as reckoned)", turnedToSix(p, src, dst), want)
}

// wantNoFour asks for a code alone: the packet beside it is empty.
func wantNoFour(t *testing.T, what string, p impl.V6, src string, dst string, code int64) {
	t.Helper()
	wantAsFour(t, what, p, src, dst, impl.V4Out{Code: code})
}

func wantNoSix(t *testing.T, what string, p impl.V4, src string, dst string, code int64) {
	t.Helper()
	wantAsSix(t, what, p, src, dst, impl.V6Out{Code: code})
}

// wantSixTurned asks for promise 17 of a packet of IPv6: there, back, and there again.
func wantSixTurned(t *testing.T, what string, p impl.V6) {
	t.Helper()
	what = fmt.Sprintf("%s (%d, piece %v, more %v, off %d, id %d)", what, p.Next, p.Piece, p.More, p.Off, p.Id)
	four := impl.ToFour(p, fourFrom, fourTo)
	wantFour(t, what+": there", four, turnedToFour(p, fourFrom, fourTo))
	wantNumber(t, what+": code", four.Code, impl.OK)
	wantAnswer(t, what+": right", impl.V4Right(four.Packet), true)
	back := impl.ToSix(four.Packet, p.Src, p.Dst)
	wantSix(t, what+": back", back, impl.V6Out{Packet: keptBySix(p)})
	again := impl.ToSix(impl.ToFour(back.Packet, fourFrom, fourTo).Packet, p.Src, p.Dst)
	wantSix(t, what+": there and back again", again, back)
}

// wantFourTurned asks for promise 17 of a packet of IPv4.
func wantFourTurned(t *testing.T, what string, p impl.V4) {
	t.Helper()
	what = fmt.Sprintf("%s (%d, whole %v, more %v, off %d, id %d)", what, p.Proto, p.Whole, p.More, p.Off, p.Id)
	six := impl.ToSix(p, sixFrom, sixTo)
	wantSix(t, what+": there", six, turnedToSix(p, sixFrom, sixTo))
	wantNumber(t, what+": code", six.Code, impl.OK)
	wantAnswer(t, what+": right", impl.V6Right(six.Packet), true)
	back := impl.ToFour(six.Packet, p.Src, p.Dst)
	wantFour(t, what+": back", back, impl.V4Out{Packet: keptByFour(p)})
	again := impl.ToFour(impl.ToSix(back.Packet, sixFrom, sixTo).Packet, p.Src, p.Dst)
	wantFour(t, what+": there and back again", again, back)
}

func TestToFourByHand(t *testing.T) {
	src, dst := "abcdefghijklmnop", "ABCDEFGHIJKLMNOP"
	for _, c := range []struct {
		what string
		p    impl.V6
		want impl.V4
	}{
		{"TCP", impl.V6{Class: 5, Flow: 9, Next: 6, Hops: 7, Src: src, Dst: dst, Data: "data"},
			impl.V4{Tos: 5, Whole: true, Ttl: 7, Proto: 6, Src: "1234", Dst: "5678", Data: "data"}},
		{"UDP", impl.V6{Class: 255, Flow: 1048575, Next: 17, Hops: 255, Src: src, Dst: dst, Data: "d"},
			impl.V4{Tos: 255, Whole: true, Ttl: 255, Proto: 17, Src: "1234", Dst: "5678", Data: "d"}},
		{"ICMPv6", impl.V6{Next: 58, Src: src, Dst: dst, Data: "\x80\x00\x00\x00\x00\x07\x00\x01"},
			impl.V4{Whole: true, Proto: 1, Src: "1234", Dst: "5678", Data: "\x80\x00\x00\x00\x00\x07\x00\x01"}},
		{"ICMP within six", impl.V6{Next: 1, Hops: 1, Src: src, Dst: dst},
			impl.V4{Whole: true, Ttl: 1, Proto: 1, Src: "1234", Dst: "5678"}},
		{"another proto", impl.V6{Next: 47, Hops: 1, Src: src, Dst: dst, Data: "data"},
			impl.V4{Whole: true, Ttl: 1, Proto: 47, Src: "1234", Dst: "5678", Data: "data"}},
		{"the first piece", impl.V6{Class: 1, Next: 17, Hops: 2, Src: src, Dst: dst, Piece: true, More: true, Id: 65535, Data: "datadata"},
			impl.V4{Tos: 1, Id: 65535, More: true, Ttl: 2, Proto: 17, Src: "1234", Dst: "5678", Data: "datadata"}},
		{"a piece in the midst", impl.V6{Flow: 3, Next: 58, Hops: 2, Src: src, Dst: dst, Piece: true, More: true, Off: 5, Id: 65536, Data: "datadata"},
			impl.V4{More: true, Off: 5, Ttl: 2, Proto: 1, Src: "1234", Dst: "5678", Data: "datadata"}},
		{"the last piece", impl.V6{Next: 6, Hops: 2, Src: src, Dst: dst, Piece: true, Off: 8189, Id: 65537, Data: "end"},
			impl.V4{Id: 1, Off: 8189, Ttl: 2, Proto: 6, Src: "1234", Dst: "5678", Data: "end"}},
		{"a piece that is all", impl.V6{Next: 6, Hops: 2, Src: src, Dst: dst, Piece: true, Id: 4294967295, Data: "all"},
			impl.V4{Id: 65535, Ttl: 2, Proto: 6, Src: "1234", Dst: "5678", Data: "all"}},
		{"a piece without anything", impl.V6{Src: src, Dst: dst, Piece: true}, impl.V4{Src: "1234", Dst: "5678"}},
		{"nothing but addresses", impl.V6{Src: src, Dst: dst}, impl.V4{Whole: true, Src: "1234", Dst: "5678"}},
	} {
		wantAsFour(t, c.what, c.p, "1234", "5678", impl.V4Out{Packet: c.want})
	}
}

func TestToSixByHand(t *testing.T) {
	src, dst := "abcdefghijklmnop", "ABCDEFGHIJKLMNOP"
	for _, c := range []struct {
		what string
		p    impl.V4
		want impl.V6
	}{
		{"TCP", impl.V4{Tos: 5, Whole: true, Ttl: 7, Proto: 6, Src: "1234", Dst: "5678", Data: "data"},
			impl.V6{Class: 5, Next: 6, Hops: 7, Src: src, Dst: dst, Data: "data"}},
		{"UDP with options", impl.V4{Tos: 255, Id: 9, Ttl: 255, Proto: 17, Src: "1234", Dst: "5678", Options: "\x94\x04\x00\x00", Data: "d"},
			impl.V6{Class: 255, Next: 17, Hops: 255, Src: src, Dst: dst, Data: "d"}},
		{"ICMP", impl.V4{Id: 65535, Whole: true, Proto: 1, Src: "1234", Dst: "5678", Data: "\x08\x00\x00\x00\x00\x07\x00\x01"},
			impl.V6{Next: 58, Src: src, Dst: dst, Data: "\x08\x00\x00\x00\x00\x07\x00\x01"}},
		{"ICMPv6 within four", impl.V4{Ttl: 1, Proto: 58, Src: "1234", Dst: "5678"},
			impl.V6{Next: 58, Hops: 1, Src: src, Dst: dst}},
		{"another proto", impl.V4{Ttl: 1, Proto: 47, Src: "1234", Dst: "5678", Data: "data"},
			impl.V6{Next: 47, Hops: 1, Src: src, Dst: dst, Data: "data"}},
		{"the first piece", impl.V4{Tos: 1, Id: 65535, More: true, Ttl: 2, Proto: 17, Src: "1234", Dst: "5678", Data: "datadata"},
			impl.V6{Class: 1, Next: 17, Hops: 2, Src: src, Dst: dst, Piece: true, More: true, Id: 65535, Data: "datadata"}},
		{"a piece in the midst", impl.V4{Id: 3, More: true, Off: 5, Ttl: 2, Proto: 1, Src: "1234", Dst: "5678", Options: "\x01\x01\x01\x00", Data: "datadata"},
			impl.V6{Next: 58, Hops: 2, Src: src, Dst: dst, Piece: true, More: true, Off: 5, Id: 3, Data: "datadata"}},
		{"the last piece", impl.V4{Off: 8189, Ttl: 2, Proto: 6, Src: "1234", Dst: "5678", Data: "end"},
			impl.V6{Next: 6, Hops: 2, Src: src, Dst: dst, Piece: true, Off: 8189, Data: "end"}},
		{"nothing but addresses", impl.V4{Src: "1234", Dst: "5678"}, impl.V6{Src: src, Dst: dst}},
	} {
		wantAsSix(t, c.what, c.p, src, dst, impl.V6Out{Packet: c.want})
	}
}

// spans are choices of More and Off with lengths of Data that are right for pieces of both kinds.
var spans = []struct {
	more  bool
	off   int64
	count int
}{
	{false, 0, 0}, {false, 0, 1}, {false, 0, 37}, {false, 0, 1400}, {true, 0, 0}, {true, 0, 8}, {true, 0, 1400},
	{false, 1, 0}, {false, 1, 3}, {true, 1, 16}, {true, 4095, 24}, {false, 4096, 25}, {false, 8014, 1400}, {true, 8014, 1400},
	{false, 8015, 1395}, {true, 8015, 1392}, {true, 8188, 8}, {false, 8188, 11}, {false, 8189, 3}, {true, 8189, 0},
}

// Promise 17 of packets of IPv6: of each proto, with and without a Piece, each More and Off, each number of a piece.
func TestSixTurnedAndBack(t *testing.T) {
	for _, next := range []int64{impl.Tcp, impl.Udp, impl.Icmp6, impl.Icmp, 0, 43, 45, 255} {
		for _, flow := range []int64{0, 1, 703710, 1048575} {
			whole := sixWith(func(p *impl.V6) { p.Next, p.Flow = next, flow })
			for _, count := range []int{0, 1, 24, impl.MaxData} {
				whole.Data = filler(count)
				wantSixTurned(t, "no piece", whole)
			}
			for _, span := range spans {
				for _, id := range pieceIds {
					wantSixTurned(t, "a piece", pieceWith(func(p *impl.V6) {
						p.Next, p.Flow, p.Id, p.More, p.Off, p.Data = next, flow, id, span.more, span.off, filler(span.count)
					}))
				}
			}
		}
	}
}

// Promise 17 of packets of IPv4: of each proto, Whole or not, each More and Off, with Options of each length.
func TestFourTurnedAndBack(t *testing.T) {
	for _, proto := range []int64{impl.Tcp, impl.Udp, impl.Icmp, impl.Icmp6, 0, 43, 45, 255} {
		for options := 0; options <= 40; options += 4 {
			for _, id := range []int64{0, 1, 43981, 65534, 65535} {
				for _, span := range spans {
					p := fourWith(func(p *impl.V4) {
						p.Proto, p.Options, p.Id = proto, filler(options), id
						p.More, p.Off, p.Data = span.more, span.off, filler(span.count)
					})
					wantFourTurned(t, "not whole", p)
					if !p.More && p.Off == 0 {
						p.Whole = true
						wantFourTurned(t, "whole", p)
					}
				}
			}
		}
	}
}

// What is carried is as it was, its check and the first byte of ICMP too.
func TestDataAreAsTheyWere(t *testing.T) {
	for _, kind := range carriedKinds {
		f := flowAs(kind.proto, kind.size, 5353, 53)
		for _, answers := range []bool{false, true} {
			data := carriedAs(f, answers, "what is said")
			four, six := sent(flowFrom(impl.Udp, hostA, 1, peerA, 2), 0), sixPacket()
			four.Proto, four.Data, six.Next, six.Data = kind.proto, data, kind.proto, data
			wantText(t, kind.what+" to six", impl.ToSix(four, sixFrom, sixTo).Packet.Data, data)
			wantText(t, kind.what+" to four", impl.ToFour(six, fourFrom, fourTo).Packet.Data, data)
			if kind.size == 4 {
				wantFourTurned(t, kind.what, four)
			} else {
				wantSixTurned(t, kind.what, six)
			}
		}
	}
}

// Each byte of Class or Tos, of Hops or Ttl, and of Next or Proto.
func TestEachByteOfHeaders(t *testing.T) {
	for n := range int64(256) {
		for _, piece := range []bool{false, true} {
			six := pieceWith(func(p *impl.V6) {
				if p.Piece = piece; !piece {
					p.More, p.Off, p.Id = false, 0, 0
				}
			})
			four := fourWith(func(p *impl.V4) { p.More = piece })
			six.Class, four.Tos = n, n
			six.Hops, four.Ttl = 255-n, 255-n
			wantSixTurned(t, "a byte", six)
			wantFourTurned(t, "a byte", four)
			if n == 44 {
				continue
			}
			six.Next, four.Proto = n, n
			wantSixTurned(t, "a proto", six)
			wantFourTurned(t, "a proto", four)
		}
	}
}

// What is kept and what is not, field by field: a field that is not kept changes nothing that is told.
func TestWhatIsNotKept(t *testing.T) {
	six, four := sixPacket(), fourPacket()
	asFour, asSix := impl.ToFour(six, fourFrom, fourTo), impl.ToSix(four, sixFrom, sixTo)
	for what, change := range map[string]func(p *impl.V6){
		"Flow": func(p *impl.V6) { p.Flow = 1 },
		"Src":  func(p *impl.V6) { p.Src = strings.Repeat("\xff", 16) },
		"Dst":  func(p *impl.V6) { p.Dst = strings.Repeat("\x00", 16) },
	} {
		wantAsFour(t, what+" is not kept", sixWith(change), fourFrom, fourTo, asFour)
	}
	for what, change := range map[string]func(p *impl.V4){
		"Id":      func(p *impl.V4) { p.Id = 0 },
		"Whole":   func(p *impl.V4) { p.Whole = true },
		"Options": func(p *impl.V4) { p.Options = filler(40) },
		"Src":     func(p *impl.V4) { p.Src = "\xff\xff\xff\xff" },
		"Dst":     func(p *impl.V4) { p.Dst = "\x00\x00\x00\x00" },
	} {
		wantAsSix(t, what+" is not kept", fourWith(change), sixFrom, sixTo, asSix)
	}
	piece := impl.ToFour(sixPiece(), fourFrom, fourTo)
	for _, by := range []int64{65536, -65536, 131072, -1 << 31} {
		p := pieceWith(func(p *impl.V6) { p.Id += by })
		wantAsFour(t, "what of Id is beyond 16 bits is not kept", p, fourFrom, fourTo, piece)
	}
	for what, change := range map[string]func(p *impl.V6){
		"Class":      func(p *impl.V6) { p.Class = 185 },
		"Next":       func(p *impl.V6) { p.Next = 17 },
		"Hops":       func(p *impl.V6) { p.Hops = 62 },
		"More":       func(p *impl.V6) { p.More = false },
		"Off":        func(p *impl.V6) { p.Off = 186 },
		"Id":         func(p *impl.V6) { p.Id++ },
		"Data":       func(p *impl.V6) { p.Data = filler(16) },
		"other Data": func(p *impl.V6) { p.Data = turnedAt(p.Data, 23, 1) },
	} {
		wantAnswer(t, what+" is kept", impl.ToFour(pieceWith(change), fourFrom, fourTo) != piece, true)
	}
}

// The addresses are those that are told, whatever the packet had, and each at its own place.
func TestAddressesOfTurned(t *testing.T) {
	for _, piece := range []bool{false, true} {
		six, four := sixWith(func(p *impl.V6) { p.Piece = piece }), fourWith(func(p *impl.V4) { p.More = piece })
		for i, src := range madeAddresses(4, 20) {
			dst := madeAddresses(4, 20)[21-i]
			got := impl.ToFour(six, src, dst)
			wantText(t, "Src of four", got.Packet.Src, src)
			wantText(t, "Dst of four", got.Packet.Dst, dst)
			wantFour(t, "between made ends", got, turnedToFour(six, src, dst))
		}
		for i, src := range madeAddresses(16, 20) {
			dst := madeAddresses(16, 20)[21-i]
			got := impl.ToSix(four, src, dst)
			wantText(t, "Src of six", got.Packet.Src, src)
			wantText(t, "Dst of six", got.Packet.Dst, dst)
			wantSix(t, "between made ends", got, turnedToSix(four, src, dst))
		}
	}
	wantText(t, "one end twice", impl.ToFour(sixPacket(), fourFrom, fourFrom).Packet.Dst, fourFrom)
	wantText(t, "one end twice", impl.ToSix(fourPacket(), sixFrom, sixFrom).Packet.Dst, sixFrom)
}

// Texts that are no address of the kind that is turned to: of the other kind, of neither, and too long ones.
func TestWrongEndsOfTurned(t *testing.T) {
	code := func(text string) int64 {
		if len(text) > 20000 {
			return impl.ErrSize
		}
		return impl.ErrForm
	}
	for _, p := range sixExamples() {
		p.Off = min(p.Off, 8000)
		wantNumber(t, "right ends", impl.ToFour(p, fourFrom, fourTo).Code, impl.OK)
		for _, text := range append(noAddresses(), madeAddresses(16, 5)...) {
			what := fmt.Sprintf("%d bytes", len(text))
			wantNoFour(t, "src of "+what, p, text, fourTo, code(text))
			wantNoFour(t, "dst of "+what, p, fourFrom, text, code(text))
			wantNoFour(t, "both of "+what, p, text, text, code(text))
		}
		wantNoFour(t, "3 and 5 bytes", p, "abc", "defgh", impl.ErrForm)
	}
	for _, p := range fourExamples() {
		wantNumber(t, "right ends", impl.ToSix(p, sixFrom, sixTo).Code, impl.OK)
		for _, text := range append(noAddresses(), madeAddresses(4, 5)...) {
			what := fmt.Sprintf("%d bytes", len(text))
			wantNoSix(t, "src of "+what, p, text, sixTo, code(text))
			wantNoSix(t, "dst of "+what, p, sixFrom, text, code(text))
			wantNoSix(t, "both of "+what, p, text, text, code(text))
		}
		wantNoSix(t, "15 and 17 bytes", p, filler(15), filler(17), impl.ErrForm)
	}
}

// wrongSixes are changes that make packets of IPv6 wrong, of a piece and of none.
var wrongSixes = map[string]func(p *impl.V6){
	"nothing":             func(p *impl.V6) { *p = impl.V6{} },
	"Class of 256":        func(p *impl.V6) { p.Class = 256 },
	"Class below 0":       func(p *impl.V6) { p.Class = -1 },
	"Flow of 1048576":     func(p *impl.V6) { p.Flow = 1048576 },
	"Flow below 0":        func(p *impl.V6) { p.Flow = -1 },
	"Next of 256":         func(p *impl.V6) { p.Next = 256 },
	"Next of 58 and 256":  func(p *impl.V6) { p.Next = 256 + 58 },
	"Next below 0":        func(p *impl.V6) { p.Next = -6 },
	"Next of 44":          func(p *impl.V6) { p.Next = 44 },
	"Hops of 256":         func(p *impl.V6) { p.Hops = 256 },
	"Hops below 0":        func(p *impl.V6) { p.Hops = math.MinInt64 },
	"Src of 4 bytes":      func(p *impl.V6) { p.Src = fourFrom },
	"Dst of 4 bytes":      func(p *impl.V6) { p.Dst = fourTo },
	"both of 4 bytes":     func(p *impl.V6) { p.Src, p.Dst = fourFrom, fourTo },
	"no Src":              func(p *impl.V6) { p.Src = "" },
	"no Dst":              func(p *impl.V6) { p.Dst = "" },
	"a long Src":          func(p *impl.V6) { p.Src = filler(impl.MaxBytes + 1) },
	"too much Data":       func(p *impl.V6) { p.More, p.Data = false, filler(impl.MaxData+1) },
	"far too much Data":   func(p *impl.V6) { p.Data = filler(impl.MaxBytes + 8) },
	"More than a word":    func(p *impl.V6) { p.Data = filler(65536 + 8) },
	"Off below 0":         func(p *impl.V6) { p.Off = -1 },
	"Off of 8192":         func(p *impl.V6) { p.Off, p.Data = 8192, "" },
	"a far Off":           func(p *impl.V6) { p.Off = math.MaxInt64 },
	"Id below 0":          func(p *impl.V6) { p.Id = -1 },
	"Id of 33 bits":       func(p *impl.V6) { p.Id = 4294967296 },
	"More of no multiple": func(p *impl.V6) { p.More, p.Data = true, filler(9) },
	"behind the end":      func(p *impl.V6) { p.More, p.Off, p.Data = false, 8191, filler(8) },
	"no Piece, but More":  func(p *impl.V6) { p.Piece, p.More = false, true },
	"no Piece, but Off":   func(p *impl.V6) { p.Piece, p.Off = false, 1 },
	"no Piece, but Id":    func(p *impl.V6) { p.Piece, p.Id = false, 1 },
}

// wrongFours are changes that make packets of IPv4 wrong.
var wrongFours = map[string]func(p *impl.V4){
	"nothing":             func(p *impl.V4) { *p = impl.V4{} },
	"Tos of 256":          func(p *impl.V4) { p.Tos = 256 },
	"Tos below 0":         func(p *impl.V4) { p.Tos = -1 },
	"Id of 65536":         func(p *impl.V4) { p.Id = 65536 },
	"Id below 0":          func(p *impl.V4) { p.Id = -1 },
	"Ttl of 256":          func(p *impl.V4) { p.Ttl = 256 },
	"Ttl below 0":         func(p *impl.V4) { p.Ttl = math.MinInt64 },
	"Proto of 256":        func(p *impl.V4) { p.Proto = 256 },
	"Proto of 1 and 256":  func(p *impl.V4) { p.Proto = 257 },
	"Proto below 0":       func(p *impl.V4) { p.Proto = -1 },
	"Src of 16 bytes":     func(p *impl.V4) { p.Src = sixFrom },
	"Dst of 16 bytes":     func(p *impl.V4) { p.Dst = sixTo },
	"both of 16 bytes":    func(p *impl.V4) { p.Src, p.Dst = sixFrom, sixTo },
	"no Src":              func(p *impl.V4) { p.Src = "" },
	"no Dst":              func(p *impl.V4) { p.Dst = "" },
	"a long Dst":          func(p *impl.V4) { p.Dst = filler(impl.MaxBytes + 1) },
	"Options of 3 bytes":  func(p *impl.V4) { p.Options = "\x01\x01\x00" },
	"Options of 44 bytes": func(p *impl.V4) { p.Options = filler(44) },
	"long Options":        func(p *impl.V4) { p.Options = filler(impl.MaxBytes + 4) },
	"too much Data":       func(p *impl.V4) { p.More, p.Data = false, filler(impl.MaxData+1) },
	"far too much Data":   func(p *impl.V4) { p.Data = filler(impl.MaxBytes + 8) },
	"More than a word":    func(p *impl.V4) { p.Data = filler(65536 + 8) },
	"Off below 0":         func(p *impl.V4) { p.Off = -1 },
	"Off of 8192":         func(p *impl.V4) { p.Off, p.Data = 8192, "" },
	"a far Off":           func(p *impl.V4) { p.Off = math.MaxInt64 },
	"More of no multiple": func(p *impl.V4) { p.More, p.Data = true, filler(9) },
	"Whole with More":     func(p *impl.V4) { p.Whole, p.More, p.Data = true, true, filler(8) },
	"Whole with Off":      func(p *impl.V4) { p.Whole, p.Off = true, 1 },
	"behind the end":      func(p *impl.V4) { p.More, p.Off, p.Data = false, 8189, filler(4) },
	"right in six alone":  func(p *impl.V4) { p.More, p.Off, p.Data = false, 8191, filler(7) },
}

// Packets that are not right are refused with ErrForm; a text that is handed in and is too long is told ahead of that.
func TestWrongPacketsTurned(t *testing.T) {
	long := filler(impl.MaxBytes + 1)
	for what, change := range wrongSixes {
		for _, p := range []impl.V6{sixWith(change), pieceWith(change)} {
			if sixIsRight(p) {
				// What is wrong without a Piece alone, or with one.
				continue
			}
			wantNoFour(t, what, p, fourFrom, fourTo, impl.ErrForm)
			wantNoFour(t, what+", src wrong too", p, sixFrom, fourTo, impl.ErrForm)
			wantNoFour(t, what+", dst wrong too", p, fourFrom, "", impl.ErrForm)
			wantNoFour(t, what+", src too long", p, long, fourTo, impl.ErrSize)
			wantNoFour(t, what+", dst too long", p, fourFrom, long, impl.ErrSize)
			wantNoFour(t, what+", dst too long, src wrong", p, "", long, impl.ErrSize)
		}
		wantAnswer(t, what+": wrong of a piece or of none", sixIsRight(sixWith(change)) && sixIsRight(pieceWith(change)), false)
	}
	for what, change := range wrongFours {
		p := fourWith(change)
		wantAnswer(t, what+": wrong", fourIsRight(p), false)
		wantNoSix(t, what, p, sixFrom, sixTo, impl.ErrForm)
		wantNoSix(t, what+", src wrong too", p, fourFrom, sixTo, impl.ErrForm)
		wantNoSix(t, what+", dst wrong too", p, sixFrom, "", impl.ErrForm)
		wantNoSix(t, what+", src too long", p, long, sixTo, impl.ErrSize)
		wantNoSix(t, what+", dst too long", p, sixFrom, long, impl.ErrSize)
		wantNoSix(t, what+", src too long, dst wrong", p, long, "", impl.ErrSize)
	}
}

// A text of MaxBytes bytes is no address, one of a byte more is too long, beside packets of each kind.
func TestLongEndsOfTurned(t *testing.T) {
	most, long := filler(impl.MaxBytes), filler(impl.MaxBytes+1)
	beyond := pieceWith(func(p *impl.V6) { p.More, p.Off, p.Data = false, 8191, "the end" })
	barred := fourWith(func(p *impl.V4) { p.Proto = 44 })
	for _, p := range []impl.V6{sixPacket(), sixPiece(), beyond} {
		wantNoFour(t, "MaxBytes and MaxBytes", p, most, most, impl.ErrForm)
		wantNoFour(t, "MaxBytes and one more", p, most, long, impl.ErrSize)
		wantNoFour(t, "one more and MaxBytes", p, long, most, impl.ErrSize)
		wantNoFour(t, "one more and nothing", p, long, "", impl.ErrSize)
	}
	for _, p := range []impl.V4{fourPacket(), barred} {
		wantNoSix(t, "MaxBytes and MaxBytes", p, most, most, impl.ErrForm)
		wantNoSix(t, "MaxBytes and one more", p, most, long, impl.ErrSize)
		wantNoSix(t, "one more and MaxBytes", p, long, most, impl.ErrSize)
		wantNoSix(t, "one more and nothing", p, long, "", impl.ErrSize)
	}
}

// Right pieces of IPv6 end at 65535 at most, those of IPv4 at 65515: what lies between is refused.
func TestTooLongForFour(t *testing.T) {
	for _, c := range []struct {
		off   int64
		count int
		more  bool
		code  int64
	}{
		{8189, 3, false, impl.OK}, {8189, 4, false, impl.ErrForm}, {8189, 23, false, impl.ErrForm},
		{8189, 0, true, impl.OK}, {8189, 8, true, impl.ErrForm}, {8189, 16, true, impl.ErrForm},
		{8188, 8, true, impl.OK}, {8188, 11, false, impl.OK}, {8188, 12, false, impl.ErrForm}, {8188, 16, true, impl.ErrForm},
		{8190, 0, false, impl.ErrForm}, {8190, 0, true, impl.ErrForm}, {8190, 8, true, impl.ErrForm}, {8190, 15, false, impl.ErrForm},
		{8191, 0, false, impl.ErrForm}, {8191, 0, true, impl.ErrForm}, {8191, 7, false, impl.ErrForm},
		{8014, 1400, true, impl.OK}, {8014, 1400, false, impl.OK}, {8015, 1395, false, impl.OK}, {8015, 1396, false, impl.ErrForm},
		{8015, 1392, true, impl.OK}, {8015, 1400, true, impl.ErrForm}, {8016, 1387, false, impl.OK}, {8016, 1388, false, impl.ErrForm},
		{8016, 1400, true, impl.ErrForm}, {8017, 1379, false, impl.OK}, {8017, 1399, false, impl.ErrForm},
	} {
		for _, next := range []int64{impl.Tcp, impl.Udp, impl.Icmp6} {
			p := pieceWith(func(p *impl.V6) { p.Next, p.Off, p.More, p.Data = next, c.off, c.more, filler(c.count) })
			what := fmt.Sprintf("proto %d, Off %d, %d bytes, more %v", next, c.off, c.count, c.more)
			wantAnswer(t, what+": right", impl.V6Right(p), true)
			if c.code != impl.OK {
				wantNoFour(t, what, p, fourFrom, fourTo, c.code)
				continue
			}
			wantSixTurned(t, what, p)
			// The greatest of IPv4 goes the other way, too: no piece of it is too long for IPv6.
			wantFourTurned(t, what, impl.ToFour(p, fourFrom, fourTo).Packet)
		}
	}
}

// A packet of IPv4 whose proto is 44 has no header of IPv6: no V6 has that Next.
func TestProtoOfPieces(t *testing.T) {
	inner := impl.V6Bytes(sixPiece())[40:]
	for _, data := range []string{"", "data", filler(7), filler(8), filler(16), "\x11\x00\x00\x08\x00\x00\x00\x07datadata", inner, filler(impl.MaxData)} {
		for proto := int64(43); proto <= 45; proto++ {
			for _, off := range []int64{0, 1, 8014} {
				for _, more := range []bool{false, true} {
					p := fourWith(func(p *impl.V4) { p.Proto, p.Off, p.More, p.Data = proto, off, more, data })
					if more {
						p.Data = data[:len(data)/8*8]
					}
					what := fmt.Sprintf("proto %d, Off %d, more %v, %d bytes", proto, off, more, len(p.Data))
					wantAnswer(t, what+": right", impl.V4Right(p), true)
					if proto != 44 {
						wantFourTurned(t, what, p)
						continue
					}
					wantNoSix(t, what, p, sixFrom, sixTo, impl.ErrForm)
					p.Options = filler(40)
					wantNoSix(t, what+", options", p, sixFrom, sixTo, impl.ErrForm)
				}
			}
		}
		whole := fourWith(func(p *impl.V4) { p.Whole, p.Proto, p.Data = true, 44, data })
		wantNoSix(t, "whole", whole, sixFrom, sixTo, impl.ErrForm)
	}
}

// The longest packets of both kinds: Data have the same limit in both, and Options count for nothing.
func TestLongestTurned(t *testing.T) {
	ones, data := strings.Repeat("\xff", 16), strings.Repeat("\xff", impl.MaxData)
	four := impl.V4{Tos: 255, Id: 65535, More: true, Off: 8014, Ttl: 255, Proto: 255, Src: ones[:4], Dst: ones[:4],
		Options: strings.Repeat("\xff", 40), Data: data}
	wantFourTurned(t, "all ones", four)
	four.More, four.Off, four.Whole = false, 0, true
	wantFourTurned(t, "all ones, whole", four)
	six := impl.V6{Class: 255, Flow: 1048575, Next: 255, Hops: 255, Src: ones, Dst: ones, Data: data}
	wantSixTurned(t, "all ones", six)
	six.Piece, six.More, six.Off, six.Id = true, true, 8014, 4294967295
	wantSixTurned(t, "all ones, a piece", six)
	six.Off = 8016
	wantAnswer(t, "the last piece of six: right", impl.V6Right(six), true)
	wantNoFour(t, "the last piece of six", six, fourFrom, fourTo, impl.ErrForm)
}

// The check of a header of IPv4 has no field, and whatever it comes to, the packet is the same.
func TestEachIdTurned(t *testing.T) {
	zeros := 0
	for id := range int64(65536) {
		p := pieceWith(func(p *impl.V6) { p.Id = id<<16 | id })
		got := impl.ToFour(p, fourFrom, fourTo)
		if got != turnedToFour(p, fourFrom, fourTo) {
			t.Errorf("Id %d: got the code %d, Id %d", p.Id, got.Code, got.Packet.Id)
		}
		if impl.Word(impl.V4Bytes(got.Packet), 10) == 0 {
			zeros++
		}
	}
	wantAnswer(t, "a check of 0 was among them", zeros > 0, true)
}

// textsOfSix are all texts of a packet.
func textsOfSix(p impl.V6) []string {
	return []string{p.Src, p.Dst, p.Data}
}

// ownSix is a packet whose texts lie apart from all others.
func ownSix(p impl.V6) impl.V6 {
	p.Src, p.Dst, p.Data = strings.Clone(p.Src), strings.Clone(p.Dst), strings.Clone(p.Data)
	return p
}

// wantApart asks that no two texts of one answer lie in the same memory.
func wantApart(t *testing.T, what string, texts []string) {
	t.Helper()
	for i := range texts {
		wantNewTexts(t, what+", two texts", texts[:i], texts[i:])
	}
}

func TestTurnedIsNewMemory(t *testing.T) {
	for _, example := range append(sixExamples(), impl.V6{}) {
		p, src, dst := ownSix(example), strings.Clone(fourFrom), strings.Clone(fourTo)
		got := impl.ToFour(p, src, dst)
		wantFour(t, "to four", got, turnedToFour(example, fourFrom, fourTo))
		wantNewTexts(t, "to four", textsOfFour(got.Packet), append(textsOfSix(p), src, dst))
		wantApart(t, "to four", textsOfFour(got.Packet))
		once := impl.ToFour(p, src, src)
		wantApart(t, "to four, one end", textsOfFour(once.Packet))
		wantNewTexts(t, "to four, two answers", textsOfFour(got.Packet), textsOfFour(once.Packet))
		wantAnswer(t, "what was handed in", p == example && src == fourFrom && dst == fourTo, true)
		wantFour(t, "to four, asked again", impl.ToFour(p, src, dst), got)
	}
	for _, example := range append(fourExamples(), impl.V4{}) {
		p, src, dst := ownTexts(example), strings.Clone(sixFrom), strings.Clone(sixTo)
		got := impl.ToSix(p, src, dst)
		wantSix(t, "to six", got, turnedToSix(example, sixFrom, sixTo))
		wantNewTexts(t, "to six", textsOfSix(got.Packet), append(textsOfFour(p), src, dst))
		wantApart(t, "to six", textsOfSix(got.Packet))
		once := impl.ToSix(p, src, src)
		wantApart(t, "to six, one end", textsOfSix(once.Packet))
		wantNewTexts(t, "to six, two answers", textsOfSix(got.Packet), textsOfSix(once.Packet))
		wantAnswer(t, "what was handed in", p == example && src == sixFrom && dst == sixTo, true)
		wantSix(t, "to six, asked again", impl.ToSix(p, src, dst), got)
	}
}

// end is a text for an end by chance: mostly of so many bytes, and now and then of none that an address has.
func (d *dice) end(size int64) string {
	switch d.upTo(30) {
	case 0:
		return d.text(20 - size)
	case 1:
		return d.text(d.upTo(33))
	case 2:
		return filler(int(impl.MaxBytes + d.upTo(1)))
	}
	return d.text(size)
}

// Packets by chance, right ones and wrong ones, between ends by chance: what is told is as the document's words
// reckon it, and promise 17 holds of each that is turned.
func TestMadeTurns(t *testing.T) {
	d := dice(17)
	met := map[string]int{}
	for range 12000 {
		p, src, dst := d.six(), d.end(4), d.end(4)
		if d.upTo(4) == 0 {
			p.Next = []int64{1, 6, 17, 44, 58}[d.upTo(4)]
		}
		if d.upTo(9) == 0 {
			p.Piece, p.Off = true, 8180+d.upTo(12)
		}
		got := impl.ToFour(p, src, dst)
		wantFour(t, fmt.Sprintf("ToFour of %#v", p), got, turnedToFour(p, src, dst))
		met[fmt.Sprintf("to four: %d", got.Code)]++
		if got.Code == impl.OK {
			wantSixTurned(t, "made", p)
		} else if sixIsRight(p) && len(src) == 4 && len(dst) == 4 {
			met["to four: too long"]++
		}
		q, src, dst := d.four(), d.end(16), d.end(16)
		if d.upTo(4) == 0 {
			q.Proto = []int64{1, 6, 17, 44, 58}[d.upTo(4)]
		}
		back := impl.ToSix(q, src, dst)
		wantSix(t, fmt.Sprintf("ToSix of %#v", q), back, turnedToSix(q, src, dst))
		met[fmt.Sprintf("to six: %d", back.Code)]++
		if back.Code == impl.OK {
			wantFourTurned(t, "made", q)
		} else if fourIsRight(q) && len(src) == 16 && len(dst) == 16 {
			met["to six: 44"]++
		}
	}
	kinds := []string{"to four: too long", "to six: 44"}
	for _, code := range []int64{impl.OK, impl.ErrForm, impl.ErrSize} {
		kinds = append(kinds, fmt.Sprintf("to four: %d", code), fmt.Sprintf("to six: %d", code))
	}
	for what, times := range met {
		if !slices.Contains(kinds, what) {
			t.Errorf("%s was met %d times", what, times)
		}
	}
	for _, what := range kinds {
		if met[what] < 50 {
			t.Errorf("%s was met %d times only: %v", what, met[what], met)
		}
	}
}

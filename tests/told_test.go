package tests

import (
	"fmt"
	"math"
	"strings"
	"testing"

	"loop.example/g00314/impl"
)

// The gateway's own ends, from which packets are told of.
var (
	gateFour = addressOf("192.0.2.1")
	gateSix  = addressOf("2001:db8::1")
)

// toldOfFour goes by the document's words, fault by fault in their order.
func toldOfFour(from string, why impl.V4, kind int64, code int64, word int64) impl.V4Out {
	switch {
	case len(from) > 20000:
		return impl.V4Out{Code: impl.ErrSize}
	case !fourIsRight(why), len(from) != 4, !among(kind, 0, 255), !among(code, 0, 255), !among(word, 0, 65535):
		return impl.V4Out{Code: impl.ErrForm}
	case why.Off > 0, why.Src == strings.Repeat("\x00", 4), why.Src == strings.Repeat("\xff", 4):
		return impl.V4Out{Code: impl.ErrKind}
	case why.Proto == 1 && !strings.HasPrefix(why.Data, "\x00") && !strings.HasPrefix(why.Data, "\x08"):
		return impl.V4Out{Code: impl.ErrKind}
	}
	text := layFour(why)
	count := min(len(text), 20+len(why.Options)+8)
	data := string([]byte{byte(kind), byte(code), 0, 0, 0, 0, byte(word / 256), byte(word % 256)}) + text[:count]
	data = withWord(data, 2, 65535-expected(data))
	return impl.V4Out{Packet: impl.V4{Whole: true, Ttl: 64, Proto: 1, Src: from, Dst: why.Src, Data: data}}
}

// toldOfSix goes by the document's words, as toldOfFour does.
func toldOfSix(from string, why impl.V6, kind int64, code int64, word int64) impl.V6Out {
	switch {
	case len(from) > 20000:
		return impl.V6Out{Code: impl.ErrSize}
	case !sixIsRight(why), len(from) != 16, !among(kind, 0, 255), !among(code, 0, 255), !among(word, 0, 65535):
		return impl.V6Out{Code: impl.ErrForm}
	case why.Off > 0, why.Src == strings.Repeat("\x00", 16), strings.HasPrefix(why.Src, "\xff"):
		return impl.V6Out{Code: impl.ErrKind}
	case why.Next == 58 && (why.Data + "\x00")[0] < 128:
		return impl.V6Out{Code: impl.ErrKind}
	}
	text := laySix(why)
	count := min(len(text), 1200)
	data := string([]byte{byte(kind), byte(code), 0, 0, 0, 0, byte(word / 256), byte(word % 256)}) + text[:count]
	data = withWord(data, 2, 65535-expected(pseudoOf(from, why.Src, 58, len(data))+data))
	return impl.V6Out{Packet: impl.V6{Next: 58, Hops: 64, Src: from, Dst: why.Src, Data: data}}
}

// wantFourToldOf asks for promise 20 of a packet that is told of, and for all that is told.
func wantFourToldOf(t *testing.T, what string, why impl.V4, kind int64, code int64, word int64) impl.V4 {
	t.Helper()
	got := impl.TellFour(gateFour, why, kind, code, word)
	wantFour(t, what, got, toldOfFour(gateFour, why, kind, code, word))
	wantNumber(t, what+": code", got.Code, impl.OK)
	wantText(t, what+": to the sender", got.Packet.Dst, why.Src)
	wantText(t, what+": from the gateway", got.Packet.Src, gateFour)
	wantAnswer(t, what+": right", impl.V4Right(got.Packet), true)
	wantRight(t, what+": the check", got.Packet.Data, true)
	return got.Packet
}

func wantSixToldOf(t *testing.T, what string, why impl.V6, kind int64, code int64, word int64) impl.V6 {
	t.Helper()
	got := impl.TellSix(gateSix, why, kind, code, word)
	wantSix(t, what, got, toldOfSix(gateSix, why, kind, code, word))
	wantNumber(t, what+": code", got.Code, impl.OK)
	wantText(t, what+": to the sender", got.Packet.Dst, why.Src)
	wantText(t, what+": from the gateway", got.Packet.Src, gateSix)
	wantAnswer(t, what+": right", impl.V6Right(got.Packet), true)
	p := got.Packet
	wantAnswer(t, what+": the check", impl.CarryRight(p.Src, p.Dst, impl.Icmp6, p.Data), true)
	return p
}

// wantNoFourTold asks for a code alone: the packet beside it is empty.
func wantNoFourTold(t *testing.T, what string, from string, why impl.V4, kind int64, code int64, word int64, fault int64) {
	t.Helper()
	wantFour(t, what, impl.TellFour(from, why, kind, code, word), impl.V4Out{Code: fault})
	wantFour(t, what+" (as reckoned)", toldOfFour(from, why, kind, code, word), impl.V4Out{Code: fault})
}

func wantNoSixTold(t *testing.T, what string, from string, why impl.V6, kind int64, code int64, word int64, fault int64) {
	t.Helper()
	wantSix(t, what, impl.TellSix(from, why, kind, code, word), impl.V6Out{Code: fault})
	wantSix(t, what+" (as reckoned)", toldOfSix(from, why, kind, code, word), impl.V6Out{Code: fault})
}

// wantFourKind asks that nothing is told of a packet, whatever would be.
func wantFourKind(t *testing.T, what string, why impl.V4) {
	t.Helper()
	wantNoFourTold(t, what, gateFour, why, 11, 0, 0, impl.ErrKind)
	wantNoFourTold(t, what, gateFour, why, 0, 255, 65535, impl.ErrKind)
}

func wantSixKind(t *testing.T, what string, why impl.V6) {
	t.Helper()
	wantNoSixTold(t, what, gateSix, why, 3, 0, 0, impl.ErrKind)
	wantNoSixTold(t, what, gateSix, why, 255, 255, 65535, impl.ErrKind)
}

// Bytes that were reckoned elsewhere.
func TestToldOfFourByHand(t *testing.T) {
	host, peer := addressOf("10.0.0.1"), addressOf("192.0.2.33")
	for _, c := range []struct {
		what             string
		why              impl.V4
		kind, code, word int64
		data             string
	}{
		{"UDP", impl.V4{Ttl: 9, Proto: 17, Src: host, Dst: addressOf("10.0.0.2"), Data: "\x00\x01\x00\x02\x00\x0a\x00\x00hi"}, 11, 0, 0,
			"\x0b\x00\xf4\xf2\x00\x00\x00\x00" +
				"\x45\x00\x00\x1e\x00\x00\x00\x00\x09\x11\x9d\xcd\x0a\x00\x00\x01\x0a\x00\x00\x02" +
				"\x00\x01\x00\x02\x00\x0a\x00\x00"},
		{"TCP with options", impl.V4{Tos: 16, Id: 7, Whole: true, Ttl: 1, Proto: 6, Src: host, Dst: peer, Options: "\x94\x04\x00\x00", Data: "\x14\xe9\x00\x5012345678901234567890"}, 3, 4, 1280,
			"\x03\x04\x7e\x5c\x00\x00\x05\x00" +
				"\x46\x10\x00\x30\x00\x07\x40\x00\x01\x06\x18\x8b\x0a\x00\x00\x01\xc0\x00\x02\x21\x94\x04\x00\x00" +
				"\x14\xe9\x00\x501234"},
		{"the first piece of what asks", impl.V4{Id: 258, More: true, Ttl: 64, Proto: 1, Src: addressOf("198.51.100.7"), Dst: peer, Data: "\x08\x00\xf7\xf8\x00\x07\x00\x00"}, 3, 0, 0,
			"\x03\x00\xfc\xff\x00\x00\x00\x00" +
				"\x45\x00\x00\x1c\x01\x02\x20\x00\x40\x01\x6d\x83\xc6\x33\x64\x07\xc0\x00\x02\x21" +
				"\x08\x00\xf7\xf8\x00\x07\x00\x00"},
		{"another proto, three bytes of data", impl.V4{Ttl: 255, Proto: 47, Src: addressOf("10.0.0.9"), Dst: peer, Data: "abc"}, 255, 255, 65535,
			"\xff\xff\x3b\x9d\x00\x00\xff\xff" +
				"\x45\x00\x00\x17\x00\x00\x00\x00\xff\x2f\xef\x8d\x0a\x00\x00\x09\xc0\x00\x02\x21" +
				"abc"},
	} {
		got := impl.TellFour(gateFour, c.why, c.kind, c.code, c.word)
		wantFour(t, c.what, got, impl.V4Out{Packet: impl.V4{Whole: true, Ttl: 64, Proto: impl.Icmp, Src: gateFour, Dst: c.why.Src, Data: c.data}})
		wantFourToldOf(t, c.what, c.why, c.kind, c.code, c.word)
	}
}

func TestToldOfSixByHand(t *testing.T) {
	host, peer := addressOf("2001:db8::5"), addressOf("2001:db8:f::6")
	addrs := "\x20\x01\x0d\xb8\x00\x00\x00\x00\x00\x00\x00\x00\x00\x00\x00\x05" + "\x20\x01\x0d\xb8\x00\x0f\x00\x00\x00\x00\x00\x00\x00\x00\x00\x06"
	for _, c := range []struct {
		what             string
		why              impl.V6
		kind, code, word int64
		data             string
	}{
		{"UDP", impl.V6{Next: 17, Hops: 9, Src: host, Dst: peer, Data: "\x14\xe9\x00\x35\x00\x0a\x92\x77hi"}, 1, 0, 0,
			"\x01\x00\xc6\x6a\x00\x00\x00\x00" + "\x60\x00\x00\x00\x00\x0a\x11\x09" + addrs + "\x14\xe9\x00\x35\x00\x0a\x92\x77hi"},
		{"what asks", impl.V6{Class: 184, Flow: 703710, Next: 58, Hops: 1, Src: host, Dst: addressOf("64:ff9b::c000:221"), Data: "\x80\x00\xab\xcd\x00\x07\x00\x01"}, 3, 0, 0,
			"\x03\x00\x22\xed\x00\x00\x00\x00" + "\x6b\x8a\xbc\xde\x00\x08\x3a\x01" + addrs[:16] +
				"\x00\x64\xff\x9b\x00\x00\x00\x00\x00\x00\x00\x00\xc0\x00\x02\x21" + "\x80\x00\xab\xcd\x00\x07\x00\x01"},
		{"the first piece", impl.V6{Next: 6, Hops: 64, Src: host, Dst: peer, Piece: true, More: true, Id: 3735928559, Data: "datadata"}, 2, 0, 1280,
			"\x02\x00\x60\x0c\x00\x00\x05\x00" + "\x60\x00\x00\x00\x00\x10\x2c\x40" + addrs + "\x06\x00\x00\x01\xde\xad\xbe\xef" + "datadata"},
	} {
		got := impl.TellSix(gateSix, c.why, c.kind, c.code, c.word)
		wantSix(t, c.what, got, impl.V6Out{Packet: impl.V6{Next: impl.Icmp6, Hops: 64, Src: gateSix, Dst: host, Data: c.data}})
		wantSixToldOf(t, c.what, c.why, c.kind, c.code, c.word)
	}
}

// Of each proto but those of messages all is told of; the numbers of the other kind's messages are none here.
func TestToldOfEachProto(t *testing.T) {
	for proto := range int64(256) {
		for _, data := range []string{"", "\x00", "\x03\x00data", "\x08datadata", "\x7f", "\x80\x00and more", "\xff", filler(40)} {
			what := fmt.Sprintf("proto %d, %d bytes", proto, len(data))
			if proto != impl.Icmp {
				wantFourToldOf(t, what, fourWith(func(p *impl.V4) { p.Proto, p.Data = proto, data }), 3, 1, 7)
			}
			if proto != impl.Icmp6 && proto != 44 {
				wantSixToldOf(t, what, sixWith(func(p *impl.V6) { p.Next, p.Data = proto, data }), 1, 3, 7)
			}
		}
	}
	wantNoSixTold(t, "proto 44", gateSix, sixWith(func(p *impl.V6) { p.Next = 44 }), 1, 3, 7, impl.ErrForm)
}

// Of IPv4 the header, its options too, and eight bytes behind it are told, or as many as there are.
func TestToldOfLengthsOfFour(t *testing.T) {
	for options := 0; options <= 40; options += 4 {
		for _, count := range []int{0, 1, 2, 6, 7, 8, 9, 10, 16, 20, 39, 40, 41, 100, 1399, impl.MaxData} {
			what := fmt.Sprintf("%d bytes of options, %d of data", options, count)
			why := fourWith(func(p *impl.V4) { p.Options, p.Data = filler(options), filler(count) })
			got := wantFourToldOf(t, what, why, 11, 1, 258)
			wantNumber(t, what+": length", int64(len(got.Data)), int64(8+20+options+min(count, 8)))
			wantText(t, what+": the beginning", got.Data[:2]+got.Data[4:8], "\x0b\x01\x00\x00\x01\x02")
			wantText(t, what+": the header", got.Data[8:28+options], layFour(why)[:20+options])
			wantText(t, what+": what is behind", got.Data[28+options:], filler(min(count, 8)))
		}
	}
}

// Of IPv6 the first 1200 bytes are told, a piece's header among them, or as many as there are.
func TestToldOfLengthsOfSix(t *testing.T) {
	for _, piece := range []bool{false, true} {
		header := 40
		if piece {
			header = 48
		}
		for _, count := range []int{0, 1, 7, 8, 9, 24, 1000, 1150, 1151, 1152, 1153, 1158, 1159, 1160, 1161, 1199, 1200, 1201, 1399, impl.MaxData} {
			what := fmt.Sprintf("piece %v, %d bytes of data", piece, count)
			why := sixWith(func(p *impl.V6) { p.Piece, p.Data = piece, filler(count) })
			got := wantSixToldOf(t, what, why, 2, 1, 1280)
			wantNumber(t, what+": length", int64(len(got.Data)), int64(8+min(1200, header+count)))
			wantText(t, what+": the beginning", got.Data[:2]+got.Data[4:8], "\x02\x01\x00\x00\x05\x00")
			wantText(t, what+": the header", got.Data[8:8+header], laySix(why)[:header])
			wantText(t, what+": what is behind", got.Data[8+header:], filler(min(count, 1200-header)))
		}
	}
}

// What is told has fields of its own: nothing of the packet that it is told of is in its header but the sender.
func TestHeadersOfWhatIsTold(t *testing.T) {
	fours := []impl.V4{fourPacket(), fourWith(func(p *impl.V4) { p.Whole = true }), fourWith(func(p *impl.V4) { p.More = true }),
		fourWith(func(p *impl.V4) { p.Tos, p.Id, p.Ttl, p.Options = 255, 65535, 255, filler(40) }),
		fourWith(func(p *impl.V4) { p.Tos, p.Id, p.Ttl, p.Data = 0, 0, 0, "" })}
	for i, why := range fours {
		got := impl.TellFour(gateFour, why, 3, 0, 0).Packet
		got.Data = ""
		want := impl.V4{Whole: true, Ttl: 64, Proto: 1, Src: gateFour, Dst: why.Src}
		wantAnswer(t, fmt.Sprintf("the header of four, %d", i), got == want, true)
	}
	sixes := []impl.V6{sixPacket(), pieceWith(func(p *impl.V6) { p.Off = 0 }), pieceWith(func(p *impl.V6) { p.More, p.Off = false, 0 }),
		sixWith(func(p *impl.V6) { p.Class, p.Flow, p.Hops = 255, 1048575, 255 }),
		sixWith(func(p *impl.V6) { p.Class, p.Flow, p.Hops, p.Data = 0, 0, 0, "" })}
	for i, why := range sixes {
		got := impl.TellSix(gateSix, why, 1, 0, 0).Packet
		got.Data = ""
		want := impl.V6{Next: 58, Hops: 64, Src: gateSix, Dst: why.Src}
		wantAnswer(t, fmt.Sprintf("the header of six, %d", i), got == want, true)
	}
}

// Of pieces the first one alone is told of, that without an Off.
func TestToldOfPieces(t *testing.T) {
	for _, off := range []int64{1, 2, 185, 8000} {
		for _, more := range []bool{false, true} {
			for _, proto := range []int64{1, 6, 17, 47, 58} {
				for _, data := range []string{"", "\x08\x00\x00\x00data", "\x80\x00\x00\x00data", filler(16)} {
					what := fmt.Sprintf("proto %d, Off %d, more %v", proto, off, more)
					wantFourKind(t, what, fourWith(func(p *impl.V4) { p.Proto, p.Off, p.More, p.Data = proto, off, more, data }))
					wantSixKind(t, what, pieceWith(func(p *impl.V6) { p.Next, p.Off, p.More, p.Data = proto, off, more, data }))
				}
			}
		}
	}
	wantFourKind(t, "the last Off of four", fourWith(func(p *impl.V4) { p.Off, p.Data = 8189, "end" }))
	wantSixKind(t, "the last Off of six", pieceWith(func(p *impl.V6) { p.Off, p.More, p.Data = 8191, false, "the end" }))
	for _, id := range []int64{0, 1, 65535} {
		wantFourToldOf(t, "More, no Off", fourWith(func(p *impl.V4) { p.More, p.Id = true, id }), 11, 0, 0)
		wantFourToldOf(t, "neither", fourWith(func(p *impl.V4) { p.Id = id }), 11, 0, 0)
		wantFourToldOf(t, "Whole", fourWith(func(p *impl.V4) { p.Whole, p.Id = true, id }), 11, 0, 0)
		wantSixToldOf(t, "More, no Off", pieceWith(func(p *impl.V6) { p.Off, p.Id = 0, id }), 3, 0, 0)
		wantSixToldOf(t, "neither", pieceWith(func(p *impl.V6) { p.Off, p.More, p.Id = 0, false, id }), 3, 0, 0)
	}
}

// Senders that are nobody, and all that are but a bit or a byte beside them.
func TestToldToWhom(t *testing.T) {
	for _, data := range []string{"", filler(30)} {
		four := func(src string) impl.V4 {
			return fourWith(func(p *impl.V4) { p.Src, p.Data = src, data })
		}
		for _, src := range []string{"\x00\x00\x00\x00", "\xff\xff\xff\xff"} {
			wantFourKind(t, told(impl.Prefix{Addr: src, Bits: 32}), four(src))
			for at := range int64(32) {
				wantFourToldOf(t, fmt.Sprintf("bit %d of %q turned", at, src), four(withBitFlipped(src, at)), 3, 0, 0)
			}
		}
		for _, text := range []string{"0.0.0.1", "0.0.0.255", "255.0.0.0", "255.255.255.0", "0.255.0.255", "255.0.0.255", "0.255.255.255",
			"255.255.255.254", "224.0.0.1", "127.0.0.1", "10.0.0.0", "169.254.255.255"} {
			wantFourToldOf(t, text, four(addressOf(text)), 3, 0, 0)
		}
		six := func(src string) impl.V6 {
			return sixWith(func(p *impl.V6) { p.Src, p.Data = src, data })
		}
		none := strings.Repeat("\x00", 16)
		wantSixKind(t, "::", six(none))
		for at := range int64(128) {
			wantSixToldOf(t, fmt.Sprintf("bit %d of :: turned", at), six(withBitFlipped(none, at)), 1, 0, 0)
		}
		for _, rest := range madeAddresses(16, 30) {
			for first := range 256 {
				what, src := fmt.Sprintf("a Src that begins with %d", first), string([]byte{byte(first)})+rest[1:]
				switch {
				case first == 255, src == none:
					wantSixKind(t, what, six(src))
				default:
					wantSixToldOf(t, what, six(src), 1, 0, 0)
				}
			}
		}
	}
	// Where the packet was going to, and from where it is told of, counts for nothing.
	for _, a := range []string{"\x00\x00\x00\x00", "\xff\xff\xff\xff", fourPacket().Src} {
		wantFourToldOf(t, "to such a Dst", fourWith(func(p *impl.V4) { p.Dst = a }), 3, 0, 0)
		got := impl.TellFour(a, fourPacket(), 3, 0, 0)
		wantFour(t, "from such an address", got, toldOfFour(a, fourPacket(), 3, 0, 0))
		wantNumber(t, "from such an address", got.Code, impl.OK)
	}
	for _, a := range []string{strings.Repeat("\x00", 16), strings.Repeat("\xff", 16), sixPacket().Src} {
		wantSixToldOf(t, "to such a Dst", sixWith(func(p *impl.V6) { p.Dst = a }), 1, 0, 0)
		got := impl.TellSix(a, sixPacket(), 1, 0, 0)
		wantSix(t, "from such an address", got, toldOfSix(a, sixPacket(), 1, 0, 0))
		wantNumber(t, "from such an address", got.Code, impl.OK)
	}
}

// Of messages those alone are told of that ask or answer: of ICMP 0 and 8, of ICMPv6 all from 128 on.
func TestToldOfMessages(t *testing.T) {
	four := func(data string, more bool) impl.V4 {
		return fourWith(func(p *impl.V4) { p.Proto, p.Data, p.More = impl.Icmp, data, more })
	}
	six := func(data string, piece bool) impl.V6 {
		return sixWith(func(p *impl.V6) { p.Next, p.Data, p.Piece, p.More = impl.Icmp6, data, piece, piece })
	}
	for _, more := range []bool{false, true} {
		wantFourKind(t, "ICMP without data", four("", more))
		wantSixKind(t, "ICMPv6 without data", six("", more))
	}
	for first := range 256 {
		for _, rest := range []string{"", "\x00", "\x01", "\x00\x00\x00\x00\x07\x00\x01", "\x08\x80\x00\x00\x07\x00\x01", filler(63), filler(impl.MaxData - 1)} {
			what, data := fmt.Sprintf("kind %d, %d bytes", first, 1+len(rest)), string([]byte{byte(first)})+rest
			more := len(data)%8 == 0 && first%2 == 0
			if first == 0 || first == 8 {
				wantFourToldOf(t, what, four(data, more), 3, 1, 0)
			} else {
				wantFourKind(t, what, four(data, more))
			}
			if first >= 128 {
				wantSixToldOf(t, what, six(data, more), 1, 1, 0)
			} else {
				wantSixKind(t, what, six(data, more))
			}
		}
	}
}

// What is told is itself not told of, unless it is told by a kind that asks or answers.
func TestToldIsNotToldOf(t *testing.T) {
	for kind := range int64(256) {
		what := fmt.Sprintf("told by kind %d", kind)
		for _, why := range fourExamples()[:4] {
			got := wantFourToldOf(t, what, why, kind, 8, 65535)
			if kind == 0 || kind == 8 {
				wantFourToldOf(t, what, got, 3, 0, 0)
			} else {
				wantFourKind(t, what, got)
			}
		}
		for _, why := range sixExamples()[:2] {
			got := wantSixToldOf(t, what, why, kind, 128, 65535)
			if kind >= 128 {
				wantSixToldOf(t, what, got, 1, 0, 0)
			} else {
				wantSixKind(t, what, got)
			}
		}
	}
}

// kind and code are bytes, word is a word: all of these are told as they are, at their limits too.
func TestNumbersThatAreTold(t *testing.T) {
	for n := range int64(256) {
		four, six := wantFourToldOf(t, "a kind", fourPacket(), n, 255-n, 256*n+1), wantSixToldOf(t, "a kind", sixPacket(), n, 255-n, 256*n+1)
		start := string([]byte{byte(n), byte(255 - n)})
		wantText(t, "kind and code of four", four.Data[:2], start)
		wantText(t, "kind and code of six", six.Data[:2], start)
		wantText(t, "two bytes 0 of four", four.Data[4:6], "\x00\x00")
		wantText(t, "two bytes 0 of six", six.Data[4:6], "\x00\x00")
	}
	for _, word := range someWords {
		for _, n := range []int64{0, 3, 255} {
			four, six := wantFourToldOf(t, "a word", fourPacket(), n, 0, word), wantSixToldOf(t, "a word", sixPacket(), n, 0, word)
			wantNumber(t, "a word of four", impl.Word(four.Data, 6), word)
			wantNumber(t, "a word of six", impl.Word(six.Data, 6), word)
		}
	}
	for _, n := range noBytes {
		wantNoFourTold(t, "kind", gateFour, fourPacket(), n, 0, 0, impl.ErrForm)
		wantNoFourTold(t, "code", gateFour, fourPacket(), 3, n, 0, impl.ErrForm)
		wantNoFourTold(t, "kind and code", gateFour, fourPacket(), n, n, 1280, impl.ErrForm)
		wantNoSixTold(t, "kind", gateSix, sixPacket(), n, 0, 0, impl.ErrForm)
		wantNoSixTold(t, "code", gateSix, sixPacket(), 1, n, 0, impl.ErrForm)
		wantNoSixTold(t, "kind and code", gateSix, sixPacket(), n, n, 1280, impl.ErrForm)
	}
	for _, n := range noWords {
		wantNoFourTold(t, "word", gateFour, fourPacket(), 3, 0, n, impl.ErrForm)
		wantNoSixTold(t, "word", gateSix, sixPacket(), 1, 0, n, impl.ErrForm)
	}
}

// A check may come to 0, and is told so: no word stands in its place.
func TestToldWithCheckOfZero(t *testing.T) {
	met := [2]bool{}
	for word := range int64(65536) {
		if got := impl.TellFour(gateFour, fourPacket(), 3, 4, word); impl.Word(got.Packet.Data, 2) == 0 {
			met[0] = true
			wantFourToldOf(t, "a check of 0", fourPacket(), 3, 4, word)
		}
		if got := impl.TellSix(gateSix, sixPacket(), 2, 0, word); impl.Word(got.Packet.Data, 2) == 0 {
			met[1] = true
			wantSixToldOf(t, "a check of 0", sixPacket(), 2, 0, word)
		}
	}
	wantAnswer(t, "a check of 0 was met", met[0] && met[1], true)
}

// The check is of all data, and in IPv6 of the addresses too: an odd number of bytes, other ends, other bytes.
func TestChecksThatAreTold(t *testing.T) {
	for count := range 20 {
		wantFourToldOf(t, "odd and even", fourWith(func(p *impl.V4) { p.Data = strings.Repeat("\xff", count) }), 3, 4, 1500)
		wantSixToldOf(t, "odd and even", sixWith(func(p *impl.V6) { p.Data = strings.Repeat("\xff", count) }), 2, 0, 1500)
	}
	for i, from := range madeAddresses(16, 40) {
		src := madeAddresses(16, 40)[41-i]
		src = "\x20" + src[1:]
		why := sixWith(func(p *impl.V6) { p.Src = src })
		got := impl.TellSix(from, why, 1, 4, 0)
		wantSix(t, "between made ends", got, toldOfSix(from, why, 1, 4, 0))
		wantAnswer(t, "the check between made ends", impl.CarryRight(from, src, impl.Icmp6, got.Packet.Data), true)
	}
	for i, from := range madeAddresses(4, 40) {
		src := "\x0a" + madeAddresses(4, 40)[41-i][1:]
		why := fourWith(func(p *impl.V4) { p.Src = src })
		got := impl.TellFour(from, why, 3, 4, 0)
		wantFour(t, "between made ends", got, toldOfFour(from, why, 3, 4, 0))
		wantAnswer(t, "the check between made ends", impl.CarryRight(from, src, impl.Icmp, got.Packet.Data), true)
	}
}

// What is told comes back from its bytes as it is, the longest too.
func TestToldComesBackFromBytes(t *testing.T) {
	four := wantFourToldOf(t, "the longest of four", fourWith(func(p *impl.V4) { p.Options, p.Data = filler(40), filler(impl.MaxData) }), 3, 4, 1280)
	wantNumber(t, "its bytes", int64(len(impl.V4Bytes(four))), 20+8+60+8)
	wantFour(t, "the longest of four, read", impl.V4Read(impl.V4Bytes(four)), impl.V4Out{Packet: four})
	six := wantSixToldOf(t, "the longest of six", sixWith(func(p *impl.V6) { p.Data = filler(impl.MaxData) }), 2, 0, 1280)
	wantNumber(t, "its bytes", int64(len(impl.V6Bytes(six))), 40+8+1200)
	wantSix(t, "the longest of six, read", impl.V6Read(impl.V6Bytes(six)), impl.V6Out{Packet: six})
	// What is told of a short packet has all of it.
	short := wantSixToldOf(t, "a short one", sixPacket(), 2, 0, 1280)
	wantSix(t, "a short one, read from what is told", impl.V6Read(short.Data[8:]), impl.V6Out{Packet: sixPacket()})
	tiny := fourWith(func(p *impl.V4) { p.Data = "8 bytes." })
	wantFour(t, "one of eight bytes, read from what is told", impl.V4Read(wantFourToldOf(t, "eight bytes", tiny, 3, 4, 0).Data[8:]), impl.V4Out{Packet: tiny})
}

// untoldFours are right packets that nothing is told of.
func untoldFours() map[string]impl.V4 {
	return map[string]impl.V4{
		"an Off":                 fourWith(func(p *impl.V4) { p.Off = 1 }),
		"from nobody":            fourWith(func(p *impl.V4) { p.Src = "\x00\x00\x00\x00" }),
		"from all":               fourWith(func(p *impl.V4) { p.Src = "\xff\xff\xff\xff" }),
		"a message":              fourWith(func(p *impl.V4) { p.Proto, p.Data = impl.Icmp, "\x03\x00data" }),
		"a message without Data": fourWith(func(p *impl.V4) { p.Proto, p.Data = impl.Icmp, "" }),
		"all of these":           fourWith(func(p *impl.V4) { p.Off, p.Src, p.Proto, p.Data = 1, "\xff\xff\xff\xff", impl.Icmp, "" }),
	}
}

// untoldSixes are right packets that nothing is told of.
func untoldSixes() map[string]impl.V6 {
	none, many := strings.Repeat("\x00", 16), "\xff"+filler(15)
	return map[string]impl.V6{
		"an Off":                 sixPiece(),
		"from nobody":            sixWith(func(p *impl.V6) { p.Src = none }),
		"from many":              sixWith(func(p *impl.V6) { p.Src = many }),
		"a message":              sixWith(func(p *impl.V6) { p.Next, p.Data = impl.Icmp6, "\x01\x00data" }),
		"a message without Data": sixWith(func(p *impl.V6) { p.Next, p.Data = impl.Icmp6, "" }),
		"all of these":           pieceWith(func(p *impl.V6) { p.Src, p.Next, p.Data = many, impl.Icmp6, "" }),
	}
}

// froms are texts that are no address of so many bytes, with the code that tells so.
func froms(size int) map[string]int64 {
	codes := map[string]int64{}
	for _, text := range append(noAddresses(), madeAddresses(20-size, 5)...) {
		codes[text] = impl.ErrForm
		if len(text) > impl.MaxBytes {
			codes[text] = impl.ErrSize
		}
	}
	return codes
}

func TestToldFromWrongEnds(t *testing.T) {
	for from, fault := range froms(4) {
		what := fmt.Sprintf("from %d bytes", len(from))
		wantNoFourTold(t, what, from, fourPacket(), 3, 0, 0, fault)
		for other, why := range untoldFours() {
			wantNoFourTold(t, what+", "+other, from, why, 3, 0, 0, fault)
		}
	}
	for from, fault := range froms(16) {
		what := fmt.Sprintf("from %d bytes", len(from))
		wantNoSixTold(t, what, from, sixPacket(), 1, 0, 0, fault)
		for other, why := range untoldSixes() {
			wantNoSixTold(t, what+", "+other, from, why, 1, 0, 0, fault)
		}
	}
}

// Packets that are not right are refused with ErrForm, also those of which nothing would be told; a text that is
// handed in and is too long is told ahead of that.
func TestToldOfWrongPackets(t *testing.T) {
	long := filler(impl.MaxBytes + 1)
	for what, change := range wrongFours {
		whys := []impl.V4{fourWith(change)}
		for _, why := range untoldFours() {
			whys = append(whys, packetWith(why, change))
		}
		for _, why := range whys {
			if fourIsRight(why) {
				continue
			}
			wantNoFourTold(t, what, gateFour, why, 3, 0, 0, impl.ErrForm)
			wantNoFourTold(t, what+", all else wrong", "", why, -1, 256, 65536, impl.ErrForm)
			wantNoFourTold(t, what+", from too long", long, why, 3, 0, 0, impl.ErrSize)
		}
	}
	for what, change := range wrongSixes {
		whys := []impl.V6{sixWith(change), pieceWith(change)}
		for _, why := range untoldSixes() {
			whys = append(whys, sixPacketWith(why, change))
		}
		met := false
		for _, why := range whys {
			// Some are wrong only of a piece, or of none.
			if sixIsRight(why) {
				continue
			}
			met = true
			wantNoSixTold(t, what, gateSix, why, 1, 0, 0, impl.ErrForm)
			wantNoSixTold(t, what+", all else wrong", "", why, -1, 256, 65536, impl.ErrForm)
			wantNoSixTold(t, what+", from too long", long, why, 1, 0, 0, impl.ErrSize)
		}
		wantAnswer(t, what+": met", met, true)
	}
}

// Each choice of faults, beside packets that are told of and that are not: the first one named is told.
func TestToldFaultsMeet(t *testing.T) {
	type call struct {
		from             string
		kind, code, word int64
	}
	calls := map[int64][]call{impl.OK: {{"", 3, 0, 0}, {"", 255, 255, 65535}}}
	for _, n := range []int64{-1, 65536, math.MaxInt64} {
		calls[impl.ErrForm] = append(calls[impl.ErrForm], call{"", n, 0, 0}, call{"", 3, n, 0}, call{"", 3, 0, n},
			call{"short", 3, 0, 0}, call{"short", n, n, n})
	}
	long := filler(impl.MaxBytes + 1)
	calls[impl.ErrSize] = []call{{long, 3, 0, 0}, {long, -1, 0, 0}, {long, 3, 256, 0}, {long, 3, 0, 65536}}
	for fault, list := range calls {
		for _, c := range list {
			four, six := c.from, c.from
			if c.from == "" {
				four, six = gateFour, gateSix
			}
			what := fmt.Sprintf("from %d bytes, %d, %d, %d", len(c.from), c.kind, c.code, c.word)
			wantNumber(t, what, impl.TellFour(four, fourPacket(), c.kind, c.code, c.word).Code, fault)
			wantNumber(t, what, impl.TellSix(six, sixPacket(), c.kind, c.code, c.word).Code, fault)
			later := fault
			if fault == impl.OK {
				later = impl.ErrKind
			}
			for other, why := range untoldFours() {
				wantNoFourTold(t, what+", "+other, four, why, c.kind, c.code, c.word, later)
			}
			for other, why := range untoldSixes() {
				wantNoSixTold(t, what+", "+other, six, why, c.kind, c.code, c.word, later)
			}
			if fault == impl.OK {
				later = impl.ErrForm
			}
			wantNoFourTold(t, what+", no packet", four, impl.V4{}, c.kind, c.code, c.word, later)
			wantNoSixTold(t, what+", no packet", six, impl.V6{}, c.kind, c.code, c.word, later)
		}
	}
}

func TestToldIsNewMemory(t *testing.T) {
	for _, example := range append(fourExamples(), impl.V4{}) {
		why, from := ownTexts(example), strings.Clone(gateFour)
		got := impl.TellFour(from, why, 3, 4, 1280)
		wantFour(t, "of four", got, toldOfFour(gateFour, example, 3, 4, 1280))
		wantNewTexts(t, "of four", textsOfFour(got.Packet), append(textsOfFour(why), from))
		wantApart(t, "of four", textsOfFour(got.Packet))
		again := impl.TellFour(from, why, 3, 4, 1280)
		wantFour(t, "of four, asked again", again, got)
		wantNewTexts(t, "of four, two answers", textsOfFour(got.Packet), textsOfFour(again.Packet))
		wantAnswer(t, "what was handed in", why == example && from == gateFour, true)
		// One text as the sender's and the gateway's.
		once := impl.TellFour(why.Src, why, 3, 4, 1280)
		wantApart(t, "of four, one end", textsOfFour(once.Packet))
		wantNewTexts(t, "of four, one end", textsOfFour(once.Packet), textsOfFour(why))
	}
	for _, example := range append(sixExamples(), impl.V6{}) {
		why, from := ownSix(example), strings.Clone(gateSix)
		got := impl.TellSix(from, why, 2, 0, 1280)
		wantSix(t, "of six", got, toldOfSix(gateSix, example, 2, 0, 1280))
		wantNewTexts(t, "of six", textsOfSix(got.Packet), append(textsOfSix(why), from))
		wantApart(t, "of six", textsOfSix(got.Packet))
		again := impl.TellSix(from, why, 2, 0, 1280)
		wantSix(t, "of six, asked again", again, got)
		wantNewTexts(t, "of six, two answers", textsOfSix(got.Packet), textsOfSix(again.Packet))
		wantAnswer(t, "what was handed in", why == example && from == gateSix, true)
		once := impl.TellSix(why.Src, why, 2, 0, 1280)
		wantApart(t, "of six, one end", textsOfSix(once.Packet))
		wantNewTexts(t, "of six, one end", textsOfSix(once.Packet), textsOfSix(why))
	}
}

// number is mostly one of the least ones up to most, and now and then one beside the limits.
func (d *dice) number(most int64) int64 {
	if d.upTo(30) == 0 {
		return []int64{-1, most + 1, math.MaxInt64, math.MinInt64}[d.upTo(3)]
	}
	return d.upTo(most)
}

// Packets by chance, right ones and wrong ones, many of them messages and from nobody: what is told is as the
// document's words reckon it, and promise 20 holds.
func TestMadeTells(t *testing.T) {
	d := dice(20)
	met := map[string]int{}
	for range 12000 {
		why, from := d.four(), d.end(4)
		if d.yes() {
			why.Off = 0
		}
		if d.upTo(2) == 0 {
			why.Proto, why.Data = impl.Icmp, string([]byte{byte(d.upTo(12))})+why.Data
		}
		if d.upTo(20) == 0 {
			why.Src = strings.Repeat(string([]byte{byte(255 * d.upTo(1))}), 4)
		}
		kind, code, word := d.number(255), d.number(255), d.number(65535)
		got := impl.TellFour(from, why, kind, code, word)
		wantFour(t, fmt.Sprintf("TellFour of %#v", why), got, toldOfFour(from, why, kind, code, word))
		met[fmt.Sprintf("of four: %d", got.Code)]++
		if got.Code == impl.OK {
			wantAnswer(t, "right", impl.V4Right(got.Packet) && got.Packet.Dst == why.Src && impl.SumRight(got.Packet.Data), true)
		}
		six, from := d.six(), d.end(16)
		if d.yes() {
			six.Off = 0
		}
		if d.upTo(2) == 0 {
			six.Next, six.Data = impl.Icmp6, string([]byte{byte(120 + d.upTo(15))})+six.Data
		}
		if d.upTo(20) == 0 {
			six.Src = strings.Repeat(string([]byte{byte(255 * d.upTo(1))}), 16)
		}
		six.Data += filler(int(d.upTo(1) * d.upTo(1300)))
		told := impl.TellSix(from, six, kind, code, word)
		wantSix(t, fmt.Sprintf("TellSix of %#v", six), told, toldOfSix(from, six, kind, code, word))
		met[fmt.Sprintf("of six: %d", told.Code)]++
		if told.Code == impl.OK {
			p := told.Packet
			wantAnswer(t, "right", impl.V6Right(p) && p.Dst == six.Src && impl.CarryRight(p.Src, p.Dst, p.Next, p.Data), true)
		}
	}
	for _, what := range []string{"of four: 0", "of four: 1", "of four: 2", "of four: 11", "of six: 0", "of six: 1", "of six: 2", "of six: 11"} {
		if met[what] < 100 {
			t.Errorf("too few %s: %v", what, met)
		}
	}
}

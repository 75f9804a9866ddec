package tests

import (
	"fmt"
	"slices"
	"strings"
	"testing"

	"loop.example/g00314/impl"
)

// mixedBib is that of home with a bind of TCP of its host of 16 bytes behind, which thus has one of each proto.
func mixedBib() impl.Bib {
	return bibWith(homeBib(), func(b *impl.Bib) {
		bind := impl.Bind{Proto: impl.Tcp, In: hostSix, InPort: 6, Out: lentTwo, OutPort: 1003}
		b.Binds, b.Sessions = append(b.Binds, bind), append(b.Sessions, openSession(bind, peerB, 80, 570))
	})
}

// sixesTaken are packets of each proto that go out beside the pool and that bib, of sessions that there are and of
// new ones.
func sixesTaken() []impl.V6 {
	l := []impl.V6{goesBySix(impl.Udp, hostSix, 40000, peerB, 53, 0), goesBySix(impl.Tcp, hostSix, 6, peerB, 80, ack),
		goesBySix(impl.Icmp, hostSix, 7, peerB, 0, 0)}
	for _, proto := range bibProtos {
		l = append(l, goesBySix(proto, hostSix, 1002, peerA, 53, syn), goesBySix(proto, newSix, 1005, peerC, 80, syn))
	}
	return l
}

// sixesUntaken would be refused with another code than ErrForm, if all else were right.
func sixesUntaken() []impl.V6 {
	q := goesBySix(impl.Udp, newSix, 1005, peerC, 80, 0)
	return []impl.V6{
		sixPacketWith(q, func(q *impl.V6) { q.Piece, q.Id = true, 5 }),
		sixPacketWith(q, func(q *impl.V6) { q.Dst = otherSix }),
		sixPacketWith(q, func(q *impl.V6) { q.Next = 47 }),
		sixPacketWith(q, func(q *impl.V6) { q.Data = "short" }),
		goesBySix(impl.Tcp, newSix, 1005, peerC, 80, ack),
	}
}

// foursTaken are packets of each proto that come in so, of sessions that there are and of new ones.
func foursTaken() []impl.V4 {
	var l []impl.V4
	for _, peer := range []string{peerB, peerC} {
		l = append(l, sent(flowFrom(impl.Udp, peer, 53, lentTwo, 1002), 0), sent(flowFrom(impl.Tcp, peer, 80, lentTwo, 1003), syn),
			sent(flowFrom(impl.Icmp, peer, 1001, lentTwo, 0), 0))
	}
	return l
}

// foursUntaken would be refused with another code than ErrForm, if all else were right.
func foursUntaken() []impl.V4 {
	q := sent(flowFrom(impl.Udp, peerB, 53, lentTwo, 1002), 0)
	return []impl.V4{
		packetWith(q, func(q *impl.V4) { q.Whole, q.Off = false, 3 }),
		packetWith(q, func(q *impl.V4) { q.Dst = peerA }),
		packetWith(q, func(q *impl.V4) { q.Proto = 47 }),
		packetWith(q, func(q *impl.V4) { q.Data = "short" }),
		sent(flowFrom(impl.Udp, peerB, 53, lentTwo, 1009), 0),
		sent(flowFrom(impl.Udp, peerA, 53, lentOne, 1002), 0),
		withoutCheck(q),
	}
}

func TestCrossingsThatAreTaken(t *testing.T) {
	p, b := filtered(0), mixedBib()
	wantAnswer(t, "the bib is right", impl.BibRight(p, b), true)
	for i, q := range sixesTaken() {
		sixGoes.passes(t, fmt.Sprintf("packet %d", i), p, b, homeSix, q, 100)
	}
	for i, q := range foursTaken() {
		sixComes.passes(t, fmt.Sprintf("packet %d", i), p, b, homeSix, q, 100)
	}
	for i, code := range []int64{impl.ErrFrag, impl.ErrNone, impl.ErrKind, impl.ErrShort, impl.ErrNone} {
		sixGoes.refuses(t, fmt.Sprintf("packet %d", i), p, b, homeSix, sixesUntaken()[i], 100, code)
	}
	for i, code := range []int64{impl.ErrFrag, impl.ErrNone, impl.ErrKind, impl.ErrShort, impl.ErrNone, impl.ErrKind, impl.ErrSum} {
		sixComes.refuses(t, fmt.Sprintf("packet %d", i), p, b, homeSix, foursUntaken()[i], 100, code)
	}
}

// wantWrongOnBothWays asks that what is handed in beside a packet is refused ahead of all else.
func wantWrongOnBothWays(t *testing.T, what string, p impl.Pool, b impl.Bib, x impl.Prefix, now int64) {
	t.Helper()
	for _, q := range append(sixesTaken(), sixesUntaken()...) {
		sixGoes.refuses(t, what, p, b, x, q, now, impl.ErrForm)
	}
	for _, q := range append(foursTaken(), foursUntaken()...) {
		sixComes.refuses(t, what, p, b, x, q, now, impl.ErrForm)
	}
}

func TestSixOfWrongPoolsAndBibs(t *testing.T) {
	for what, change := range wrongPools {
		wantWrongOnBothWays(t, "a pool: "+what, poolWith(filtered(0), change), mixedBib(), homeSix, 100)
	}
	for what, change := range wrongBibs {
		wantWrongOnBothWays(t, "a bib: "+what, filtered(0), bibWith(mixedBib(), change), homeSix, 100)
	}
}

// Prefixes that Embed does not take, that of the packet's own address with a bit too much among them.
func TestSixOfWrongPrefixes(t *testing.T) {
	wrong := append(wrongForEmbed(), prefixOf("64:ff9b::/97"), prefixOf("64:ff9b::/95"), prefixOf("64:ff9b::c000:208/128"),
		impl.Prefix{Addr: homeSix.Addr}, impl.Prefix{Addr: homeSix.Addr, Bits: -96}, prefixOf("203.0.113.0/32"),
		impl.Prefix{Addr: putInto(homeSix, peerB), Bits: 96}, impl.Prefix{Addr: putInto(homeSix, peerB), Bits: 64},
		impl.Prefix{Addr: homeSix.Addr[:15], Bits: 96}, impl.Prefix{Addr: homeSix.Addr + "\x00", Bits: 96})
	for _, x := range wrong {
		wantWrongOnBothWays(t, fmt.Sprintf("a prefix of %d bytes and %d bits", len(x.Addr), x.Bits), filtered(0), mixedBib(), x, 100)
	}
}

func TestSixAtTimes(t *testing.T) {
	p, b := filtered(0), mixedBib()
	lives := map[int64][]int64{impl.Udp: {11}, impl.Icmp: {22}, impl.Tcp: {33, 44}}
	wantLives := func(what string, got impl.NatOut, proto int64, now int64) {
		t.Helper()
		touched := slices.ContainsFunc(got.Bib.Sessions, func(s impl.Session) bool {
			return s.Proto == proto && slices.Contains(lives[proto], s.Until-now)
		})
		wantAnswer(t, fmt.Sprintf("%s: a session is until its life from %d", what, now), touched, true)
	}
	for _, now := range []int64{0, 1, 400, 999999999, 1000000000} {
		for _, q := range sixesTaken() {
			got := sixGoes.passes(t, fmt.Sprintf("at %d", now), p, b, homeSix, q, now)
			wantLives("out", got, got.Four.Proto, now)
		}
		for _, q := range foursTaken() {
			wantLives("in", sixComes.passes(t, fmt.Sprintf("at %d", now), p, b, homeSix, q, now), q.Proto, now)
		}
	}
	for _, now := range noTimes {
		wantWrongOnBothWays(t, fmt.Sprintf("at %d", now), p, b, homeSix, now)
	}
}

// Packets that are not right are refused ahead of all else.
func TestSixOfWrongPackets(t *testing.T) {
	p, b := filtered(0), mixedBib()
	for what, change := range wrongSixes {
		met := false
		for _, q := range append(sixesTaken(), sixesUntaken()...) {
			// Some are wrong only of a piece, or of none.
			if q = sixPacketWith(q, change); !sixIsRight(q) {
				met = true
				sixGoes.refuses(t, what, p, b, homeSix, q, 100, impl.ErrForm)
			}
		}
		wantAnswer(t, what+": met", met, true)
	}
	for what, change := range wrongFours {
		met := false
		for _, q := range append(foursTaken(), foursUntaken()...) {
			if q = packetWith(q, change); !fourIsRight(q) {
				met = true
				sixComes.refuses(t, what, p, b, homeSix, q, 100, impl.ErrForm)
			}
		}
		wantAnswer(t, what+": met", met, true)
	}
}

// Pieces do not go either way: of IPv6 each Piece, of IPv4 what has More or an Off.
func TestSixOfPieces(t *testing.T) {
	p, b := filtered(0), mixedBib()
	sixes := map[string]func(q *impl.V6){
		"all of its packet":    func(q *impl.V6) { q.Piece = true },
		"that, with an Id":     func(q *impl.V6) { q.Piece, q.Id = true, 4294967295 },
		"More":                 func(q *impl.V6) { q.Piece, q.More, q.Data = true, true, q.Data[:len(q.Data)/8*8] },
		"More, without Data":   func(q *impl.V6) { q.Piece, q.More, q.Data = true, true, "" },
		"an Off of 1":          func(q *impl.V6) { q.Piece, q.Off = true, 1 },
		"both":                 func(q *impl.V6) { q.Piece, q.More, q.Off, q.Data = true, true, 5, q.Data[:len(q.Data)/8*8] },
		"too far for IPv4":     func(q *impl.V6) { q.Piece, q.More, q.Off, q.Data = true, false, 8189, filler(4) },
		"the last of all":      func(q *impl.V6) { q.Piece, q.More, q.Off, q.Data = true, false, 8191, filler(7) },
		"an Off, without Data": func(q *impl.V6) { q.Piece, q.More, q.Off, q.Data = true, false, 1, "" },
	}
	for what, change := range sixes {
		for _, q := range append(sixesTaken(), sixesUntaken()...) {
			sixGoes.refuses(t, what, p, b, homeSix, sixPacketWith(q, change), 100, impl.ErrFrag)
		}
	}
	fours := map[string]func(q *impl.V4){
		"More":                 func(q *impl.V4) { q.Whole, q.More, q.Off, q.Data = false, true, 0, q.Data[:len(q.Data)/8*8] },
		"More, without Data":   func(q *impl.V4) { q.Whole, q.More, q.Off, q.Data = false, true, 0, "" },
		"an Off of 1":          func(q *impl.V4) { q.Whole, q.Off = false, 1 },
		"an Off of 8000":       func(q *impl.V4) { q.Whole, q.Off = false, 8000 },
		"both":                 func(q *impl.V4) { q.Whole, q.More, q.Off, q.Data = false, true, 5, q.Data[:len(q.Data)/8*8] },
		"an Off, without Data": func(q *impl.V4) { q.Whole, q.Off, q.Data = false, 1, "" },
	}
	for what, change := range fours {
		for _, q := range append(foursTaken(), foursUntaken()...) {
			sixComes.refuses(t, what, p, b, homeSix, packetWith(q, change), 100, impl.ErrFrag)
		}
	}
	for _, q := range foursTaken() {
		sixComes.passes(t, "neither, and not Whole", p, b, homeSix, packetWith(q, func(q *impl.V4) { q.Whole = false }), 100)
	}
}

// Addresses that are not in the prefix, by each of its bits, and ones that are in it, but that no four bytes make.
func TestSixToOtherAddresses(t *testing.T) {
	p, b := filtered(0), mixedBib()
	for _, x := range sixPrefixes {
		places, _ := placesIn(x)
		for _, proto := range bibProtos {
			q := sentSix(outBySix(proto, newSix, 1005, x, peerC, 80), syn)
			sixGoes.passes(t, "by "+told(x), p, b, x, q, 100)
			for at := range int64(128) {
				what := fmt.Sprintf("by %s, another bit %d", told(x), at)
				other := sixPacketWith(q, func(q *impl.V6) { q.Dst = withBitFlipped(q.Dst, at) })
				other.Data = checked(flowTold(other.Src, other.Dst, other.Next, other.Data).Flow, other.Data)
				empty := sixPacketWith(other, func(q *impl.V6) { q.Data = "" })
				switch {
				case at < x.Bits:
					sixGoes.refuses(t, what, p, b, x, other, 100, impl.ErrNone)
					sixGoes.refuses(t, what+", no Data", p, b, x, empty, 100, impl.ErrNone)
				case slices.Contains(places[:], int(at/8)):
					got := sixGoes.passes(t, what, p, b, x, other, 100)
					wantText(t, what, putInto(x, got.Four.Dst), other.Dst)
				default:
					sixGoes.refuses(t, what, p, b, x, other, 100, impl.ErrSyntax)
					sixGoes.refuses(t, what+", no Data", p, b, x, empty, 100, impl.ErrSyntax)
				}
			}
		}
	}
}

// Of all protos three go each way; between sixes Icmp is none of them, between fours Icmp6.
func TestSixOfProtos(t *testing.T) {
	p, b := filtered(0), mixedBib()
	for proto := range int64(256) {
		for _, data := range []string{"", "short", filler(8), layCarried(flowFrom(impl.Udp, "", 1002, "", 1002), false, filler(30)), "\x08\x00\x00\x00\x03\xe9\x00\x01", "\x80\x00\x00\x00\x03\xe9\x00\x01"} {
			what := fmt.Sprintf("proto %d, %d bytes", proto, len(data))
			q := carryingSix(impl.Flow{Proto: proto, Src: newSix, Dst: putInto(homeSix, peerA)}, data)
			switch {
			case proto == 44:
				sixGoes.refuses(t, what, p, b, homeSix, q, 100, impl.ErrForm)
			case !protoBetween(proto, 16):
				sixGoes.refuses(t, what, p, b, homeSix, q, 100, impl.ErrKind)
			}
			if !protoBetween(proto, 4) {
				sixComes.refuses(t, what, p, b, homeSix, carrying(impl.Flow{Proto: proto, Src: peerB, Dst: lentTwo}, data), 100, impl.ErrKind)
			}
		}
	}
}

// Of ICMP what asks and what answers alone goes by, each by the numbers of its own kind of address.
func TestSixOfIcmpKinds(t *testing.T) {
	p, b := filtered(0), mixedBib()
	out, in := goesBySix(impl.Icmp, hostSix, 7, peerB, 0, 0), sent(flowFrom(impl.Icmp, peerB, 1001, lentTwo, 0), 0)
	for first := range 256 {
		for _, second := range []byte{0, 1, 8, 128, 255} {
			what, begin := fmt.Sprintf("kind %d, code %d", first, second), string([]byte{byte(first), second})
			went := sixPacketWith(out, func(q *impl.V6) { q.Data = begin + q.Data[2:] })
			came := packetWith(in, func(q *impl.V4) { q.Data = begin + q.Data[2:] })
			if (first == 128 || first == 129) && second == 0 {
				wantNumber(t, what, int64(sixGoes.passes(t, what, p, b, homeSix, went, 100).Four.Data[0]), map[int]int64{128: 8, 129: 0}[first])
			} else {
				sixGoes.refuses(t, what, p, b, homeSix, went, 100, impl.ErrKind)
			}
			if (first == 0 || first == 8) && second == 0 {
				wantNumber(t, what, int64(sixComes.passes(t, what, p, b, homeSix, came, 100).Six.Data[0]), map[int]int64{8: 128, 0: 129}[first])
			} else {
				sixComes.refuses(t, what, p, b, homeSix, came, 100, impl.ErrKind)
			}
		}
	}
}

// Data that end ahead of their header's end have no ports, whatever stands in them.
func TestSixOfShortData(t *testing.T) {
	p, b := filtered(0), mixedBib()
	header := map[int64]int{impl.Tcp: 20, impl.Udp: 8, impl.Icmp: 8, impl.Icmp6: 8}
	withFours := func(data string, fours int) string { return data[:12] + string([]byte{byte(fours << 4)}) + data[13:] }
	for _, q := range sixesTaken() {
		for length := range header[q.Next] {
			cut := sixPacketWith(q, func(q *impl.V6) { q.Data = q.Data[:length] })
			sixGoes.refuses(t, fmt.Sprintf("%d bytes", length), p, b, homeSix, cut, 100, impl.ErrShort)
		}
		sixGoes.passes(t, "the header alone", p, b, homeSix, sixPacketWith(q, func(q *impl.V6) { q.Data = q.Data[:header[q.Next]] }), 100)
		for fours := range 16 {
			what := fmt.Sprintf("a header of %d fours", fours)
			if q.Next != impl.Tcp {
				break
			}
			if q := sixPacketWith(q, func(q *impl.V6) { q.Data = withFours(q.Data, fours) }); fours < 5 || 4*fours > len(q.Data) {
				sixGoes.refuses(t, what, p, b, homeSix, q, 100, impl.ErrShort)
			} else {
				sixGoes.passes(t, what, p, b, homeSix, q, 100)
			}
		}
	}
	for _, q := range foursTaken() {
		for length := range header[q.Proto] {
			cut := packetWith(q, func(q *impl.V4) { q.Data = q.Data[:length] })
			sixComes.refuses(t, fmt.Sprintf("%d bytes", length), p, b, homeSix, cut, 100, impl.ErrShort)
		}
		sixComes.passes(t, "the header alone", p, b, homeSix, packetWith(q, func(q *impl.V4) { q.Data = q.Data[:header[q.Proto]] }), 100)
	}
}

// Of all flags those that begin something make a session; with a session that there is all go on.
func TestSixOfFlags(t *testing.T) {
	p, b := filtered(0), mixedBib()
	for flags := range int64(256) {
		what := fmt.Sprintf("flags %d", flags)
		fresh, stranger := goesBySix(impl.Tcp, newSix, 1005, peerA, 80, flags), sent(flowFrom(impl.Tcp, peerC, 80, lentTwo, 1003), flags)
		if flags&(syn|rst|ack) == syn {
			wantNumber(t, what+": out", sixGoes.passes(t, what, p, b, homeSix, fresh, 100).Bib.Sessions[8].State, impl.Opening)
			wantNumber(t, what+": in", sixComes.passes(t, what, p, b, homeSix, stranger, 100).Bib.Sessions[8].State, impl.Answered)
		} else {
			sixGoes.refuses(t, what, p, b, homeSix, fresh, 100, impl.ErrNone)
			sixComes.refuses(t, what, p, b, homeSix, stranger, 100, impl.ErrNone)
		}
		went := sixGoes.passes(t, what, p, b, homeSix, goesBySix(impl.Tcp, hostSix, 6, peerB, 80, flags), 100)
		wantNumber(t, what+": on from inside", went.Bib.Sessions[7].State, nextState(impl.Open, true, flags))
		came := sixComes.passes(t, what, p, b, homeSix, sent(flowFrom(impl.Tcp, peerB, 80, lentTwo, 1003), flags), 100)
		wantNumber(t, what+": on from outside", came.Bib.Sessions[7].State, nextState(impl.Open, false, flags))
		for _, proto := range []int64{impl.Udp, impl.Icmp} {
			// What stands at that place counts for TCP alone.
			q := sixPacketWith(goesBySix(proto, newSix, 1005, peerA, 80, 0), func(q *impl.V6) { q.Data = flagged(q.Data, flags) })
			wantNumber(t, what+": of no TCP", sixGoes.passes(t, what, p, b, homeSix, q, 100).Bib.Sessions[8].State, impl.Open)
		}
	}
}

// With as many sessions as Most there is no new one, and those that there are go on.
func TestSixAtMost(t *testing.T) {
	b := mixedBib()
	for most := int64(8); most <= 9; most++ {
		p := poolWith(filtered(0), func(p *impl.Pool) { p.Most = most })
		for i, q := range sixesTaken() {
			if what := fmt.Sprintf("packet %d, Most %d", i, most); i < 3 || most == 9 {
				sixGoes.passes(t, what, p, b, homeSix, q, 100)
			} else {
				sixGoes.refuses(t, what, p, b, homeSix, q, 100, impl.ErrFull)
			}
		}
		for i, q := range foursTaken() {
			if what := fmt.Sprintf("packet %d, Most %d", i, most); i < 3 || most == 9 {
				sixComes.passes(t, what, p, b, homeSix, q, 100)
			} else {
				sixComes.refuses(t, what, p, b, homeSix, q, 100, impl.ErrFull)
			}
		}
	}
}

// With the last port lent, ends that have one go on, and no other does.
func TestSixWithoutPorts(t *testing.T) {
	p := impl.Pool{Addrs: []string{lentOne}, Low: 7, High: 9, Most: 60, Lives: someLives()}
	hosts := []string{newSix, hostSix, otherSix}
	for _, proto := range bibProtos {
		b := impl.Bib{}
		for i, host := range hosts {
			b = sixGoes.passes(t, fmt.Sprintf("host %d", i), p, b, homeSix, goesBySix(proto, host, 8, peerA, 53, syn), 100).Bib
		}
		sixGoes.refuses(t, "a fourth one", p, b, homeSix, goesBySix(proto, addressOf("2001:db8::7"), 8, peerA, 53, syn), 100, impl.ErrFull)
		sixGoes.refuses(t, "another end of the first", p, b, homeSix, goesBySix(proto, newSix, 9, peerA, 53, syn), 100, impl.ErrFull)
		sixGoes.passes(t, "the first end, another peer", p, b, homeSix, goesBySix(proto, newSix, 8, peerB, 53, syn), 100)
		for i, lent := range []int64{8, 7, 9} {
			q := answerTo(sent(flowFrom(proto, lentOne, lent, peerA, 53), 0), syn|ack)
			wantText(t, "the host", sixComes.passes(t, "an answer", p, b, homeSix, q, 100).Six.Dst, hosts[i])
		}
	}
}

// What comes to an address that is none of the pool's, or to a port that is nobody's, comes to nobody.
func TestSixToNobody(t *testing.T) {
	b := mixedBib()
	for filter := range int64(3) {
		p := filtered(filter)
		for _, proto := range bibProtos {
			for _, dst := range []string{hostA, peerA, addressOf("203.0.113.0"), addressOf("203.0.113.4"), "\x00\x00\x00\x00", "\xff\xff\xff\xff"} {
				q := sent(flowFrom(proto, peerB, 53, dst, 1002), syn)
				sixComes.refuses(t, "none of the pool's", p, b, homeSix, q, 100, impl.ErrNone)
				sixComes.refuses(t, "none of the pool's, short", p, b, homeSix, packetWith(q, func(q *impl.V4) { q.Data = "" }), 100, impl.ErrNone)
			}
			sixComes.refuses(t, "nobody's port", p, b, homeSix, sent(flowFrom(proto, peerB, 1008, lentTwo, 1008), syn), 100, impl.ErrNone)
			sixComes.refuses(t, "nobody's address", p, b, homeSix, sent(flowFrom(proto, peerB, 1002, lentLast, 1002), syn), 100, impl.ErrNone)
			sixComes.refuses(t, "no port of the pool", p, b, homeSix, sent(flowFrom(proto, peerB, 999, lentTwo, 999), syn), 100, impl.ErrNone)
			sixComes.refuses(t, "port 0", p, b, homeSix, sent(flowFrom(proto, peerB, 0, lentTwo, 0), syn), 100, impl.ErrNone)
			sixComes.refuses(t, "an empty bib", p, impl.Bib{}, homeSix, sent(flowFrom(proto, peerB, 1002, lentTwo, 1002), syn), 100, impl.ErrNone)
		}
		sixComes.refuses(t, "of another proto", p, b, homeSix, sent(flowFrom(impl.Tcp, peerB, 53, lentTwo, 1002), syn), 100, impl.ErrNone)
		sixComes.refuses(t, "of ICMP", p, b, homeSix, sent(flowFrom(impl.Icmp, peerB, 1002, lentTwo, 0), 0), 100, impl.ErrNone)
	}
}

// A host of 4 bytes is not reached by this way; other faults are told ahead of it, and a check that lacks behind it.
func TestSixToHostOfFour(t *testing.T) {
	b := mixedBib()
	known, unknown := sent(flowFrom(impl.Udp, peerA, 53, lentOne, 1002), 0), sent(flowFrom(impl.Udp, peerC, 53, lentOne, 1002), 0)
	for filter := range int64(3) {
		p := filtered(filter)
		sixComes.refuses(t, "a known peer", p, b, homeSix, known, 100, impl.ErrKind)
		sixComes.refuses(t, "a known peer, no check", p, b, homeSix, withoutCheck(known), 100, impl.ErrKind)
		sixComes.refuses(t, "a known peer, a wrong check", p, b, homeSix, withCheckOff(known), 100, impl.ErrKind)
		sixComes.refuses(t, "TCP of a session", p, b, homeSix, sent(flowFrom(impl.Tcp, peerA, 80, lentOne, 1002), ack), 100, impl.ErrKind)
		code := map[int64]int64{0: impl.ErrKind, 1: impl.ErrNone, 2: impl.ErrNone}[filter]
		sixComes.refuses(t, "an unknown peer", p, b, homeSix, unknown, 100, code)
		sixComes.refuses(t, "an unknown peer, no check", p, b, homeSix, withoutCheck(unknown), 100, code)
		sixComes.refuses(t, "TCP that begins nothing", p, b, homeSix, sent(flowFrom(impl.Tcp, peerC, 80, lentOne, 1002), ack), 100, impl.ErrNone)
	}
	full := poolWith(filtered(0), func(p *impl.Pool) { p.Most = 8 })
	sixComes.refuses(t, "an unknown peer, Most reached", full, b, homeSix, unknown, 100, impl.ErrFull)
	sixComes.refuses(t, "a known peer, Most reached", full, b, homeSix, known, 100, impl.ErrKind)
	echoes := bibOf(impl.Bind{Proto: impl.Icmp, In: hostA, InPort: 9, Out: lentOne, OutPort: 1002})
	sixComes.refuses(t, "ICMP", filtered(0), echoes, homeSix, sent(flowFrom(impl.Icmp, peerA, 1002, lentOne, 0), 0), 100, impl.ErrKind)
}

// What would have no header of the other kind is refused ahead of that: a piece, and a proto that is not carried.
func TestSixNotRightOnceTurned(t *testing.T) {
	p, b := filtered(0), mixedBib()
	for _, q := range sixesTaken() {
		far := sixPacketWith(q, func(q *impl.V6) { q.Piece, q.Off = true, 8191-int64(len(q.Data)/8) })
		wantAnswer(t, "right as six", impl.V6Right(far), true)
		wantNumber(t, "not as four", impl.ToFour(far, lentOne, peerA).Code, impl.ErrForm)
		sixGoes.refuses(t, "too far for IPv4", p, b, homeSix, far, 100, impl.ErrFrag)
		long := q
		long.Data += filler(impl.MaxData - len(q.Data))
		sixGoes.passes(t, "the longest", p, b, homeSix, long, 100)
	}
	for _, q := range foursTaken() {
		barred := packetWith(q, func(q *impl.V4) { q.Proto = 44 })
		wantAnswer(t, "right as four", impl.V4Right(barred), true)
		wantNumber(t, "not as six", impl.ToSix(barred, newSix, hostSix).Code, impl.ErrForm)
		sixComes.refuses(t, "the proto 44", p, b, homeSix, barred, 100, impl.ErrKind)
		long := packetWith(q, func(q *impl.V4) { q.Options = filler(40) })
		long.Data += filler(impl.MaxData - len(q.Data))
		sixComes.passes(t, "the longest", p, b, homeSix, long, 100)
	}
}

// crossCall is all that is handed in with a packet, and crossFault a change to it that is refused with that code.
type crossCall[Packet any] struct {
	p   impl.Pool
	b   impl.Bib
	x   impl.Prefix
	q   Packet
	now int64
}

type crossFault[Packet any] struct {
	what   string
	code   int64
	change func(c *crossCall[Packet])
}

// wantFirstFault asks each choice of faults, told in the document's order, for the first one's code.
func wantFirstFault[Packet any](t *testing.T, way crossWay[Packet], right func() crossCall[Packet], faults []crossFault[Packet]) {
	t.Helper()
	for choice := range 1 << len(faults) {
		c, code := right(), int64(impl.OK)
		var chosen []string
		for i, fault := range faults {
			if choice>>i&1 == 0 {
				continue
			}
			if code == impl.OK {
				code = fault.code
			}
			fault.change(&c)
			chosen = append(chosen, fault.what)
		}
		if code == impl.OK {
			way.passes(t, "no fault", c.p, c.b, c.x, c.q, c.now)
			continue
		}
		way.refuses(t, strings.Join(chosen, ", "), c.p, c.b, c.x, c.q, c.now, code)
	}
}

// Of all faults that are there the one that the document names first is told.
func TestSixFaultsMeetOut(t *testing.T) {
	x := prefixOf("2001:db8:122:344::/64")
	right := func() crossCall[impl.V6] {
		return crossCall[impl.V6]{filtered(1), mixedBib(), x, sentSix(outBySix(impl.Tcp, newSix, 1005, x, peerC, 80), syn), 100}
	}
	wantFirstFault(t, sixGoes, right, []crossFault[impl.V6]{
		{"a pool", impl.ErrForm, func(c *crossCall[impl.V6]) { c.p.Low = 0 }},
		{"a bib", impl.ErrForm, func(c *crossCall[impl.V6]) { c.b.Sessions[6].Until = -1 }},
		{"a packet", impl.ErrForm, func(c *crossCall[impl.V6]) { c.q.Hops = 256 }},
		{"a prefix", impl.ErrForm, func(c *crossCall[impl.V6]) { c.x.Bits = 72 }},
		{"a time", impl.ErrForm, func(c *crossCall[impl.V6]) { c.now = -1 }},
		{"a piece", impl.ErrFrag, func(c *crossCall[impl.V6]) { c.q.Piece = true }},
		{"another prefix's", impl.ErrNone, func(c *crossCall[impl.V6]) { c.q.Dst = withBitFlipped(c.q.Dst, 63) }},
		{"nobody's four bytes", impl.ErrSyntax, func(c *crossCall[impl.V6]) { c.q.Dst = withBitFlipped(c.q.Dst, 127) }},
		{"a strange proto", impl.ErrKind, func(c *crossCall[impl.V6]) { c.q.Next = 47 }},
		{"short data", impl.ErrShort, func(c *crossCall[impl.V6]) { c.q.Data = c.q.Data[:19] }},
		{"flags that begin nothing", impl.ErrNone, func(c *crossCall[impl.V6]) { c.q.Data = flagged(c.q.Data+" ", ack)[:len(c.q.Data)] }},
		{"no session left", impl.ErrFull, func(c *crossCall[impl.V6]) { c.p.Most = 8 }},
	})
}

func TestSixFaultsMeetIn(t *testing.T) {
	right := func() crossCall[impl.V4] {
		return crossCall[impl.V4]{filtered(0), sixBib(), homeSix, sent(flowFrom(impl.Udp, peerC, 53, lentOne, 1002), 0), 100}
	}
	wantFirstFault(t, sixComes, right, []crossFault[impl.V4]{
		{"a pool", impl.ErrForm, func(c *crossCall[impl.V4]) { c.p.Low = 0 }},
		{"a bib", impl.ErrForm, func(c *crossCall[impl.V4]) { c.b.Sessions[3].Until = -1 }},
		{"a packet", impl.ErrForm, func(c *crossCall[impl.V4]) { c.q.Ttl = 256 }},
		{"a prefix", impl.ErrForm, func(c *crossCall[impl.V4]) { c.x.Bits = 72 }},
		{"a time", impl.ErrForm, func(c *crossCall[impl.V4]) { c.now = 1000000001 }},
		{"a piece", impl.ErrFrag, func(c *crossCall[impl.V4]) { c.q.Whole, c.q.Off = false, 1 }},
		{"none of the pool's", impl.ErrNone, func(c *crossCall[impl.V4]) { c.q.Dst = peerC }},
		{"a strange proto", impl.ErrKind, func(c *crossCall[impl.V4]) { c.q.Proto = 47 }},
		{"short data", impl.ErrShort, func(c *crossCall[impl.V4]) { c.q.Data = c.q.Data[:7] }},
		{"a peer that is not let in", impl.ErrNone, func(c *crossCall[impl.V4]) { c.p.Filter = 1 }},
		{"no session left", impl.ErrFull, func(c *crossCall[impl.V4]) { c.p.Most = 4 }},
		{"a host of 4 bytes", impl.ErrKind, func(c *crossCall[impl.V4]) { c.q.Data = withWord(c.q.Data, 2, 1005) }},
		{"no check", impl.ErrSum, func(c *crossCall[impl.V4]) { c.q.Data = withWord(c.q.Data+" ", 6, 0)[:len(c.q.Data)] }},
	})
	// Behind a port that is nobody's there is no host of 4 bytes.
	nobody := withoutCheck(sent(flowFrom(impl.Udp, peerC, 53, lentOne, 1009), 0))
	full := poolWith(filtered(0), func(p *impl.Pool) { p.Most = 4 })
	sixComes.refuses(t, "nobody's port, no check, no session left", full, sixBib(), homeSix, nobody, 100, impl.ErrNone)
}

// wantCrossedApart asks that an answer shares no memory with what was handed in, nor its lists with one another.
func wantCrossedApart[Packet any](t *testing.T, way crossWay[Packet], q Packet, texts []string) {
	t.Helper()
	p, b, x := filtered(0), ownBib(mixedBib()), impl.Prefix{Addr: strings.Clone(homeSix.Addr), Bits: homeSix.Bits}
	before, addrs := bibClone(wholeBib(b)), slices.Clone(p.Addrs)
	what := fmt.Sprintf("%s of %#v", way.what, q)
	got, want := way.call(p, b, x, q, 100), way.reckoned(p, mixedBib(), homeSix, q, 100)
	wantBib(t, what+": what was handed in", wholeBib(b), before)
	wantAnswer(t, what+": the pool", slices.Equal(p.Addrs, addrs), true)
	wantAnswer(t, what+": the prefix", x == homeSix, true)

	given := append(append(append(textsOfBib(b), p.Addrs...), x.Addr), texts...)
	packet := append(textsOfFour(got.Four), textsOfSix(got.Six)...)
	wantNewTexts(t, what, append(textsOfBib(got.Bib), packet...), given)
	wantNewTexts(t, what+", two lists", textsOfBinds(got.Bib.Binds...), textsOfSessions(got.Bib.Sessions))
	wantNewTexts(t, what+", the packet beside", packet, textsOfBib(got.Bib))
	wantApart(t, what, packet)

	again := way.call(p, b, x, q, 100)
	spoil(got.Bib.Binds)
	spoil(got.Bib.Sessions)
	wantBib(t, what+": what was handed in, the answer spoilt", wholeBib(b), before)
	wantNat(t, what+": the other answer", again, want)
	spoil(b.Binds)
	spoil(b.Sessions)
	spoil(p.Addrs)
	wantNat(t, what+": what was handed in spoilt", again, want)
}

func TestSixIsNewMemory(t *testing.T) {
	for _, example := range append(append(sixesTaken(), sixesUntaken()...), impl.V6{}) {
		q := ownSix(example)
		wantCrossedApart(t, sixGoes, q, textsOfSix(q))
		wantAnswer(t, "the packet", q == example, true)
	}
	for _, example := range append(append(foursTaken(), foursUntaken()...), impl.V4{}) {
		q := ownTexts(example)
		wantCrossedApart(t, sixComes, q, textsOfFour(q))
		wantAnswer(t, "the packet", q == example, true)
	}
}

// sixOut is a packet of IPv6 by chance: mostly from few hosts to few peers, and now and then wrong.
func (d *dice) sixOut(x impl.Prefix) impl.V6 {
	hosts, peers := []string{hostSix, newSix, otherSix}, []string{peerA, peerB, peerC}
	flags := []int64{syn, syn, syn, syn | ack, ack, fin | ack, rst, syn | fin, 0}[d.upTo(8)]
	q := sentSix(outBySix(bibProtos[d.upTo(2)], hosts[d.upTo(2)], 998+d.upTo(6), x, peers[d.upTo(2)], d.upTo(2)), flags)
	if d.upTo(3) == 0 {
		q = sixCheckOff(q)
	}
	switch d.upTo(40) {
	case 0:
		q.Piece, q.Off = true, d.upTo(500)
	case 1:
		q.Data = q.Data[:d.upTo(int64(len(q.Data)))]
	case 2:
		q.Next = d.upTo(255)
	case 3:
		q.Dst = withBitFlipped(q.Dst, d.upTo(127))
	case 4:
		q.Hops = 250 + d.upTo(10)
	case 5:
		q.Data = d.text(d.upTo(40))
	case 6:
		q.Data = withWord(q.Data, checkPlaceOf(q.Next), 0)
	}
	return q
}

// wantSixPromises asks for what holds of each packet of IPv6 that went out.
func wantSixPromises(t *testing.T, what string, p impl.Pool, x impl.Prefix, q impl.V6, got impl.NatOut, now int64) {
	t.Helper()
	was, is := flowTold(q.Src, q.Dst, q.Next, q.Data).Flow, flowTold(got.Four.Src, got.Four.Dst, got.Four.Proto, got.Four.Data).Flow
	bind := impl.BindOf(got.Bib, is.Proto, was.Src, was.SrcPort)
	wantAnswer(t, what+": from its bind's end", is.Src == bind.Out && is.SrcPort == bind.OutPort, true)
	wantText(t, what+": to its peer", putInto(x, is.Dst), q.Dst)
	wantAnswer(t, what+": a right packet", impl.V4Right(got.Four), true)
	wantAnswer(t, what+": a right bib", impl.BibRight(p, got.Bib), true)
	wantAnswer(t, what+": the check", impl.CarryRight(is.Src, is.Dst, is.Proto, got.Four.Data), carryIsRight(q.Src, q.Dst, q.Next, q.Data))
	wantText(t, what+": all else", elseOf(is.Proto, got.Four.Data), elseOf(is.Proto, q.Data))
	back := sixComes.passes(t, what+", the answer", p, got.Bib, x, answerTo(got.Four, ack), now)
	answer := impl.Flow{Proto: was.Proto, Src: was.Dst, Dst: was.Src, SrcPort: was.DstPort, DstPort: was.SrcPort}
	wantSixCarried(t, what+", the answer", back.Six, answer, true)
}

// Packets of both kinds by chance, one behind the other, in times that go on: what is told is as the document's words
// reckon it.
func TestMadeCrossings(t *testing.T) {
	d := dice(18)
	met := map[string]int{}
	for round := range 80 {
		p, b, now := d.pool(), impl.Bib{}, int64(0)
		x := sixPrefixes[round%len(sixPrefixes)]
		for step := range 250 {
			var got impl.NatOut
			what := fmt.Sprintf("round %d, step %d", round, step)
			switch d.upTo(4) {
			case 0:
				got = impl.NatGo(p, b, d.natPacket(p, b, goes), now)
			case 1, 2:
				q := d.sixOut(x)
				got = sixGoes.call(p, b, x, q, now)
				wantNat(t, what+", SixGo", got, sixGoes.reckoned(p, b, x, q, now))
				met[fmt.Sprintf("out: %d", got.Code)]++
				if got.Code == impl.OK {
					wantSixPromises(t, what, p, x, q, got, now)
				}
			default:
				q := d.natPacket(p, b, comes)
				if q.Proto == impl.Udp && len(q.Data) > 7 && d.upTo(9) == 0 {
					q = withoutCheck(q)
				}
				got = sixComes.call(p, b, x, q, now)
				wantNat(t, what+", SixCome", got, sixComes.reckoned(p, b, x, q, now))
				met[fmt.Sprintf("in: %d", got.Code)]++
				if got.Code == impl.OK {
					wantAnswer(t, what+": makes no bind", slices.Equal(got.Bib.Binds, b.Binds), true)
				}
			}
			if got.Code == impl.OK {
				b = got.Bib
			}
			if d.upTo(5) == 0 {
				now += d.upTo(8)
				b = impl.BibTick(p, b, now)
			}
		}
	}
	for way, other := range map[string]int64{"out": impl.ErrSyntax, "in": impl.ErrSum} {
		for _, code := range []int64{impl.OK, impl.ErrForm, impl.ErrShort, impl.ErrNone, impl.ErrFull, impl.ErrFrag, impl.ErrKind, other} {
			if what := fmt.Sprintf("%s: %d", way, code); met[what] < 15 {
				t.Errorf("%s was met %d times: %v", what, met[what], met)
			}
		}
	}
}

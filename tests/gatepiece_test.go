package tests

import (
	"fmt"
	"slices"
	"testing"

	"loop.example/g00314/impl"
)

// pieceWay is a way on which pieces are brought together: a packet in pieces, and what becomes of it as one.
type pieceWay struct {
	what   string
	inside bool
	pieces []string
	whole  string
	hops   []int64
}

// fourPieces are a packet's pieces that begin at these places and at 0, each with a header of its own, and the packet in
// one with that of the last piece to come.
func fourPieces(q impl.V4, places ...int) []impl.V4 {
	var l []impl.V4
	from := 0
	for i, to := range append(slices.Clone(places), len(q.Data)) {
		p := q
		p.Whole, p.Off, p.More, p.Data = false, int64(from/8), to < len(q.Data), q.Data[from:to]
		p.Tos, p.Ttl, p.Options = int64(10+i), int64(20+i), filler(4*i)
		l = append(l, p)
		from = to
	}
	return l
}

func sixPieces(q impl.V6, places ...int) []impl.V6 {
	var l []impl.V6
	from := 0
	for i, to := range append(slices.Clone(places), len(q.Data)) {
		p := q
		p.Piece, p.Id, p.Off, p.More, p.Data = true, 70000, int64(from/8), to < len(q.Data), q.Data[from:to]
		p.Class, p.Hops, p.Flow = int64(10+i), int64(20+i), int64(30+i)
		l = append(l, p)
		from = to
	}
	return l
}

// asOneFour is the packet of data that is brought together by the piece p.
func asOneFour(p impl.V4, data string) impl.V4 {
	p.Off, p.More, p.Data = 0, false, data
	return p
}

func asOneSix(p impl.V6, data string) impl.V6 {
	p.Piece, p.Id, p.Off, p.More, p.Data = false, 0, 0, false, data
	return p
}

// fourWayOf brings the pieces of a packet in that order, the last of which tells the header.
func fourWayOf(what string, inside bool, q impl.V4, order []int, hops ...int64) pieceWay {
	way := pieceWay{what: what, inside: inside, hops: hops}
	l := fourPieces(q, 16, 24)
	for _, i := range order {
		way.pieces, way.whole = append(way.pieces, layFour(l[i])), layFour(asOneFour(l[i], q.Data))
	}
	return way
}

func sixWayOf(what string, q impl.V6, order []int, hops ...int64) pieceWay {
	way := pieceWay{what: what, inside: true, hops: hops}
	l := sixPieces(q, 16, 24)
	for _, i := range order {
		way.pieces, way.whole = append(way.pieces, laySix(l[i])), laySix(asOneSix(l[i], q.Data))
	}
	return way
}

// longFour is a packet of a flow with enough data for three pieces.
func longFour(f impl.Flow) impl.V4 {
	return carrying(f, carriedAs(f, false, filler(40)))
}

var ordersOfThree = [][]int{{0, 1, 2}, {0, 2, 1}, {1, 0, 2}, {1, 2, 0}, {2, 0, 1}, {2, 1, 0}}

// pieceWays are all ways on which pieces are brought together, of each proto, in each order.
func pieceWays() []pieceWay {
	var l []pieceWay
	for _, order := range ordersOfThree {
		for _, proto := range []int64{impl.Tcp, impl.Udp, impl.Icmp} {
			l = append(l, fourWayOf("out", true, longFour(flowFrom(proto, hostC, 1005, peerB, 53)), order, 601),
				sixWayOf("into the prefix", sixPacketWith(goesBySix(proto, newSix, 1005, peerA, 53, syn), func(q *impl.V6) {
					q.Data += filler(20)
				}), order, 600))
		}
		l = append(l, fourWayOf("to an end of the pool", true, longFour(flowFrom(impl.Udp, hostB, 1002, lentOne, 1002)), order, 7),
			fourWayOf("in", false, longFour(flowFrom(impl.Udp, peerA, 53, lentOne, 1002)), order, 7),
			fourWayOf("in, to a host of IPv6", false, longFour(flowFrom(impl.Udp, peerB, 53, lentTwo, 1002)), order, 11))
	}
	return l
}

// Pieces in each order: nothing is sent ahead of the last one; then all is as if the packet had come in one, with the
// header of that last one.
func TestPiecesInEachOrder(t *testing.T) {
	tcp := sent(flowFrom(impl.Tcp, hostC, 1005, peerB, 53), syn)
	for _, order := range ordersOfThree {
		wantJoined(t, openGate(), fourWayOf("TCP that begins, out", true, tcp, order, 601), impl.OK)
	}
	for _, way := range pieceWays() {
		g := openGate()
		code := impl.GwIn(g, way.inside, way.whole).Code
		hops := way.hops
		if code != impl.OK {
			hops = nil
		}
		way.hops = hops
		wantJoined(t, g, way, code)
	}
}

func wantJoined(t *testing.T, g impl.Gateway, way pieceWay, code int64) {
	t.Helper()
	before, last := g, len(way.pieces)-1
	for i, text := range way.pieces[:last] {
		got := takes(t, fmt.Sprintf("%s, the piece of the number %d", way.what, i), g, way.inside, text, impl.OK)
		wantNumber(t, way.what+": it waits", int64(len(got.Gateway.Pieces)), int64(len(before.Pieces)+i+1))
		wantKept(t, way.what, g, got, true, false, true)
		wantNumber(t, way.what+": since", got.Gateway.Pieces[len(got.Gateway.Pieces)-1].Since, before.Now)
		g = impl.GwTick(got.Gateway, 1)
	}
	got := takes(t, way.what+", the last piece", g, way.inside, way.pieces[last], code, way.hops...)
	wantParts(t, way.what+": none waits", got.Gateway.Pieces, before.Pieces)
	g.Pieces = before.Pieces
	wantGwOut(t, way.what+": as one", got, takes(t, way.what+", as one", g, way.inside, way.whole, code, way.hops...))
}

// As long as a piece is missing, nothing is sent, and 30 later those that came are gone.
func TestMissingPieces(t *testing.T) {
	for _, way := range pieceWays() {
		for missing := range way.pieces {
			g, first := openGate(), homeGate().Now
			for i, text := range way.pieces {
				if i != missing {
					g = takes(t, way.what+", one missing", g, way.inside, text, impl.OK).Gateway
				}
			}
			wantNumber(t, way.what+": waiting", int64(len(g.Pieces)), 5)
			wantNumber(t, way.what+": 29 later", int64(len(impl.GwTick(g, first+29-g.Now).Pieces)), 3)
			wantNumber(t, way.what+": 30 later", int64(len(impl.GwTick(g, first+30-g.Now).Pieces)), 0)
			late := takes(t, way.what+", too late", impl.GwTick(g, 30), way.inside, way.pieces[missing], impl.OK).Gateway
			wantNumber(t, way.what+": waiting anew", int64(len(late.Pieces)), 1)
			wantNumber(t, way.what+": since then", late.Pieces[0].Since, first+30)
		}
	}
}

// One that lies over another takes its packet with it, and leaves the others.
func TestPiecesOverOneAnother(t *testing.T) {
	for _, way := range pieceWays() {
		for again := range 2 {
			g := openGate()
			for _, text := range way.pieces[:2] {
				g = takes(t, way.what, g, way.inside, text, impl.OK).Gateway
			}
			got := takes(t, way.what+", one twice", g, way.inside, way.pieces[again], impl.ErrFrag)
			wantParts(t, way.what+": the others stay", got.Gateway.Pieces, homePieces())
			wantKept(t, way.what, g, got, true, false, true)
			got = takes(t, way.what+", the last one", got.Gateway, way.inside, way.pieces[2], impl.OK)
			wantNumber(t, way.what+": waits for the others", int64(len(got.Gateway.Pieces)), 4)
		}
	}
}

// 40 pieces that wait let no other in, but one that lies over another of them takes its packet.
func TestGateFullOfPieces(t *testing.T) {
	for _, way := range pieceWays() {
		for count, code := range map[int]int64{39: impl.OK, 40: impl.ErrFull} {
			g := gateWith(openGate(), func(g *impl.Gateway) { g.Pieces = flockOfPieces(count) })
			got := takes(t, fmt.Sprintf("%s, %d wait", way.what, count), g, way.inside, way.pieces[0], code)
			wantKept(t, way.what, g, got, true, code == impl.ErrFull, true)
			wantNumber(t, way.what+": pieces", int64(len(got.Gateway.Pieces)), 40)
		}
		g := gateWith(openGate(), func(g *impl.Gateway) { g.Pieces = nil })
		for _, text := range way.pieces[:2] {
			g = impl.GwIn(g, way.inside, text).Gateway
		}
		g = gateWith(g, func(g *impl.Gateway) { g.Pieces = append(flockOfPieces(38), g.Pieces...) })
		got := takes(t, way.what+", 40 wait, and the last one", g, way.inside, way.pieces[2], impl.ErrFull)
		wantKept(t, way.what, g, got, true, true, true)
		got = takes(t, way.what+", 40 wait, and one twice", g, way.inside, way.pieces[0], impl.ErrFrag)
		wantParts(t, way.what+": its packet is gone", got.Gateway.Pieces, flockOfPieces(38))
		alone := impl.GwIn(openGate(), way.inside, way.whole)
		whole := takes(t, way.what+", in one beside 40", g, way.inside, way.whole, alone.Code, hopsOf(alone)...)
		wantKept(t, way.what, g, whole, whole.Code != impl.OK, true, true)
	}
}

// What is brought together has to be right, too: 1400 bytes of Data are, more are not, and gone then.
func TestJoinedTooLong(t *testing.T) {
	udp := func(f impl.Flow, count int) string { return carriedAs(f, false, filler(count-8)) }
	for _, count := range []int{1399, 1400, 1401, 1408, 2000, 2800} {
		code, fits := int64(impl.ErrForm), count <= 1400
		if fits {
			code = impl.OK
		}
		for _, c := range []struct {
			what   string
			inside bool
			flow   impl.Flow
			hop    int64
		}{
			{"out", true, flowFrom(impl.Udp, hostC, 1005, peerB, 53), 601},
			{"in", false, flowFrom(impl.Udp, peerA, 53, lentOne, 1002), 7},
			{"to an end of the pool", true, flowFrom(impl.Udp, hostB, 1002, lentOne, 1002), 7},
		} {
			what := fmt.Sprintf("%s, %d bytes", c.what, count)
			l := fourPieces(carrying(c.flow, udp(c.flow, count)), 1000, min(count/8*8, 1400))
			if count%8 == 0 && count <= 1400 {
				l = fourPieces(carrying(c.flow, udp(c.flow, count)), 1000, 1200)
			}
			g := openGate()
			for _, p := range l[:2] {
				g = takes(t, what, g, c.inside, layFour(p), impl.OK).Gateway
			}
			var hops []int64
			if fits {
				hops = []int64{c.hop, c.hop}
			}
			got := takes(t, what, g, c.inside, layFour(l[2]), code, hops...)
			wantParts(t, what+": none waits", got.Gateway.Pieces, homePieces())
			wantKept(t, what, g, got, !fits, false, true)
		}
		// To a host of IPv6, and from one: what is too big then is not told, for nobody sent that packet.
		f := outBySix(impl.Udp, newSix, 1005, homeSix, peerA, 53)
		six := sixPieces(carryingSix(f, udp(f, count)), 1000, 1200)
		g := gateWith(openGate(), func(g *impl.Gateway) { g.Mtu = 1500 })
		for _, mtu := range []int64{1280, 1420, 1500} {
			g.Mtu = mtu
			next := takes(t, "of six", g, true, laySix(six[1]), impl.OK).Gateway
			if len(six[2].Data) <= 1400 {
				next = takes(t, "of six", next, true, laySix(six[2]), impl.OK).Gateway
				want, hops := code, []int64(nil)
				switch {
				case fits && mtu == 1280:
					want = impl.ErrBig
				case fits:
					hops = []int64{600}
				}
				got := takes(t, fmt.Sprintf("of six, %d bytes, Mtu %d", count, mtu), next, true, laySix(six[0]), want, hops...)
				wantParts(t, "of six: none waits", got.Gateway.Pieces, homePieces())
				wantKept(t, "of six", next, got, !fits, false, true)
			}
		}
	}
	f := flowFrom(impl.Udp, peerB, 53, lentTwo, 1002)
	l := fourPieces(carrying(f, udp(f, 1300)), 1000)
	g := takes(t, "in, to a host of IPv6", openGate(), false, layFour(l[0]), impl.OK).Gateway
	got := takes(t, "in, to a host of IPv6, too big", g, false, layFour(l[1]), impl.ErrBig)
	wantKept(t, "in, to a host of IPv6", g, got, false, false, true)
}

// What was brought together is not Whole, and so is cut, though each piece was small: nobody is told of it.
func TestJoinedIsCut(t *testing.T) {
	f := flowFrom(impl.Udp, hostC, 1005, peerB, 53)
	q := carrying(f, carriedAs(f, false, filler(1300)))
	l := fourPieces(q, 640)
	g := takes(t, "the first one", openGate(), true, layFour(l[0]), impl.OK).Gateway
	got := takes(t, "cut anew", g, true, layFour(l[1]), impl.OK, 601, 601)
	first, last := impl.V4Read(got.Sends[0].Text).Packet, impl.V4Read(got.Sends[1].Text).Packet
	wantNumber(t, "its Data", int64(len(first.Data)), 1256)
	wantText(t, "Options of the last one to come, in the first one alone", first.Options+last.Options, filler(4))
	wantNumber(t, "its Ttl", first.Ttl, 20)
	wantNumber(t, "its Tos", first.Tos, 11)
	wantNumber(t, "its Id", first.Id, q.Id)
	wantAnswer(t, "not Whole", first.Whole || last.Whole, false)
	wantNumber(t, "all of it", int64(len(first.Data)+len(last.Data)), 1308)
}

// Pieces without Data are none: what waits stays as it was.
func TestPiecesWithoutData(t *testing.T) {
	for _, way := range pieceWays() {
		g := takes(t, way.what, openGate(), way.inside, way.pieces[0], impl.OK).Gateway
		text := ""
		if out := impl.V4Read(way.pieces[1]); out.Code == impl.OK {
			text = layFour(packetWith(out.Packet, func(q *impl.V4) { q.Data, q.More = "", true }))
		} else {
			text = laySix(sixPacketWith(impl.V6Read(way.pieces[1]).Packet, func(q *impl.V6) { q.Data, q.More = "", true }))
		}
		got := takes(t, way.what+", without Data", g, way.inside, text, impl.ErrForm)
		wantKept(t, way.what, g, got, true, true, true)
	}
	// That of a piece of IPv6 with neither More nor an Off too, which else would go on alone.
	q := goesBySix(impl.Udp, newSix, 1005, peerA, 53, 0)
	q.Piece, q.Id = true, 9
	got := takes(t, "a piece that is all", openGate(), true, laySix(q), impl.OK, 600)
	wantKept(t, "a piece that is all", openGate(), got, false, true, true)
	whole := sixPacketWith(q, func(q *impl.V6) { q.Piece, q.Id = false, 0 })
	wantGwOut(t, "a piece that is all", got, impl.GwIn(openGate(), true, laySix(whole)))
	q.Data = ""
	got = takes(t, "a piece that is all, and nothing", openGate(), true, laySix(q), impl.ErrForm)
	wantKept(t, "a piece that is all, and nothing", openGate(), got, true, true, true)
	full := gateWith(openGate(), func(g *impl.Gateway) { g.Pieces = flockOfPieces(40) })
	takes(t, "a piece that is all, 40 wait", full, true, laySix(sixPacketWith(whole, func(q *impl.V6) { q.Piece = true })), impl.ErrFull)
}

// What is refused when it has been brought together is gone from the pieces, but nothing else is changed.
func TestJoinedAndRefused(t *testing.T) {
	for _, c := range []struct {
		what   string
		inside bool
		q      impl.V4
		code   int64
	}{
		{"a strange proto, out", true, carrying(flowFrom(47, hostC, 0, peerA, 0), filler(40)), impl.ErrKind},
		{"short data, out", true, carrying(flowFrom(impl.Tcp, hostC, 0, peerA, 0), filler(19)), impl.ErrShort},
		{"TCP that does not begin, out", true, sent(flowFrom(impl.Tcp, hostC, 5, peerA, 5), ack), impl.ErrNone},
		{"what asks, to the pool", true, sent(flowFrom(impl.Icmp, hostC, 1001, lentOne, 0), 0), impl.ErrKind},
		{"to the pool's end of nobody", true, sent(flowFrom(impl.Udp, hostC, 1001, lentOne, 1009), 0), impl.ErrNone},
		{"in, to nobody's end", false, sent(flowFrom(impl.Udp, peerA, 53, lentOne, 1009), 0), impl.ErrNone},
		{"in, a strange proto", false, carrying(flowFrom(47, peerA, 0, lentOne, 0), filler(40)), impl.ErrKind},
		{"in, without a check, to six", false, withoutCheck(sent(flowFrom(impl.Udp, peerB, 53, lentTwo, 1002), 0)), impl.ErrSum},
	} {
		l := fourPieces(c.q, 8, 16)
		g := openGate()
		for _, p := range l[:2] {
			g = takes(t, c.what, g, c.inside, layFour(p), impl.OK).Gateway
		}
		got := takes(t, c.what, g, c.inside, layFour(l[2]), c.code)
		wantParts(t, c.what+": none waits", got.Gateway.Pieces, homePieces())
		wantKept(t, c.what, g, got, true, false, true)
	}
	for what, q := range map[string]impl.V6{
		"a strange proto": carryingSix(impl.Flow{Proto: 47, Src: newSix, Dst: putInto(homeSix, peerA)}, filler(40)),
		"a message":       carryingSix(impl.Flow{Proto: 58, Src: newSix, Dst: putInto(homeSix, peerA)}, "\x01"+filler(39)),
	} {
		l := sixPieces(q, 16)
		g := takes(t, what, openGate(), true, laySix(l[1]), impl.OK).Gateway
		got := takes(t, what, g, true, laySix(l[0]), impl.ErrKind)
		wantParts(t, what+": none waits", got.Gateway.Pieces, homePieces())
		wantKept(t, what, g, got, true, false, true)
	}
	// To an address of the pool, or to a hop that is not outside, by the prefix: the bib is kept, and none waits.
	for peer, code := range map[string]int64{lentOne: impl.ErrKind, hostA: impl.ErrNone, lostFour: impl.ErrNone} {
		l := sixPieces(goesBySix(impl.Udp, newSix, 1005, peer, 53, 0), 16)
		g := takes(t, "by the prefix", openGate(), true, laySix(l[1]), impl.OK).Gateway
		got := takes(t, "by the prefix", g, true, laySix(l[0]), code)
		wantParts(t, "by the prefix: none waits", got.Gateway.Pieces, homePieces())
		wantKept(t, "by the prefix", g, got, false, false, true)
	}
}

// Pieces that are not brought together wait for nothing.
func TestPiecesThatGoAsTheyAre(t *testing.T) {
	for _, p := range fourPieces(sent(flowFrom(impl.Udp, hostC, 1005, hostB, 53), 0), 8, 16) {
		got := takes(t, "to a hop inside", openGate(), true, layFour(p), impl.OK, 7)
		p.Ttl--
		wantText(t, "to a hop inside", got.Sends[0].Text, layFour(p))
		wantKept(t, "to a hop inside", openGate(), got, true, true, true)
		p.Dst = lostFour
		var hops []int64
		if p.Off == 0 {
			hops = []int64{8}
		}
		got = takes(t, "to nowhere", openGate(), true, layFour(p), impl.ErrNone, hops...)
		wantKept(t, "to nowhere", openGate(), got, true, true, p.Off != 0)
		for _, dst := range []string{hostA, peerA, lostFour, gateFour} {
			p.Dst = dst
			got = takes(t, "from outside", openGate(), false, layFour(p), impl.ErrKind)
			wantKept(t, "from outside", openGate(), got, true, true, true)
		}
		for _, dst := range []string{hostA, peerA, lentOne, lostFour} {
			p.Dst, p.Ttl = dst, 1
			got = takes(t, "too far", openGate(), true, layFour(p), impl.ErrHops, hops...)
			wantKept(t, "too far", openGate(), got, true, true, p.Off != 0)
		}
	}
	for _, p := range sixPieces(sentSix(flowOfSix(impl.Udp, newSix, 1005, otherSix, 53), 0), 8, 16) {
		for _, inside := range bothSides {
			got := takes(t, "to a hop inside", openGate(), inside, laySix(p), impl.OK, 10)
			wantKept(t, "to a hop inside", openGate(), got, true, true, true)
		}
		p.Dst = putInto(homeSix, peerA)
		var hops []int64
		if p.Off == 0 {
			hops = []int64{9}
		}
		got := takes(t, "into the prefix, from outside", openGate(), false, laySix(p), impl.ErrNone, hops...)
		wantKept(t, "into the prefix, from outside", openGate(), got, true, true, p.Off != 0)
	}
}

// Two packets' pieces among one another, told apart by each thing that tells packets apart.
func TestPiecesOfTwoPackets(t *testing.T) {
	q := sent(flowFrom(impl.Udp, hostC, 1005, peerB, 53), 0)
	for what, change := range map[string]func(q *impl.V4){
		"Id":    func(q *impl.V4) { q.Id++ },
		"Src":   func(q *impl.V4) { q.Src = hostB },
		"Dst":   func(q *impl.V4) { q.Dst = peerA },
		"Proto": func(q *impl.V4) { q.Proto = 47 },
	} {
		mine, others := fourPieces(q, 8), fourPieces(packetWith(q, change), 8)
		g := takes(t, what, openGate(), true, layFour(mine[0]), impl.OK).Gateway
		g = takes(t, what+", the other's", g, true, layFour(others[1]), impl.OK).Gateway
		wantNumber(t, what+": both wait", int64(len(g.Pieces)), 5)
		got := takes(t, what+", brought together", g, true, layFour(mine[1]), impl.OK, 601)
		wantNumber(t, what+": the other waits", int64(len(got.Gateway.Pieces)), 4)
		wantNumber(t, what+": its Off", got.Gateway.Pieces[3].Off, 1)
	}
	// The side is not among these: a packet goes the way of its last piece.
	l := fourPieces(sent(flowFrom(impl.Udp, peerA, 53, lentOne, 1002), 0), 8)
	g := takes(t, "from inside first", openGate(), true, layFour(l[0]), impl.OK).Gateway
	takes(t, "then from outside", g, false, layFour(l[1]), impl.OK, 7)
}

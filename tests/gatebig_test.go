package tests

import (
	"fmt"
	"testing"

	"loop.example/g00314/impl"
)

// someMtus are the limits, and those about the greatest packets that there are: 1420 and 1460 bytes of IPv4 without
// and with Options, 1440 of IPv6, 1448 of a piece.
var someMtus = []int64{1280, 1281, 1287, 1288, 1289, 1300, 1399, 1419, 1420, 1421, 1439, 1440, 1441, 1447, 1448, 1449, 1459, 1460, 1461, 1500}

func gateOfMtu(mtu int64) impl.Gateway {
	return gateWith(openGate(), func(g *impl.Gateway) { g.Mtu = mtu })
}

// fourOfSize is a packet of UDP of so many bytes in all, with so many of Options.
func fourOfSize(f impl.Flow, whole bool, options int, size int64) impl.V4 {
	q := carrying(f, carriedAs(f, false, filler(int(size)-28-options)))
	q.Whole, q.Options = whole, filler(options)
	return q
}

func sixOfSize(f impl.Flow, size int64) impl.V6 {
	return carryingSix(f, carriedAs(f, false, filler(int(size)-48)))
}

// bigWay is a way of packets of IPv4 that are sent as such: the ends, the hop of what is sent, and that of the sender.
type bigWay struct {
	what      string
	inside    bool
	flow      impl.Flow
	hop, back int64
	same      bool
}

var bigWays = []bigWay{
	{"to a hop inside", true, flowFrom(impl.Udp, hostC, 1005, hostB, 53), 7, 8, true},
	{"out", true, flowFrom(impl.Udp, hostC, 1005, peerB, 53), 601, 8, false},
	{"to an end of the pool", true, flowFrom(impl.Udp, hostC, 1005, lentOne, 1002), 7, 8, false},
	{"in", false, flowFrom(impl.Udp, peerB, 53, lentOne, 1004), 7, 601, false},
}

// Packets of Mtu bytes, one less and one more, and the greatest ones, Whole and not, by each way of IPv4.
func TestFoursOfMtu(t *testing.T) {
	for _, mtu := range someMtus {
		for _, way := range bigWays {
			for _, options := range []int{0, 4, 40} {
				for _, size := range []int64{mtu - 1, mtu, mtu + 1, 1420 + int64(options)} {
					if size > 1420+int64(options) {
						continue
					}
					what := fmt.Sprintf("%s, Mtu %d, %d bytes, %d of Options", way.what, mtu, size, options)
					wantBigFour(t, what, gateOfMtu(mtu), way, fourOfSize(way.flow, true, options, size))
					wantBigFour(t, what, gateOfMtu(mtu), way, fourOfSize(way.flow, false, options, size))
				}
			}
		}
	}
}

func wantBigFour(t *testing.T, what string, g impl.Gateway, way bigWay, q impl.V4) {
	t.Helper()
	text := layFour(q)
	switch {
	case int64(len(text)) <= g.Mtu:
		got := takes(t, what+", not too big", g, way.inside, text, impl.OK, way.hop)
		wantNumber(t, what+": as many bytes", int64(len(got.Sends[0].Text)), int64(len(text)))
		wantKept(t, what, g, got, way.same, true, true)
	case q.Whole:
		got := takes(t, what+", Whole", g, way.inside, text, impl.ErrBig, way.back)
		wantText(t, what+": told of it as it came", got.Sends[0].Text, layFour(toldOfFour(gateFour, q, 3, 4, g.Mtu).Packet))
		wantKept(t, what, g, got, way.same, true, false)
	default:
		got := takes(t, what+", cut", g, way.inside, text, impl.OK, way.hop, way.hop)
		wantKept(t, what, g, got, way.same, true, true)
		wantCutOf(t, what, g, way, q, got)
	}
}

// wantCutOf asks that pieces have all of the packet that would be sent, if it were not too big.
func wantCutOf(t *testing.T, what string, g impl.Gateway, way bigWay, q impl.V4, got impl.GwOut) {
	t.Helper()
	g.Mtu = 1500
	whole := impl.V4Read(takes(t, what+", not cut", g, way.inside, layFour(q), impl.OK, way.hop).Sends[0].Text).Packet
	data := ""
	for i, s := range got.Sends {
		p := impl.V4Read(s.Text).Packet
		wantNumber(t, what+": Off", 8*p.Off, int64(len(data)))
		wantAnswer(t, what+": More", p.More, i == 0)
		data += p.Data
		p.Data, p.Off, p.More, p.Options = whole.Data, 0, false, whole.Options
		wantFour(t, what+": the header", impl.V4Out{Packet: p}, impl.V4Out{Packet: whole})
	}
	wantText(t, what+": all data", data, whole.Data)
}

// Pieces that go from host to host are cut as they are, with what they have of Off and More.
func TestPiecesAreCut(t *testing.T) {
	for _, mtu := range someMtus {
		for _, size := range []int64{1279, 1280, 1281, mtu - 1, mtu, mtu + 1, 1420, 1460} {
			for _, more := range []bool{false, true} {
				q := impl.V4{Tos: 5, Id: 99, Ttl: 7, Proto: 47, Src: hostC, Dst: hostB, More: more, Off: 700}
				if size > 1420 {
					q.Options = filler(40)
				}
				count := min(int(size)-20-len(q.Options), 1400)
				if more {
					count = count / 8 * 8
				}
				q.Data = filler(count)
				hops := []int64{7}
				if int64(len(layFour(q))) > mtu {
					hops = []int64{7, 7}
				}
				what := fmt.Sprintf("Mtu %d, %d bytes, More %v", mtu, size, more)
				got := takes(t, what, gateOfMtu(mtu), true, layFour(q), impl.OK, hops...)
				first, last := impl.V4Read(got.Sends[0].Text).Packet, impl.V4Read(got.Sends[len(hops)-1].Text).Packet
				wantNumber(t, what+": Off", first.Off, 700)
				wantAnswer(t, what+": More of the last one", last.More, more)
				wantNumber(t, what+": its end", 8*last.Off+int64(len(last.Data)), int64(5600+count))
			}
		}
	}
}

// Packets of IPv6 are never cut: their senders are told, whichever side they are on, of pieces of the first one alone.
func TestSixesOfMtu(t *testing.T) {
	for _, mtu := range someMtus {
		for _, inside := range bothSides {
			for _, size := range []int64{mtu - 1, mtu, mtu + 1, 1440} {
				if size > 1440 {
					continue
				}
				what := fmt.Sprintf("Mtu %d, %d bytes", mtu, size)
				q := sixOfSize(flowOfSix(impl.Udp, newSix, 5, otherSix, 53), size)
				g := gateOfMtu(mtu)
				if size <= mtu {
					takes(t, what, g, inside, laySix(q), impl.OK, 10)
					continue
				}
				got := takes(t, what, g, inside, laySix(q), impl.ErrBig, 9)
				wantText(t, what+": told of it as it came", got.Sends[0].Text, laySix(toldOfSix(gateSix, q, 2, 0, mtu).Packet))
				wantKept(t, what, g, got, true, true, false)
			}
			piece := impl.V6{Hops: 9, Next: 47, Src: newSix, Dst: otherSix, Piece: true, Id: 5, Data: filler(1400)}
			for _, off := range []int64{0, 3} {
				for _, more := range bothSides {
					piece.Off, piece.More = off, more
					what := fmt.Sprintf("Mtu %d, a piece of 1448 bytes, Off %d", mtu, off)
					switch {
					case mtu >= 1448:
						takes(t, what, gateOfMtu(mtu), inside, laySix(piece), impl.OK, 10)
					case off == 0:
						takes(t, what, gateOfMtu(mtu), inside, laySix(piece), impl.ErrBig, 9)
					default:
						got := takes(t, what, gateOfMtu(mtu), inside, laySix(piece), impl.ErrBig)
						wantKept(t, what, gateOfMtu(mtu), got, true, true, true)
					}
				}
			}
		}
	}
}

// What is turned to the other kind has another length; if it is too big then, nobody is told, but the bib is kept.
func TestTurnedOfMtu(t *testing.T) {
	for _, mtu := range someMtus {
		g := gateOfMtu(mtu)
		for _, made := range []int64{mtu - 1, mtu, mtu + 1} {
			what := fmt.Sprintf("Mtu %d, %d bytes", mtu, made)
			if made <= 1420 {
				q := sixOfSize(outBySix(impl.Udp, newSix, 1005, homeSix, peerA, 53), made+20)
				wantTurned(t, what+" to four", g, true, laySix(q), 600, made)
			}
			for _, options := range []int{0, 8, 40} {
				for _, whole := range bothSides {
					if made <= 1440 {
						q := fourOfSize(flowFrom(impl.Udp, peerB, 53, lentTwo, 1002), whole, options, made-20+int64(options))
						wantTurned(t, what+" to six", g, false, layFour(q), 11, made)
					}
				}
			}
		}
	}
}

func wantTurned(t *testing.T, what string, g impl.Gateway, inside bool, text string, hop int64, made int64) {
	t.Helper()
	if made <= g.Mtu {
		got := takes(t, what, g, inside, text, impl.OK, hop)
		wantNumber(t, what+": so many bytes", int64(len(got.Sends[0].Text)), made)
		wantKept(t, what, g, got, false, true, true)
		return
	}
	got := takes(t, what+", too big", g, inside, text, impl.ErrBig)
	wantKept(t, what, g, got, false, true, true)
}

// toldCase is a packet whose sender is told something: by which code, to which hop, and what.
type toldCase struct {
	what   string
	inside bool
	text   string
	code   int64
	hop    int64
	told   string
}

// toldCases are of each thing that is told, from each side that it is told to.
func toldCases() []toldCase {
	var l []toldCase
	addFour := func(what string, inside bool, q impl.V4, code int64, m [3]int64) {
		l = append(l, toldCase{what, inside, layFour(q), code, hopFor(homeGate(), q.Src), layFour(toldOfFour(gateFour, q, m[0], m[1], m[2]).Packet)})
	}
	addSix := func(what string, inside bool, q impl.V6, code int64, m [3]int64) {
		l = append(l, toldCase{what, inside, laySix(q), code, hopFor(homeGate(), q.Src), laySix(toldOfSix(gateSix, q, m[0], m[1], m[2]).Packet)})
	}
	for _, inside := range bothSides {
		for _, ttl := range []int64{0, 1} {
			late := func(q *impl.V4) { q.Ttl = ttl }
			addFour("too far", inside, packetWith(sent(flowFrom(impl.Udp, hostC, 1005, peerA, 53), 0), late), impl.ErrHops, [3]int64{11, 0, 0})
			addFour("too far, to the pool", inside, packetWith(sent(flowFrom(impl.Tcp, peerB, 1005, lentOne, 1002), syn), late), impl.ErrHops, [3]int64{11, 0, 0})
			addSix("too far", inside, sixPacketWith(goesBySix(impl.Icmp, otherSix, 7, peerA, 0, 0), func(q *impl.V6) { q.Hops = ttl }), impl.ErrHops, [3]int64{3, 0, 0})
		}
		addSix("to nowhere", inside, sentSix(flowOfSix(impl.Tcp, newSix, 5, lostSix, 53), 0), impl.ErrNone, [3]int64{1, 0, 0})
		addSix("too big", inside, sixOfSize(flowOfSix(impl.Udp, addressOf("2400::1"), 5, hostSix, 53), 1281), impl.ErrBig, [3]int64{2, 0, 1280})
	}
	addFour("to nowhere", true, sent(flowFrom(impl.Icmp, hostB, 7, lostFour, 0), 0), impl.ErrNone, [3]int64{3, 0, 0})
	addFour("to nowhere, a first piece", true, packetWith(sent(flowFrom(impl.Udp, hostB, 7, lostFour, 0), 0), func(q *impl.V4) { q.Whole, q.More, q.Data = false, true, filler(16) }), impl.ErrNone, [3]int64{3, 0, 0})
	for _, way := range bigWays {
		addFour("too big, "+way.what, way.inside, fourOfSize(way.flow, true, 4, 1281), impl.ErrBig, [3]int64{3, 4, 1280})
	}
	return l
}

// What is told goes by the bucket: of one that is empty nothing is, though the code is the same.
func TestToldByTheBucket(t *testing.T) {
	for _, c := range toldCases() {
		for _, b := range []struct {
			was, is impl.Bucket
			ok      bool
		}{
			{impl.Bucket{Left: 5, Most: 5, Each: 7, Since: 100}, impl.Bucket{Left: 4, Most: 5, Each: 7, Since: 100}, true},
			{impl.Bucket{Left: 1, Most: 5, Each: 7, Since: 94}, impl.Bucket{Left: 0, Most: 5, Each: 7, Since: 94}, true},
			{impl.Bucket{Left: 0, Most: 5, Each: 7, Since: 100}, impl.Bucket{Left: 0, Most: 5, Each: 7, Since: 100}, false},
			{impl.Bucket{Left: 0, Most: 5, Each: 7, Since: 94}, impl.Bucket{Left: 0, Most: 5, Each: 7, Since: 94}, false},
			{impl.Bucket{Left: 0, Most: 5, Each: 7, Since: 93}, impl.Bucket{Left: 0, Most: 5, Each: 7, Since: 100}, true},
			{impl.Bucket{Left: 0, Most: 5, Each: 7, Since: 80}, impl.Bucket{Left: 1, Most: 5, Each: 7, Since: 94}, true},
			{impl.Bucket{Left: 0, Most: 1, Each: 1000, Since: 0}, impl.Bucket{Left: 0, Most: 1, Each: 1000, Since: 0}, false},
			{impl.Bucket{Left: 100, Most: 100, Each: 1, Since: 0}, impl.Bucket{Left: 99, Most: 100, Each: 1, Since: 100}, true},
		} {
			what := fmt.Sprintf("%s, %+v", c.what, b.was)
			g := gateWith(openGate(), func(g *impl.Gateway) { g.Bucket = b.was })
			hops := []int64{c.hop}
			if !b.ok {
				hops = nil
			}
			got := takes(t, what, g, c.inside, c.text, c.code, hops...)
			wantAnswer(t, what+": the bucket", got.Gateway.Bucket == b.is, true)
			if b.ok {
				wantText(t, what+": what is told", got.Sends[0].Text, c.told)
			}
		}
	}
}

// One after the other is told, as long as something is left; then what has come since is. One bucket is for all that
// is told.
func TestToldOneByOne(t *testing.T) {
	l := toldCases()
	g := openGate()
	for i := range 3 {
		g = takes(t, "some left", g, l[i].inside, l[i].text, l[i].code, l[i].hop).Gateway
	}
	for _, c := range l {
		got := takes(t, "none left", g, c.inside, c.text, c.code)
		wantAnswer(t, "none left: the bucket", got.Gateway.Bucket == g.Bucket, true)
	}
	g = impl.GwTick(g, 20)
	for _, c := range l[5:7] {
		g = takes(t, "two have come", g, c.inside, c.text, c.code, c.hop).Gateway
	}
	takes(t, "none left again", g, l[9].inside, l[9].text, l[9].code)
	wantAnswer(t, "the bucket", g.Bucket == impl.Bucket{Left: 0, Most: 5, Each: 7, Since: 114}, true)
	takes(t, "one more", impl.GwTick(g, 1), l[9].inside, l[9].text, l[9].code, l[9].hop)
}

// If the sender has no Hop, or nothing is told of what it sent, the bucket is not asked: it stays, though it could have
// got more since.
func TestNobodyToTell(t *testing.T) {
	g := gateWith(openGate(), func(g *impl.Gateway) { g.Bucket.Since = 0 })
	nobody := func(what string, inside bool, text string, code int64) {
		t.Helper()
		got := takes(t, what, g, inside, text, code)
		wantAnswer(t, what+": the bucket", got.Gateway.Bucket == g.Bucket, true)
	}
	for what, why := range untoldFours() {
		for _, inside := range bothSides {
			nobody("too far, "+what, inside, layFour(packetWith(why, func(q *impl.V4) { q.Ttl = 1 })), impl.ErrHops)
		}
		nobody("to nowhere, "+what, true, layFour(packetWith(why, func(q *impl.V4) { q.Dst = lostFour })), impl.ErrNone)
	}
	for what, why := range untoldSixes() {
		for _, inside := range bothSides {
			nobody("too far, "+what, inside, laySix(sixPacketWith(why, func(q *impl.V6) { q.Hops = 1 })), impl.ErrHops)
			nobody("to nowhere, "+what, inside, laySix(sixPacketWith(why, func(q *impl.V6) { q.Dst = lostSix })), impl.ErrNone)
			nobody("too big, "+what, inside, laySix(sixPacketWith(why, func(q *impl.V6) {
				q.Dst = otherSix
				q.Data = (q.Data + "\x00")[:1] + filler(1399)
			})), impl.ErrBig)
		}
	}
	for _, inside := range bothSides {
		nobody("too far, no hop", inside, layFour(packetWith(sent(flowFrom(impl.Udp, lostFour, 1, peerA, 2), 0), func(q *impl.V4) { q.Ttl = 0 })), impl.ErrHops)
		nobody("too far, no hop of six", inside, laySix(sixPacketWith(sentSix(flowOfSix(impl.Udp, lostSix, 1, otherSix, 2), 0), func(q *impl.V6) { q.Hops = 0 })), impl.ErrHops)
		nobody("to nowhere, no hop of six", inside, laySix(sentSix(flowOfSix(impl.Udp, lostSix, 1, lostSix, 2), 0)), impl.ErrNone)
		nobody("too big, no hop of six", inside, laySix(sixOfSize(flowOfSix(impl.Udp, lostSix, 1, otherSix, 2), 1300)), impl.ErrBig)
	}
	nobody("to nowhere, no hop", true, layFour(sent(flowFrom(impl.Udp, lostFour, 1, lostFour, 2), 0)), impl.ErrNone)
	for _, way := range bigWays {
		way.flow.Src = lostFour
		nobody("too big, no hop, "+way.what, way.inside, layFour(fourOfSize(way.flow, true, 0, 1300)), impl.ErrBig)
		echo := fourOfSize(way.flow, true, 0, 1300)
		echo.Proto, echo.Src = impl.Icmp, peerB
		echo.Data = "\x05\x00" + echo.Data[2:]
		if way.same {
			nobody("too big, a message, "+way.what, way.inside, layFour(echo), impl.ErrBig)
		}
	}
}

// What is told goes to the hop of its sender, wherever that is: one who came from outside by an address inside is told there.
func TestToldToAnySide(t *testing.T) {
	for src, hop := range edgeFours {
		q := packetWith(sent(flowFrom(impl.Udp, addressOf(src), 5, peerA, 53), 0), func(q *impl.V4) { q.Ttl = 1 })
		for _, inside := range bothSides {
			takes(t, "from "+src, openGate(), inside, layFour(q), impl.ErrHops, hop)
		}
	}
	for src, hop := range edgeSixes {
		q := sentSix(flowOfSix(impl.Udp, addressOf(src), 5, lostSix, 53), 0)
		for _, inside := range bothSides {
			takes(t, "from "+src, openGate(), inside, laySix(q), impl.ErrNone, hop)
		}
	}
}

// What is told comes from the gateway's own addresses, whatever they are.
func TestToldFromItsOwn(t *testing.T) {
	g := gateWith(openGate(), func(g *impl.Gateway) { g.Four1, g.Six1 = addressOf("198.51.100.1"), addressOf("fe80::1") })
	q := packetWith(sent(flowFrom(impl.Udp, hostA, 5, peerA, 53), 0), func(q *impl.V4) { q.Ttl = 1 })
	got := takes(t, "of four", g, true, layFour(q), impl.ErrHops, 7)
	wantText(t, "of four", impl.V4Read(got.Sends[0].Text).Packet.Src, g.Four1)
	p := sixPacketWith(goesBySix(impl.Udp, newSix, 5, peerA, 53, 0), func(q *impl.V6) { q.Hops = 1 })
	got = takes(t, "of six", g, true, laySix(p), impl.ErrHops, 9)
	wantText(t, "of six", impl.V6Read(got.Sends[0].Text).Packet.Src, g.Six1)
}

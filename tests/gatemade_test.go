package tests

import (
	"fmt"
	"slices"
	"strings"
	"testing"

	"loop.example/g00314/impl"
)

// gate is a right gateway by chance, with few routes, so that some things lead nowhere.
func (d *dice) gate() impl.Gateway {
	g := impl.GwNew(nil, d.pool(), sixPrefixes[d.upTo(int64(len(sixPrefixes)-1))], 1280+d.upTo(1)*d.upTo(220))
	for _, r := range append(homeRoutes(), route("0.0.0.0/0", 900), route("::/0", 901), impl.Route{Prefix: g.Six, Hop: 20}) {
		if d.upTo(9) < 8 && !slices.ContainsFunc(g.Routes, func(q impl.Route) bool { return q.Prefix == r.Prefix }) {
			if d.upTo(19) == 0 {
				r.Hop = []int64{3, 500, 501, 950}[d.upTo(3)]
			}
			if r.Prefix.Bits > 0 || d.upTo(2) == 0 {
				g.Routes = append(g.Routes, r)
			}
		}
	}
	g.Now = d.upTo(50)
	g.Bucket = impl.Bucket{Left: d.upTo(3), Most: 3, Each: 1 + d.upTo(9), Since: d.upTo(g.Now)}
	return g
}

// gateFour is a packet of IPv4 by chance: between ends that there are mostly, some of them big, some of them near their
// last hop, some to and from elsewhere.
func (d *dice) gateFour(g impl.Gateway, inside bool) impl.V4 {
	way := comes
	if inside {
		way = []natWay{goes, backs}[d.upTo(1)]
	}
	q := d.natPacket(g.Pool, g.Bib, way)
	q.Ttl = q.Ttl % 256
	if d.upTo(4) == 0 {
		q.Data += filler(int(1100 + d.upTo(300)))
	}
	switch d.upTo(15) {
	case 0:
		q.Ttl = d.upTo(2)
	case 1:
		q.Dst = []string{lostFour, gateFour, hostA, hostB, hostC, peerA, addressOf("172.16.0.1"), addressOf("172.17.0.1")}[d.upTo(7)]
	case 2:
		q.Src = []string{lostFour, gateFour, fourEnd(0), fourEnd(255), addressOf("172.16.0.1"), addressOf("172.17.0.1")}[d.upTo(5)]
	case 3, 4, 5:
		q.Whole = !q.Whole && q.Off == 0
	}
	return q
}

func fourEnd(b byte) string {
	return strings.Repeat(string([]byte{b}), 4)
}

func (d *dice) gateSix(g impl.Gateway) impl.V6 {
	q := d.sixOut(g.Six)
	q.Hops = q.Hops % 256
	if d.upTo(4) == 0 {
		q.Data += filler(int(1100 + d.upTo(300)))
	}
	switch d.upTo(7) {
	case 0:
		q.Hops = d.upTo(2)
	case 1, 2:
		q.Dst = []string{lostSix, gateSix, hostSix, newSix, otherSix, addressOf("fd16::1"), addressOf("fd17::1"), addressOf("2400::1")}[d.upTo(7)]
	case 3:
		q.Src = []string{lostSix, gateSix, strings.Repeat("\x00", 16), "\xff" + hostSix[1:], addressOf("2400::1")}[d.upTo(4)]
	case 4:
		q.Dst = putInto(g.Six, []string{lostFour, hostA, lentOne, gateFour}[d.upTo(3)])
	}
	return q
}

// pieceText is a piece of one of a few packets that are always the same beside a gateway, so that they come together
// now and then.
func (d *dice) pieceText(g impl.Gateway, inside bool) string {
	host, peer, places := d.upTo(1), []string{peerA, peerB}[d.upTo(1)], []int{8, 24}
	data := func(f impl.Flow) string { return carriedAs(f, false, filler(24+int(host)*1250)) }
	if d.upTo(2) == 0 && inside {
		f := outBySix(impl.Udp, []string{hostSix, newSix}[host], 1000, g.Six, peer, 1)
		return laySix(sixPieces(carryingSix(f, data(f)), places...)[d.upTo(2)])
	}
	f := flowFrom(impl.Udp, []string{hostA, hostB}[host], 1000, peer, 1)
	if !inside {
		f = flowFrom(impl.Udp, peer, 1, g.Pool.Addrs[0], g.Pool.Low+host)
	} else if d.upTo(2) == 0 {
		f.Dst, f.DstPort = g.Pool.Addrs[0], g.Pool.Low
	}
	l := fourPieces(carrying(f, data(f)), places...)
	if d.upTo(30) == 0 {
		l[1].Off += d.upTo(2)
	}
	return layFour(l[d.upTo(2)])
}

// gateText is a text by chance for a gateway, now and then none that is read.
func (d *dice) gateText(g impl.Gateway, inside bool) string {
	text := ""
	switch d.upTo(9) {
	case 0, 1, 2:
		text = laySix(d.gateSix(g))
	case 3, 4, 5:
		text = d.pieceText(g, inside)
	default:
		text = layFour(d.gateFour(g, inside))
	}
	switch d.upTo(60) {
	case 0:
		text = text[:d.upTo(int64(len(text)-1))]
	case 1:
		text = turnedAt(text, int(d.upTo(19)), 1)
	case 2:
		text = d.text(d.upTo(60))
	case 3:
		text += filler(int(d.upTo(100)))
	}
	return text
}

// wantPromise22 asks of a packet of IPv4 from outside that what it becomes goes to the host of a bind, and that none is made.
func wantPromise22(t *testing.T, what string, g impl.Gateway, text string, got impl.GwOut) {
	t.Helper()
	wantAnswer(t, what+": makes no bind", slices.Equal(got.Gateway.Bib.Binds, g.Bib.Binds), true)
	for _, s := range got.Sends {
		dst := impl.V6Read(s.Text).Packet.Dst
		if s.Text[0]/16 == 4 {
			dst = impl.V4Read(s.Text).Packet.Dst
		}
		hosted := slices.ContainsFunc(g.Bib.Binds, func(b impl.Bind) bool { return b.In == dst })
		wantAnswer(t, what+": to the host of a bind, or told", hosted || got.Code != impl.OK, true)
	}
}

// Packets by chance, one behind the other, in times that go on: what is told is as the document's words reckon it, and
// promises 21 and 22 hold of each.
func TestMadeGates(t *testing.T) {
	d := dice(21)
	met := map[string]int{}
	for round := range 120 {
		g := d.gate()
		for step := range 200 {
			inside := d.upTo(4) > 1
			text := d.gateText(g, inside)
			what := fmt.Sprintf("round %d, step %d, from %s, %.60q", round, step, sideText(inside), text)
			before := gateClone(g)
			got := impl.GwIn(g, inside, text)
			wantGate(t, what+": what was handed in", g, before)
			wantGwOut(t, what, got, gateTold(g, inside, text))
			wantSound(t, what, g, got)
			kind := "none"
			switch (text + "\x00")[0] / 16 {
			case 4:
				kind = "four"
				if !inside {
					wantPromise22(t, what, g, text, got)
				}
			case 6:
				kind = "six"
			}
			met[fmt.Sprintf("%s from %s: %d", kind, sideText(inside), got.Code)]++
			if len(got.Sends) > 1 {
				met["cut"]++
			}
			if got.Code != impl.OK && len(got.Sends) > 0 {
				met["told"]++
			}
			g = got.Gateway
			if d.upTo(4) == 0 {
				n := d.upTo(6)
				later := impl.GwTick(g, n)
				wantGate(t, what+", later", later, gateLater(g, n))
				g = later
			}
		}
	}
	for what, least := range leastMet() {
		if met[what] < least {
			t.Errorf("%s was met %d times: %v", what, met[what], met)
		}
	}
}

// leastMet says what packets by chance have to come to.
func leastMet() map[string]int {
	least := map[string]int{"cut": 30, "told": 200}
	for what, codes := range map[string][]int64{
		"four from inside":  {impl.OK, impl.ErrForm, impl.ErrShort, impl.ErrNone, impl.ErrFull, impl.ErrFrag, impl.ErrKind, impl.ErrHops, impl.ErrBig, impl.ErrSum},
		"four from outside": {impl.OK, impl.ErrForm, impl.ErrShort, impl.ErrNone, impl.ErrFull, impl.ErrFrag, impl.ErrKind, impl.ErrHops, impl.ErrSum},
		"six from inside":   {impl.OK, impl.ErrShort, impl.ErrNone, impl.ErrFull, impl.ErrFrag, impl.ErrKind, impl.ErrHops, impl.ErrBig},
		"six from outside":  {impl.OK, impl.ErrNone, impl.ErrKind, impl.ErrHops, impl.ErrBig},
		"none from inside":  {impl.ErrSyntax},
		"none from outside": {impl.ErrSyntax},
	} {
		for _, code := range codes {
			least[fmt.Sprintf("%s: %d", what, code)] = 5
		}
	}
	return least
}

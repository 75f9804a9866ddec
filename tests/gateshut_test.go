package tests

import (
	"fmt"
	"slices"
	"testing"

	"loop.example/g00314/impl"
)

// letIn tells whether a packet of IPv4 comes in to the host of a bind, by the words about filters: there is its session,
// or one may begin.
func letIn(g impl.Gateway, f impl.Flow, flags int64) (impl.Bind, bool) {
	bind, there := bindOutside(g.Bib, theEnd{f.Proto, f.Dst, f.DstPort})
	if !there {
		return bind, false
	}
	port, knows := f.SrcPort, false
	if f.Proto == impl.Icmp {
		port = 0
	}
	for _, s := range g.Bib.Sessions {
		if hostEndOf(s) != endInside(bind) || s.Peer != f.Src {
			continue
		}
		knows = true
		if s.PeerPort == port {
			return bind, true
		}
	}
	begins := f.Proto != impl.Tcp || flags&(syn|rst|ack) == syn
	welcome := g.Pool.Filter == 0 || g.Pool.Filter == 1 && knows
	return bind, begins && welcome && int64(len(g.Bib.Sessions)) < g.Pool.Most
}

// wantShut asks for promise 22 of a packet from outside: what is sent inside goes to the host of its bind, and only as
// the filter says; no bind is made.
func wantShut(t *testing.T, what string, g impl.Gateway, f impl.Flow, flags int64) (sentIn bool) {
	t.Helper()
	q := sent(f, flags)
	got := impl.GwIn(g, false, layFour(q))
	wantGwOut(t, what, got, gateTold(g, false, layFour(q)))
	wantSound(t, what, g, got)
	wantAnswer(t, what+": makes no bind", slices.Equal(got.Gateway.Bib.Binds, g.Bib.Binds), true)
	bind, let := letIn(g, f, flags)
	let = let && among(hopFor(g, bind.In), 1, 500)
	wantAnswer(t, what+": is let in", got.Code == impl.OK, let)
	wantNumber(t, what+": is sent once, or not", int64(len(got.Sends)), map[bool]int64{true: 1}[let])
	if !let {
		return false
	}
	wantNumber(t, what+": inside", got.Sends[0].Hop, hopFor(g, bind.In))
	if len(bind.In) == 16 {
		p := impl.V6Read(got.Sends[0].Text).Packet
		wantSixCarried(t, what, p, flowOfSix(f.Proto, putInto(g.Six, f.Src), f.SrcPort, bind.In, bind.InPort), true)
		return true
	}
	want := impl.Flow{Proto: f.Proto, Src: f.Src, Dst: bind.In, SrcPort: f.SrcPort, DstPort: bind.InPort}
	if f.Proto == impl.Icmp {
		want.SrcPort = bind.InPort
	}
	wantCarried(t, what, impl.V4Read(got.Sends[0].Text).Packet, want, true)
	return true
}

// shutGate has binds of hosts of 4 and of 16 bytes of each proto, and of hosts that are not inside.
func shutGate(filter int64) impl.Gateway {
	g := gateWith(openGate(), func(g *impl.Gateway) {
		g.Pool.Filter, g.Pool.Most = filter, 20
		for i, host := range []string{"172.16.0.1", "172.17.0.1", "9.9.9.9", "fd16::1", "fd17::1", "3000::9"} {
			bind := impl.Bind{Proto: impl.Udp, In: addressOf(host), InPort: 5, Out: lentLast, OutPort: 1000 + int64(i)}
			g.Bib.Binds = append(g.Bib.Binds, bind)
			g.Bib.Sessions = append(g.Bib.Sessions, openSession(bind, peerA, 53, 500))
		}
	})
	return g
}

// Promise 22, with each Filter: each address and port of the pool and some beside them, of each proto, from peers that
// are known at that port, known at another, and not known.
func TestNothingComesInUnasked(t *testing.T) {
	for filter := range int64(3) {
		g := shutGate(filter)
		wantAnswer(t, "right", impl.GwRight(g), true)
		met := 0
		for _, dst := range append(slices.Clone(g.Pool.Addrs), addressOf("203.0.113.4"), hostA, hostC, peerB, lostFour, addressOf("172.16.0.1")) {
			for port := int64(999); port <= 1010; port++ {
				for _, proto := range bibProtos {
					for _, src := range []string{peerA, peerB, peerC, hostB} {
						for _, srcPort := range []int64{53, 80, 9} {
							f := flowFrom(proto, src, srcPort, dst, port)
							if proto == impl.Icmp {
								f.SrcPort, f.DstPort = port, port
							}
							for _, flags := range []int64{syn, syn | ack, ack, rst} {
								if proto != impl.Tcp && flags != syn {
									continue
								}
								if wantShut(t, fmt.Sprintf("filter %d, %s, flags %d", filter, flowText(f), flags), g, f, flags) {
									met++
								}
							}
						}
					}
				}
			}
		}
		// By Filter: how many sessions there are to hosts inside, and what may begin beside them.
		wantAnswer(t, fmt.Sprintf("filter %d: %d came in", filter, met), met >= []int{70, 25, 12}[filter] && met <= []int{120, 45, 20}[filter], true)
	}
}

// Without any bind nothing comes in at all, whatever it is.
func TestNothingComesInWithoutBinds(t *testing.T) {
	d := dice(22)
	for range 3000 {
		g := gateWith(shutGate(d.upTo(2)), func(g *impl.Gateway) { g.Bib = impl.Bib{} })
		q := d.natPacket(g.Pool, impl.Bib{}, comes)
		q.Ttl = 2 + q.Ttl%250
		if !fourIsRight(q) {
			continue
		}
		got := impl.GwIn(g, false, layFour(q))
		wantGwOut(t, "without binds", got, gateTold(g, false, layFour(q)))
		wantNumber(t, "nothing is sent", int64(len(got.Sends)), 0)
		wantBib(t, "no bind is made", got.Gateway.Bib, impl.Bib{})
	}
}

// A bind is made by what goes out; the answer comes in by it, until its time has come, and nobody else's does.
func TestAnswersComeIn(t *testing.T) {
	for filter := range int64(3) {
		g := gateWith(homeGate(), func(g *impl.Gateway) { g.Pool.Filter, g.Bib = filter, impl.Bib{} })
		for _, proto := range bibProtos {
			for _, way := range []struct {
				text      string
				out, back int64
			}{
				{fourText(proto, hostC, 1005, peerA, 53), 600, 8},
				{intoText(proto, newSix, 1005, peerA, 53), 600, 9},
			} {
				what := fmt.Sprintf("filter %d, proto %d, %d bytes", filter, proto, len(way.text))
				went := takes(t, what, g, true, way.text, impl.OK, way.out)
				answer := answerTo(impl.V4Read(went.Sends[0].Text).Packet, syn|ack)
				takes(t, what+", its answer ahead of it", g, false, layFour(answer), impl.ErrNone)
				came := takes(t, what+", its answer", went.Gateway, false, layFour(answer), impl.OK, way.back)
				wantAnswer(t, what+": makes no bind", slices.Equal(came.Gateway.Bib.Binds, went.Gateway.Bib.Binds), true)
				life := went.Gateway.Bib.Sessions[0].Until - 100
				takes(t, what+", in time", impl.GwTick(went.Gateway, life-1), false, layFour(answer), impl.OK, way.back)
				takes(t, what+", too late", impl.GwTick(went.Gateway, life), false, layFour(answer), impl.ErrNone)

				other := packetWith(answer, func(q *impl.V4) { q.Src = peerB })
				if filter == 0 && proto != impl.Tcp {
					takes(t, what+", another's", went.Gateway, false, layFour(other), impl.OK, way.back)
				} else {
					takes(t, what+", another's", went.Gateway, false, layFour(other), impl.ErrNone)
				}
			}
		}
	}
}

// A session that is new from outside is of a bind that there is, and stays within Most.
func TestSessionsFromOutside(t *testing.T) {
	g := gateWith(openGate(), func(g *impl.Gateway) { g.Pool.Most = 9 })
	for i := range int64(4) {
		f := flowFrom(impl.Udp, peerC, 100+i, lentOne, 1002)
		got := impl.GwIn(g, false, layFour(sent(f, 0)))
		wantShut(t, fmt.Sprintf("the number %d", i), g, f, 0)
		wantNumber(t, "sessions", int64(len(got.Gateway.Bib.Sessions)), min(8+i, 9))
		g = got.Gateway
	}
}

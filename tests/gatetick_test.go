package tests

import (
	"fmt"
	"math"
	"slices"
	"testing"

	"loop.example/g00314/impl"
)

// gateLater is a right gateway at a later time that there is, by the document's words.
func gateLater(g impl.Gateway, n int64) impl.Gateway {
	g.Now += n
	g.Pieces = youngOf(g.Pieces, g.Now)
	g.Bib = bibTicked(g.Pool, g.Bib, g.Now)
	return g
}

// wantLater asks for a gateway so much later, which is right and has what was named for it.
func wantLater(t *testing.T, what string, g impl.Gateway, n int64) impl.Gateway {
	t.Helper()
	got := impl.GwTick(g, n)
	wantGate(t, what, got, gateLater(g, n))
	wantAnswer(t, what+": right", impl.GwRight(got), true)
	wantNumber(t, what+": its time", got.Now, g.Now+n)
	wantAnswer(t, what+": its routes", slices.Equal(got.Routes, g.Routes), true)
	wantAnswer(t, what+": its bucket", got.Bucket == g.Bucket, true)
	return got
}

func TestLaterByHand(t *testing.T) {
	// The pieces are of 95, 100 and 90; the sessions last until 500, 510 and so on to 560.
	for _, c := range []struct {
		n                       int64
		pieces, binds, sessions int
	}{
		{0, 3, 5, 7}, {1, 3, 5, 7}, {19, 3, 5, 7}, {20, 2, 5, 7}, {24, 2, 5, 7}, {25, 1, 5, 7}, {29, 1, 5, 7}, {30, 0, 5, 7},
		{399, 0, 5, 7}, {400, 0, 5, 6}, {409, 0, 5, 6}, {410, 0, 4, 5}, {420, 0, 3, 4}, {430, 0, 2, 3}, {440, 0, 1, 2},
		{450, 0, 1, 1}, {459, 0, 1, 1}, {460, 0, 0, 0}, {1000, 0, 0, 0}, {1000000000 - 100, 0, 0, 0},
	} {
		got := wantLater(t, fmt.Sprintf("%d later", c.n), homeGate(), c.n)
		counts := []int{len(got.Pieces), len(got.Bib.Binds), len(got.Bib.Sessions)}
		if !slices.Equal(counts, []int{c.pieces, c.binds, c.sessions}) {
			t.Errorf("%d later: got %v pieces, binds and sessions, want %d, %d and %d", c.n, counts, c.pieces, c.binds, c.sessions)
		}
	}
}

// Promise 23, with times of sessions and pieces at the steps, just ahead of them and just behind.
func TestTwoStepsAreOne(t *testing.T) {
	var times []int64
	for _, at := range []int64{100, 120, 125, 130, 500, 510, 520, 530, 540, 550, 560, 600} {
		times = append(times, at-1-100, at-100, at+1-100)
	}
	times = append(times[1:], 999999000, 999999899, 999999900)
	for _, both := range times {
		once := wantLater(t, "one step", homeGate(), both)
		for _, first := range times {
			if first > both {
				continue
			}
			what := fmt.Sprintf("%d and %d more", first, both-first)
			half := wantLater(t, what, homeGate(), first)
			wantGate(t, what, wantLater(t, what, half, both-first), once)
		}
	}
}

// A number of steps by chance, and one, of gateways by chance.
func TestManyStepsAreOne(t *testing.T) {
	d := dice(23)
	gone := 0
	for range 300 {
		g := d.gate()
		for range 40 {
			g = impl.GwIn(g, true, d.gateText(g, true)).Gateway
			if d.upTo(9) == 0 {
				g = impl.GwTick(g, d.upTo(3))
			}
		}
		steps, all := g, int64(0)
		for range 2 + d.upTo(4) {
			n := d.upTo(25)
			steps, all = wantLater(t, "a step", steps, n), all+n
		}
		once := wantLater(t, "one step", g, all)
		wantGate(t, fmt.Sprintf("%d in all", all), steps, once)
		if len(once.Bib.Sessions) < len(g.Bib.Sessions) && len(once.Bib.Sessions) > 0 {
			gone++
		}
	}
	if gone < 20 {
		t.Errorf("some sessions but not all were gone %d times only", gone)
	}
}

// wantAsItWas asks that no time goes by.
func wantAsItWas(t *testing.T, what string, g impl.Gateway, n int64) {
	t.Helper()
	wantGate(t, fmt.Sprintf("%s: %d later", what, n), impl.GwTick(g, n), g)
}

func TestTimesThatAreNone(t *testing.T) {
	for _, now := range []int64{100, 101, 999999999, 1000000000} {
		g := gateWith(homeGate(), func(g *impl.Gateway) { g.Now = now })
		room := 1000000000 - now
		for _, n := range []int64{-1, -100, -now, -now - 1, -1 << 32, math.MinInt64, math.MinInt64 + now, room + 1, room + 2, 1000000000 + 1, 1 << 32, math.MaxInt64, math.MaxInt64 - now} {
			wantAsItWas(t, fmt.Sprintf("at %d", now), g, n)
		}
		for _, n := range []int64{0, room - 1, room} {
			if n >= 0 {
				wantLater(t, fmt.Sprintf("at %d, %d later", now, n), g, n)
			}
		}
		// Time may go on by two steps only as far as by one.
		wantAsItWas(t, "at the end", impl.GwTick(g, room), 1)
	}
	wantLater(t, "no step", impl.GwTick(homeGate(), 1000000000-100), 0)
}

// What is not right stays as it is, with all that it has: nothing is taken from its lists, and no time goes by.
func TestLaterOfWrongGates(t *testing.T) {
	for what, change := range wrongGates() {
		for _, n := range []int64{0, 1, 30, 450, 1000, -1, math.MaxInt64, math.MinInt64} {
			g := gateWith(homeGate(), change)
			wantAsItWas(t, what, g, n)
		}
	}
}

// wrongGates are changes that make the gateway of home wrong, one for each of its fields.
func wrongGates() map[string]func(g *impl.Gateway) {
	return map[string]func(g *impl.Gateway){
		"Routes":       func(g *impl.Gateway) { g.Routes[0].Hop = 0 },
		"Pool":         func(g *impl.Gateway) { g.Pool.Most = 61 },
		"Six":          func(g *impl.Gateway) { g.Six.Bits = 95 },
		"Four1":        func(g *impl.Gateway) { g.Four1 = "" },
		"Six1":         func(g *impl.Gateway) { g.Six1 = g.Four1 },
		"Mtu":          func(g *impl.Gateway) { g.Mtu = 1279 },
		"Bib":          func(g *impl.Gateway) { g.Bib.Binds = nil },
		"Pieces":       func(g *impl.Gateway) { g.Pieces[0].Data = "" },
		"Bucket":       func(g *impl.Gateway) { g.Bucket.Each = 0 },
		"Bucket.Since": func(g *impl.Gateway) { g.Bucket.Since = 101 },
		"Now":          func(g *impl.Gateway) { g.Now = 99 },
		"Now below 0":  func(g *impl.Gateway) { g.Now = -1 },
		"Now too far":  func(g *impl.Gateway) { g.Now = 1000000001 },
		"all":          func(g *impl.Gateway) { *g = impl.Gateway{} },
		"long lists": func(g *impl.Gateway) {
			g.Routes, g.Pieces, g.Pool.Addrs = manyRoutes(450), slices.Repeat(g.Pieces, 150), slices.Repeat(g.Pool.Addrs, 150)
			g.Bib = impl.Bib{Binds: slices.Repeat(g.Bib.Binds, 100), Sessions: slices.Repeat(g.Bib.Sessions, 100)}
		},
		"long texts": func(g *impl.Gateway) {
			g.Four1, g.Six1, g.Six.Addr, g.Pieces[0].Data = filler(20001), filler(20002), filler(20003), filler(20004)
		},
	}
}

func TestLaterIsNewMemory(t *testing.T) {
	changes := wrongGates()
	changes["nothing"] = func(g *impl.Gateway) {}
	for what, change := range changes {
		for _, n := range []int64{0, 7, 25, 420, -1} {
			given := ownGate(gateWith(homeGate(), change))
			before := gateText(wholeGate(given))
			got, again := impl.GwTick(given, n), impl.GwTick(given, n)
			want := gateText(got)
			wantNewTexts(t, what, textsOfGate(got), textsOfGate(given))
			if texts := textsOfGate(got); len(texts) < 200 {
				wantApart(t, what, texts)
			}
			wantText(t, what+": what was handed in", gateText(wholeGate(given)), before)
			spoilGate(got)
			wantText(t, what+": what was handed in, the answer spoilt", gateText(wholeGate(given)), before)
			spoilGate(given)
			wantText(t, what+": what was handed in spoilt", gateText(again), want)
		}
	}
}

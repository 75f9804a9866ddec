package tests

import (
	"fmt"
	"math"
	"testing"

	"loop.example/g00314/impl"
)

func someBucket() impl.Bucket {
	return impl.Bucket{Left: 3, Most: 5, Each: 7, Since: 100}
}

func bucketWith(change func(b *impl.Bucket)) impl.Bucket {
	b := someBucket()
	change(&b)
	return b
}

// bucketIsRight asks the document's words one by one.
func bucketIsRight(b impl.Bucket) bool {
	switch {
	case !among(b.Most, 1, 100), !among(b.Left, 0, b.Most):
		return false
	case !among(b.Each, 1, 1000), !among(b.Since, 0, 1000000000):
		return false
	}
	return true
}

// bucketTaken goes by the document's words, an Each after the other.
func bucketTaken(b impl.Bucket, now int64) impl.BucketOut {
	if !bucketIsRight(b) || !among(now, b.Since, 1000000000) {
		return impl.BucketOut{Bucket: b}
	}
	for b.Since+b.Each <= now {
		b.Since += b.Each
		if b.Left < b.Most {
			b.Left++
		}
	}
	if b.Left == 0 {
		return impl.BucketOut{Bucket: b}
	}
	b.Left--
	return impl.BucketOut{Bucket: b, Ok: true}
}

func wantTaken(t *testing.T, what string, b impl.Bucket, now int64, want impl.BucketOut) {
	t.Helper()
	if got := impl.BucketTake(b, now); got != want {
		t.Errorf("%s: BucketTake of %+v at %d: got %+v, want %+v", what, b, now, got, want)
	}
}

// wantAsItIs asks that nothing is given, and that nothing has changed.
func wantAsItIs(t *testing.T, what string, b impl.Bucket, now int64) {
	t.Helper()
	wantTaken(t, what, b, now, impl.BucketOut{Bucket: b})
}

func TestBucketsByHand(t *testing.T) {
	for _, c := range []struct {
		what string
		b    impl.Bucket
		now  int64
		want impl.Bucket
		ok   bool
	}{
		{"something is left", impl.Bucket{Left: 1, Most: 2, Each: 3, Since: 10}, 10, impl.Bucket{Left: 0, Most: 2, Each: 3, Since: 10}, true},
		{"nothing is left", impl.Bucket{Left: 0, Most: 2, Each: 3, Since: 10}, 10, impl.Bucket{Left: 0, Most: 2, Each: 3, Since: 10}, false},
		{"just ahead of one more", impl.Bucket{Left: 0, Most: 2, Each: 3, Since: 10}, 12, impl.Bucket{Left: 0, Most: 2, Each: 3, Since: 10}, false},
		{"one more has come", impl.Bucket{Left: 0, Most: 2, Each: 3, Since: 10}, 13, impl.Bucket{Left: 0, Most: 2, Each: 3, Since: 13}, true},
		{"just behind that", impl.Bucket{Left: 0, Most: 2, Each: 3, Since: 10}, 14, impl.Bucket{Left: 0, Most: 2, Each: 3, Since: 13}, true},
		{"just ahead of two more", impl.Bucket{Left: 0, Most: 2, Each: 3, Since: 10}, 15, impl.Bucket{Left: 0, Most: 2, Each: 3, Since: 13}, true},
		{"two more have come", impl.Bucket{Left: 0, Most: 2, Each: 3, Since: 10}, 16, impl.Bucket{Left: 1, Most: 2, Each: 3, Since: 16}, true},
		{"just behind these", impl.Bucket{Left: 0, Most: 2, Each: 3, Since: 10}, 17, impl.Bucket{Left: 1, Most: 2, Each: 3, Since: 16}, true},
		{"three, of which two find room", impl.Bucket{Left: 0, Most: 2, Each: 3, Since: 10}, 21, impl.Bucket{Left: 1, Most: 2, Each: 3, Since: 19}, true},
		{"a full one", impl.Bucket{Left: 2, Most: 2, Each: 3, Since: 10}, 12, impl.Bucket{Left: 1, Most: 2, Each: 3, Since: 10}, true},
		{"a full one, much later", impl.Bucket{Left: 2, Most: 2, Each: 3, Since: 10}, 1000, impl.Bucket{Left: 1, Most: 2, Each: 3, Since: 1000}, true},
		{"a full one, a bit later than that", impl.Bucket{Left: 2, Most: 2, Each: 3, Since: 10}, 1002, impl.Bucket{Left: 1, Most: 2, Each: 3, Since: 1000}, true},
		{"one at most", impl.Bucket{Left: 0, Most: 1, Each: 1000, Since: 0}, 999, impl.Bucket{Left: 0, Most: 1, Each: 1000, Since: 0}, false},
		{"one at most, at last", impl.Bucket{Left: 0, Most: 1, Each: 1000, Since: 0}, 1000, impl.Bucket{Left: 0, Most: 1, Each: 1000, Since: 1000}, true},
		{"all of the time", impl.Bucket{Left: 0, Most: 100, Each: 1, Since: 0}, 1000000000, impl.Bucket{Left: 99, Most: 100, Each: 1, Since: 1000000000}, true},
		{"all of the time, and a rest", impl.Bucket{Left: 7, Most: 100, Each: 999, Since: 0}, 1000000000, impl.Bucket{Left: 99, Most: 100, Each: 999, Since: 999999999}, true},
		{"the last time", impl.Bucket{Left: 0, Most: 5, Each: 2, Since: 1000000000}, 1000000000, impl.Bucket{Left: 0, Most: 5, Each: 2, Since: 1000000000}, false},
	} {
		wantTaken(t, c.what, c.b, c.now, impl.BucketOut{Bucket: c.want, Ok: c.ok})
	}
}

// Promise 19 at one time: what a bucket has is given one by one, and then no more.
func TestTakenAsOftenAsItHas(t *testing.T) {
	for most := int64(1); most <= 100; most++ {
		for left := int64(0); left <= most; left++ {
			b := impl.Bucket{Left: left, Most: most, Each: 2, Since: 50}
			for has := left; has > 0; has-- {
				want := b
				want.Left = has - 1
				wantTaken(t, "it has some", b, 51, impl.BucketOut{Bucket: want, Ok: true})
				b = impl.BucketTake(b, 51).Bucket
			}
			for range 3 {
				wantAsItIs(t, "it has none", b, 51)
				b = impl.BucketTake(b, 51).Bucket
			}
		}
	}
}

// Times at, just before and just behind each whole Each, and far behind it, of buckets that have all there is room
// for, none, and some.
func TestTimesOfEach(t *testing.T) {
	for _, each := range []int64{1, 2, 3, 7, 60, 999, 1000} {
		for _, most := range []int64{1, 2, 5, 99, 100} {
			for _, left := range []int64{0, 1, most / 2, most - 1, most} {
				for _, since := range []int64{0, 1, 12345} {
					b := impl.Bucket{Left: left, Most: most, Each: each, Since: since}
					for _, count := range []int64{0, 1, 2, 3, most - left, most - left + 1, most, most + 1, 1000} {
						for _, by := range []int64{-1, 0, 1} {
							now := since + count*each + by
							wantTaken(t, fmt.Sprintf("%d times Each, and %d", count, by), b, now, bucketTaken(b, now))
						}
					}
				}
			}
		}
	}
}

// What is left of an Each is not lost, however often it is asked between: of a bucket that is asked at every time, one
// is given for each whole Each.
func TestRestOfEachIsKept(t *testing.T) {
	for _, each := range []int64{1, 2, 3, 7, 10, 99} {
		for _, step := range []int64{1, 2, 5, 6} {
			b := impl.Bucket{Left: 0, Most: 20, Each: each, Since: 17}
			given := int64(0)
			for now := int64(17); now <= 17+20*99; now += step {
				for range 30 {
					out := impl.BucketTake(b, now)
					b = out.Bucket
					wantNumber(t, "Since is a whole number of Each behind", (b.Since-17)%each, 0)
					wantAnswer(t, "Since is less than an Each ago", among(now-b.Since, 0, each-1), true)
					if !out.Ok {
						break
					}
					given++
				}
				wantNumber(t, fmt.Sprintf("given until %d, Each %d, in steps of %d", now, each, step), given, (now-17)/each)
			}
		}
	}
}

// What finds no room does not come later: the time that has gone by is counted all the same.
func TestNoMoreThanMost(t *testing.T) {
	b := impl.Bucket{Left: 5, Most: 5, Each: 2, Since: 0}
	b = impl.BucketTake(b, 101).Bucket
	wantAnswer(t, "four are left, since 100", b == impl.Bucket{Left: 4, Most: 5, Each: 2, Since: 100}, true)
	for range 4 {
		b = impl.BucketTake(b, 101).Bucket
	}
	wantAsItIs(t, "none is left", b, 101)
	wantTaken(t, "one more at 102", b, 102, impl.BucketOut{Bucket: impl.Bucket{Most: 5, Each: 2, Since: 102}, Ok: true})
	empty := impl.Bucket{Most: 3, Each: 10, Since: 0}
	for now := int64(0); now < 10; now++ {
		wantAsItIs(t, "too early", empty, now)
	}
	wantTaken(t, "at last", empty, 10, impl.BucketOut{Bucket: impl.Bucket{Most: 3, Each: 10, Since: 10}, Ok: true})
}

// wantBucketAs holds the bucket for right or not; one that is not right gives nothing, and stays as it is.
func wantBucketAs(t *testing.T, what string, b impl.Bucket, right bool) {
	t.Helper()
	what = fmt.Sprintf("%s: %+v", what, b)
	wantAnswer(t, what, impl.BucketRight(b), right)
	wantAnswer(t, what+" (as reckoned)", bucketIsRight(b), right)
	for _, now := range []int64{0, 1, 100, 101, 1000, 1000000000} {
		switch {
		case !right:
			wantAsItIs(t, what, b, now)
		case now >= b.Since && b.Left > 0:
			wantAnswer(t, what+": gives", impl.BucketTake(b, now).Ok, true)
		}
	}
}

func TestBucketsAtLimits(t *testing.T) {
	far := []int64{math.MinInt64, math.MinInt64 + 1, -1 << 32, -1000000000, -100, 1<<32 + 1, 1<<32 + 50, math.MaxInt64 - 1, math.MaxInt64}
	for _, n := range append(far, -1, 0, 1, 2, 5, 50, 99, 100, 101, 255, 256+5, 1000) {
		none := bucketWith(func(b *impl.Bucket) { b.Left, b.Most = 0, n })
		wantBucketAs(t, "Most, none left", none, among(n, 1, 100))
		full := bucketWith(func(b *impl.Bucket) { b.Left, b.Most = n, n })
		wantBucketAs(t, "Most, all left", full, among(n, 1, 100))
	}
	for _, most := range []int64{1, 2, 5, 99, 100} {
		for _, n := range append(far, -2, -1, 0, 1, most-1, most, most+1, 99, 100, 101) {
			b := bucketWith(func(b *impl.Bucket) { b.Left, b.Most = n, most })
			wantBucketAs(t, "Left", b, among(n, 0, most))
		}
	}
	for _, n := range append(far, -7, -1, 0, 1, 2, 500, 999, 1000, 1001, 65536+1) {
		b := bucketWith(func(b *impl.Bucket) { b.Each = n })
		wantBucketAs(t, "Each", b, among(n, 1, 1000))
	}
	for _, n := range append(noTimes, 0, 1, 99, 100, 999999999, 1000000000) {
		b := bucketWith(func(b *impl.Bucket) { b.Since = n })
		wantBucketAs(t, "Since", b, among(n, 0, 1000000000))
	}
	wantBucketAs(t, "nothing", impl.Bucket{}, false)
	wantBucketAs(t, "the least one", impl.Bucket{Most: 1, Each: 1}, true)
	wantBucketAs(t, "the greatest one", impl.Bucket{Left: 100, Most: 100, Each: 1000, Since: 1000000000}, true)
}

// Each of the four fields at each of its edges, beside the others at theirs.
func TestBucketsAtAllEdges(t *testing.T) {
	right := 0
	for _, most := range []int64{0, 1, 100, 101} {
		for _, left := range []int64{-1, 0, 1, 100, 101} {
			for _, each := range []int64{0, 1, 1000, 1001} {
				for _, since := range []int64{-1, 0, 1000000000, 1000000001} {
					b := impl.Bucket{Left: left, Most: most, Each: each, Since: since}
					wantBucketAs(t, "edges", b, bucketIsRight(b))
					if bucketIsRight(b) {
						right++
					}
				}
			}
		}
	}
	wantNumber(t, "right ones", int64(right), (2+3)*2*2)
}

func TestBucketsAtWrongTimes(t *testing.T) {
	for _, left := range []int64{0, 1, 5} {
		for _, since := range []int64{0, 1, 100, 999999999, 1000000000} {
			b := bucketWith(func(b *impl.Bucket) { b.Left, b.Since = left, since })
			for _, now := range noTimes {
				wantAsItIs(t, "no time", b, now)
			}
			for _, back := range []int64{1, 2, 6, 7, 8, 14, 70, 1000} {
				if since-back >= 0 {
					wantAsItIs(t, "below Since", b, since-back)
				}
			}
			wantTaken(t, "at Since", b, since, bucketTaken(b, since))
		}
	}
	// A Since that is no time is not right, though now is not below it.
	for _, since := range noTimes {
		b := bucketWith(func(b *impl.Bucket) { b.Since = since })
		for _, now := range []int64{since, since + 1, 0, 100, 1000000000} {
			wantAsItIs(t, "Since is no time", b, now)
		}
	}
}

// Promise 19 over rows of times by chance: a right bucket stays right, gives what it has, and never more than that and
// what has come since.
func TestMadeBuckets(t *testing.T) {
	d := dice(19)
	met := map[bool]int{}
	for range 400 {
		most := 1 + d.upTo(99)
		first := impl.Bucket{Left: d.upTo(most), Most: most, Each: 1 + d.upTo(30), Since: d.upTo(1000)}
		b, now, given := first, first.Since, int64(0)
		for range 200 {
			if d.upTo(3) == 0 {
				now += d.upTo(3 * b.Each)
			}
			what := fmt.Sprintf("from %+v on", first)
			out := impl.BucketTake(b, now)
			wantTaken(t, what, b, now, bucketTaken(b, now))
			wantAnswer(t, what+": right", impl.BucketRight(out.Bucket), true)
			met[out.Ok]++
			if out.Ok {
				given++
			} else {
				wantNumber(t, what+": left beside none given", out.Bucket.Left, 0)
			}
			came := (now - first.Since) / first.Each
			wantAnswer(t, what+": no more than it had and has come", given+out.Bucket.Left <= first.Left+came, true)
			wantAnswer(t, what+": Most and Each are as they were", out.Bucket.Most == first.Most && out.Bucket.Each == first.Each, true)
			b = out.Bucket
		}
	}
	if met[true] < 1000 || met[false] < 1000 {
		t.Errorf("too few of a kind: %v", met)
	}
}

package tests

import (
	"fmt"
	"math"
	"slices"
	"strings"
	"testing"

	"loop.example/g00381/impl"
)

const pageA = "0123456789abcdef"
const pageB = "................"

// same holds texts of the two against each other: there, an empty list and none are alike.
func same(t *testing.T, what string, got any, want any) {
	t.Helper()
	if fmt.Sprintf("%+v", got) != fmt.Sprintf("%+v", want) {
		t.Errorf("%s: got %+v, want %+v", what, got, want)
	}
}

func pageOf(birth int64, data string) impl.Slot {
	return impl.Slot{Birth: birth, Data: data}
}

func nodeOf(birth int64, kids ...impl.Ptr) impl.Slot {
	all := make([]impl.Ptr, impl.Fan)
	copy(all, kids)
	return impl.Slot{Birth: birth, Kids: all}
}

func poolOf(held []int64, slots ...impl.Slot) impl.Pool {
	return impl.Pool{Slots: slots, Held: held}
}

func copyOf(p impl.Pool) impl.Pool {
	out := impl.Pool{Slots: slices.Clone(p.Slots), Held: slices.Clone(p.Held)}
	for i := range out.Slots {
		out.Slots[i].Kids = slices.Clone(out.Slots[i].Kids)
	}
	return out
}

// spoil writes over all that a pool's lists reach, the room behind them, too.
func spoil(p impl.Pool) {
	for i := range p.Slots {
		kids := p.Slots[i].Kids[:cap(p.Slots[i].Kids)]
		for k := range kids {
			kids[k] = impl.Ptr{Slot: -7, Birth: -7}
		}
	}
	slots := p.Slots[:cap(p.Slots)]
	for i := range slots {
		slots[i] = impl.Slot{Birth: -7, Data: "spoilt"}
	}
	held := p.Held[:cap(p.Held)]
	for i := range held {
		held[i] = -7
	}
}

// roomy is a pool whose lists have room behind them, and whose two nodes have one list of Kids.
func roomy() impl.Pool {
	kids := make([]impl.Ptr, impl.Fan, 2*impl.Fan)
	kids[0] = impl.Ptr{Slot: 0, Birth: 2}
	slots := make([]impl.Slot, 0, 10)
	slots = append(slots, pageOf(2, pageA), impl.Slot{Birth: 3, Kids: kids}, impl.Slot{Birth: 4, Kids: kids}, impl.Slot{}, impl.Slot{})
	return impl.Pool{Slots: slots, Held: append(make([]int64, 0, 10), 2)}
}

func TestNameRight(t *testing.T) {
	for _, name := range []string{"a", "z", "a_1", "a0", "z9_", "a__", "abcdefghijklmnopqrst", "q123456789_012345678"} {
		if !impl.NameRight(name) {
			t.Errorf("%q is a name", name)
		}
	}
	wrong := []string{"", "_", "0", "9a", "_a", "A", "aB", "a b", " a", "a-", "a.", "a\n", "a\x00", "é", "aé", "`", "{", "a`", "a{", "a/", "a:",
		"abcdefghijklmnopqrstu", strings.Repeat("a", impl.MaxBytes), strings.Repeat("a", impl.MaxBytes+1)}
	for _, name := range wrong {
		if impl.NameRight(name) {
			t.Errorf("%q is no name", name)
		}
	}
}

func TestPoolNew(t *testing.T) {
	for _, n := range []int64{0, 1, 7, impl.MaxSlots} {
		p := impl.PoolNew(n)
		same(t, "slots", []any{len(p.Slots), len(p.Held), impl.PoolRoom(p), impl.PoolRight(p)}, []any{n, 0, n, true})
		for _, s := range p.Slots {
			same(t, "a new slot", s, impl.Slot{})
		}
	}
	for _, n := range []int64{-1, impl.MaxSlots + 1, math.MinInt64, math.MaxInt64} {
		same(t, "of a wrong number", impl.PoolNew(n), impl.Pool{})
	}
}

func rightPools() map[string]impl.Pool {
	page := pageOf(2, pageA)
	many := make([]impl.Slot, impl.MaxSlots)
	all := make([]int64, impl.MaxSlots)
	for i := range many {
		many[i] = page
		all[i] = int64(len(all) - 1 - i)
	}
	return map[string]impl.Pool{
		"no slots":             {},
		"free slots":           poolOf(nil, impl.Slot{}, impl.Slot{Kids: []impl.Ptr{}}),
		"a page":               poolOf(nil, page),
		"the first time":       poolOf(nil, pageOf(1, pageA)),
		"the last time":        poolOf(nil, pageOf(impl.MaxTime, pageA), nodeOf(impl.MaxTime, impl.Ptr{Slot: 0, Birth: impl.MaxTime})),
		"any bytes":            poolOf(nil, pageOf(2, strings.Repeat("\xff\x00", 8))),
		"an empty list":        poolOf([]int64{}, impl.Slot{Birth: 2, Data: pageA, Kids: []impl.Ptr{}}),
		"a node without Kids":  poolOf(nil, nodeOf(1)),
		"none beside a page 0": poolOf(nil, page, nodeOf(2)),
		"a Kid":                poolOf(nil, nodeOf(2, impl.Ptr{}, impl.Ptr{Slot: 1, Birth: 2}), page),
		"a Kid twice":          poolOf(nil, page, nodeOf(3, impl.Ptr{Slot: 0, Birth: 2}, impl.Ptr{Slot: 0, Birth: 2})),
		"a Kid of two":         poolOf(nil, page, nodeOf(3, impl.Ptr{Slot: 0, Birth: 2}), nodeOf(2, impl.Ptr{Slot: 0, Birth: 2})),
		"a Kid of itself":      poolOf(nil, nodeOf(2, impl.Ptr{Slot: 0, Birth: 2})),
		"a Kid that is held":   poolOf([]int64{0}, page, nodeOf(3, impl.Ptr{Slot: 0, Birth: 2})),
		"held, in any order":   poolOf([]int64{2, 0}, page, impl.Slot{}, page),
		"as many as may be":    poolOf(all, many...),
	}
}

func wrongPools() map[string]impl.Pool {
	page := pageOf(2, pageA)
	kid := impl.Ptr{Slot: 0, Birth: 2}
	last := nodeOf(3)
	last.Kids[impl.Fan-1] = impl.Ptr{Slot: 9, Birth: 1}
	return map[string]impl.Pool{
		"too many slots":            poolOf(nil, make([]impl.Slot, impl.MaxSlots+1)...),
		"a page without birth":      poolOf(nil, pageOf(0, pageA)),
		"a birth below 0":           poolOf(nil, pageOf(-1, pageA)),
		"a birth behind all":        poolOf(nil, pageOf(impl.MaxTime+1, pageA)),
		"a birth and nothing":       poolOf(nil, impl.Slot{Birth: 2}),
		"a short page":              poolOf(nil, pageOf(2, pageA[1:])),
		"a long page":               poolOf(nil, pageOf(2, pageA+"0")),
		"a page with Kids":          poolOf(nil, page, impl.Slot{Birth: 3, Data: pageA, Kids: nodeOf(3, kid).Kids}),
		"a node with Data":          poolOf(nil, impl.Slot{Birth: 3, Data: "x", Kids: nodeOf(3).Kids}),
		"a node without birth":      poolOf(nil, nodeOf(0)),
		"a node behind all":         poolOf(nil, nodeOf(impl.MaxTime+1)),
		"few Kids":                  poolOf(nil, page, impl.Slot{Birth: 3, Kids: nodeOf(3, kid).Kids[:7]}),
		"many Kids":                 poolOf(nil, page, impl.Slot{Birth: 3, Kids: make([]impl.Ptr, 9)}),
		"Kids alone":                poolOf(nil, impl.Slot{Kids: make([]impl.Ptr, 1)}),
		"a Kid that is free":        poolOf(nil, page, nodeOf(3, impl.Ptr{Slot: 2, Birth: 2}), impl.Slot{}),
		"a free Kid without birth":  poolOf(nil, page, nodeOf(3, impl.Ptr{Slot: 2}), impl.Slot{}),
		"a Kid of another birth":    poolOf(nil, page, nodeOf(3, impl.Ptr{Slot: 0, Birth: 1})),
		"a Kid without birth":       poolOf(nil, page, nodeOf(3, impl.Ptr{Slot: 1}), page),
		"a Kid below all":           poolOf(nil, page, nodeOf(3, impl.Ptr{Slot: -1, Birth: 2})),
		"a Kid behind all":          poolOf(nil, page, nodeOf(3, impl.Ptr{Slot: 2, Birth: 2})),
		"a Kid far away":            poolOf(nil, page, nodeOf(3, impl.Ptr{Slot: math.MaxInt64, Birth: 2})),
		"a wrong last Kid":          poolOf(nil, page, last),
		"a Kid that is younger":     poolOf(nil, page, nodeOf(1, kid)),
		"a wrong one behind a node": poolOf(nil, nodeOf(3, impl.Ptr{Slot: 1, Birth: 2}), pageOf(2, "x")),
		"a free one that is held":   poolOf([]int64{1}, page, impl.Slot{}),
		"held twice":                poolOf([]int64{0, 0}, page, page),
		"held twice, later":         poolOf([]int64{1, 0, 1}, page, page, page),
		"held below all":            poolOf([]int64{-1}, page),
		"held behind all":           poolOf([]int64{1}, page),
		"held far away":             poolOf([]int64{math.MaxInt64}, page),
		"held without a slot":       poolOf([]int64{0}),
		"too many held":             poolOf(make([]int64, impl.MaxList+1), page),
	}
}

func TestPoolRight(t *testing.T) {
	for what, p := range rightPools() {
		if !impl.PoolRight(p) {
			t.Errorf("%s: is right", what)
		}
	}
	for what, p := range wrongPools() {
		if impl.PoolRight(p) {
			t.Errorf("%s: is not right", what)
		}
	}
}

// A wrong pool is refused whatever else is asked, and handed back by PoolSync alone.
func TestWrongPools(t *testing.T) {
	for what, p := range wrongPools() {
		was := copyOf(p)
		same(t, what+": at", impl.PoolAt(p, impl.Ptr{Slot: 0, Birth: 2}), impl.Slot{})
		same(t, what+": room", impl.PoolRoom(p), 0)
		same(t, what+": take", impl.PoolTake(p, pageOf(3, pageA)), impl.PoolOut{Code: impl.ErrForm})
		same(t, what+": hold", impl.PoolHold(p, impl.Ptr{Slot: 0, Birth: 2}), impl.PoolOut{Code: impl.ErrForm})
		same(t, what+": hold none", impl.PoolHold(p, impl.Ptr{}), impl.PoolOut{Code: impl.ErrForm})
		out := impl.PoolSync(p)
		same(t, what+": sync", out, was)
		spoil(out)
		same(t, what+": it stays", p, was)
	}
}

func TestPoolAt(t *testing.T) {
	page, node := pageOf(2, pageA), nodeOf(3, impl.Ptr{Slot: 0, Birth: 2})
	p := poolOf([]int64{0}, page, node, impl.Slot{}, pageOf(5, pageB))
	same(t, "a page, held", impl.PoolAt(p, impl.Ptr{Slot: 0, Birth: 2}), page)
	same(t, "a node", impl.PoolAt(p, impl.Ptr{Slot: 1, Birth: 3}), node)
	same(t, "the last one", impl.PoolAt(p, impl.Ptr{Slot: 3, Birth: 5}), pageOf(5, pageB))
	wrong := []impl.Ptr{{}, {Slot: 0, Birth: 3}, {Slot: 0, Birth: -2}, {Slot: 1, Birth: 2}, {Slot: 1}, {Slot: 2}, {Slot: 2, Birth: 1},
		{Slot: 4, Birth: 2}, {Slot: -1, Birth: 2}, {Slot: math.MinInt64, Birth: 2}, {Slot: math.MaxInt64, Birth: 5}}
	for _, x := range wrong {
		same(t, fmt.Sprint("no Ptr there: ", x), impl.PoolAt(p, x), impl.Slot{})
	}
	got := impl.PoolAt(p, impl.Ptr{Slot: 1, Birth: 3})
	got.Kids[0] = impl.Ptr{}
	same(t, "it stays", p.Slots[1].Kids[0], impl.Ptr{Slot: 0, Birth: 2})
}

func TestPoolRoom(t *testing.T) {
	page := pageOf(2, pageA)
	same(t, "of none", impl.PoolRoom(impl.Pool{}), 0)
	same(t, "of full ones", impl.PoolRoom(poolOf(nil, page, page)), 0)
	same(t, "what is held is not free", impl.PoolRoom(poolOf([]int64{1}, impl.Slot{}, page, page, impl.Slot{}, impl.Slot{})), 3)
}

func TestPoolTake(t *testing.T) {
	p := poolOf([]int64{2}, pageOf(2, pageA), impl.Slot{}, pageOf(4, pageB), impl.Slot{})
	x := impl.PoolTake(p, pageOf(9, pageB))
	same(t, "a page", x, impl.PoolOut{Pool: poolOf([]int64{2}, p.Slots[0], pageOf(9, pageB), p.Slots[2], impl.Slot{}), Ptr: impl.Ptr{Slot: 1, Birth: 9}})
	node := nodeOf(9, impl.Ptr{Slot: 0, Birth: 2}, impl.Ptr{}, x.Ptr, impl.Ptr{Slot: 2, Birth: 4})
	y := impl.PoolTake(x.Pool, node)
	same(t, "a node", y, impl.PoolOut{Pool: poolOf([]int64{2}, p.Slots[0], pageOf(9, pageB), p.Slots[2], node), Ptr: impl.Ptr{Slot: 3, Birth: 9}})
	same(t, "no room", impl.PoolTake(y.Pool, node), impl.PoolOut{Code: impl.ErrFull})
	same(t, "no slots", impl.PoolTake(impl.Pool{}, pageOf(1, pageA)), impl.PoolOut{Code: impl.ErrFull})
	same(t, "the form is asked ahead of the room", impl.PoolTake(y.Pool, impl.Slot{}), impl.PoolOut{Code: impl.ErrForm})
	same(t, "a node without Kids", impl.PoolTake(impl.PoolNew(1), nodeOf(1)).Pool, poolOf(nil, nodeOf(1)))
	same(t, "the last time", impl.PoolTake(impl.PoolNew(1), pageOf(impl.MaxTime, pageA)).Ptr, impl.Ptr{Birth: impl.MaxTime})
}

func TestPoolTakeRefuses(t *testing.T) {
	p := poolOf(nil, pageOf(2, pageA), impl.Slot{}, pageOf(4, pageB), impl.Slot{})
	wrong := map[string]impl.Slot{
		"a free one":             {},
		"a free one, empty list": {Kids: []impl.Ptr{}},
		"no birth":               pageOf(0, pageA),
		"a birth below 0":        pageOf(-3, pageA),
		"a birth behind all":     pageOf(impl.MaxTime+1, pageA),
		"neither":                {Birth: 3},
		"both":                   {Birth: 3, Data: pageA, Kids: nodeOf(3).Kids},
		"a short page":           pageOf(3, "x"),
		"a long page":            pageOf(3, strings.Repeat("x", impl.MaxBytes+1)),
		"few Kids":               {Birth: 5, Kids: []impl.Ptr{{Slot: 0, Birth: 2}}},
		"many Kids":              {Birth: 5, Kids: make([]impl.Ptr, impl.MaxList+1)},
		"a free Kid":             nodeOf(5, impl.Ptr{Slot: 1, Birth: 5}),
		"a free Kid, no birth":   nodeOf(5, impl.Ptr{Slot: 1}),
		"a Kid of no slot":       nodeOf(5, impl.Ptr{Slot: 4, Birth: 2}),
		"a Kid below all":        nodeOf(5, impl.Ptr{Slot: -1, Birth: 2}),
		"a Kid of another birth": nodeOf(5, impl.Ptr{Slot: 0, Birth: 1}),
		"a younger Kid":          nodeOf(3, impl.Ptr{Slot: 0, Birth: 2}, impl.Ptr{Slot: 2, Birth: 4}),
	}
	for what, s := range wrong {
		same(t, what, impl.PoolTake(p, s), impl.PoolOut{Code: impl.ErrForm})
	}
	same(t, "a Kid as old as it", impl.PoolTake(p, nodeOf(4, impl.Ptr{Slot: 2, Birth: 4})).Code, impl.OK)
}

func TestPoolHold(t *testing.T) {
	p := poolOf([]int64{2}, pageOf(2, pageA), impl.Slot{}, pageOf(4, pageB), nodeOf(5, impl.Ptr{Slot: 0, Birth: 2}))
	same(t, "behind the others", impl.PoolHold(p, impl.Ptr{Slot: 0, Birth: 2}), impl.PoolOut{Pool: poolOf([]int64{2, 0}, p.Slots...)})
	same(t, "a node", impl.PoolHold(p, impl.Ptr{Slot: 3, Birth: 5}), impl.PoolOut{Pool: poolOf([]int64{2, 3}, p.Slots...)})
	wrong := []impl.Ptr{{}, {Slot: 1}, {Slot: 1, Birth: 1}, {Slot: 2, Birth: 4}, {Slot: 0, Birth: 1}, {Slot: 4, Birth: 2}, {Slot: -1, Birth: 2}, {Slot: math.MaxInt64, Birth: 2}}
	for _, x := range wrong {
		same(t, fmt.Sprint("no Ptr, or held: ", x), impl.PoolHold(p, x), impl.PoolOut{Code: impl.ErrNone})
	}
	same(t, "none, of a free slot 0", impl.PoolHold(impl.PoolNew(1), impl.Ptr{}), impl.PoolOut{Code: impl.ErrNone})
}

func TestPoolSync(t *testing.T) {
	page, kid := pageOf(2, pageA), impl.Ptr{Slot: 0, Birth: 2}
	same(t, "of nothing", impl.PoolSync(impl.Pool{}), impl.Pool{})
	same(t, "nothing held", impl.PoolSync(poolOf(nil, page, impl.Slot{})), poolOf(nil, page, impl.Slot{}))
	same(t, "pages", impl.PoolSync(poolOf([]int64{2, 0}, page, pageOf(3, pageB), page)), poolOf(nil, impl.Slot{}, pageOf(3, pageB), impl.Slot{}))
	same(t, "a node, its Kid stays", impl.PoolSync(poolOf([]int64{1}, page, nodeOf(3, kid))), poolOf(nil, page, impl.Slot{}))
	same(t, "a node and its Kid", impl.PoolSync(poolOf([]int64{0, 1}, page, nodeOf(3, kid))), poolOf(nil, impl.Slot{}, impl.Slot{}))
	same(t, "a node of itself", impl.PoolSync(poolOf([]int64{0}, nodeOf(2, kid))), poolOf(nil, impl.Slot{}))
	same(t, "slot 0 is no Kid that is none", impl.PoolSync(poolOf([]int64{0}, page, nodeOf(3))), poolOf(nil, impl.Slot{}, nodeOf(3)))
	last := nodeOf(3)
	last.Kids[impl.Fan-1] = kid
	for what, p := range map[string]impl.Pool{
		"its Kid alone":         poolOf([]int64{0}, page, nodeOf(3, kid)),
		"its last Kid":          poolOf([]int64{0}, page, last),
		"another node has it":   poolOf([]int64{0, 1}, page, nodeOf(3, kid), nodeOf(3, impl.Ptr{}, kid)),
		"a node that has nodes": poolOf([]int64{2, 1}, page, nodeOf(3, kid), page, nodeOf(3, impl.Ptr{Slot: 1, Birth: 3})),
	} {
		was := copyOf(p)
		out := impl.PoolSync(p)
		same(t, what+": as it is", out, was)
		spoil(out)
		same(t, what+": it stays", p, was)
	}
}

// answersOf are the pools that each call makes of a pool like roomy.
func answersOf(p impl.Pool, node impl.Slot) map[string]impl.Pool {
	return map[string]impl.Pool{
		"take a page": impl.PoolTake(p, pageOf(7, pageB)).Pool,
		"take a node": impl.PoolTake(p, node).Pool,
		"hold":        impl.PoolHold(p, impl.Ptr{Slot: 1, Birth: 3}).Pool,
		"sync":        impl.PoolSync(p),
	}
}

func TestAnswersAreNewMemory(t *testing.T) {
	want := answersOf(roomy(), nodeOf(8, impl.Ptr{Slot: 0, Birth: 2}))
	for what := range want {
		p, node := roomy(), nodeOf(8, impl.Ptr{Slot: 0, Birth: 2})
		behind := p.Held[:cap(p.Held)]
		got := answersOf(p, node)[what]
		same(t, what+": nothing behind the list is written over", behind, append([]int64{2}, make([]int64, 9)...))
		same(t, what+": what is handed in is not changed", p, roomy())
		spoil(p)
		node.Kids[0] = impl.Ptr{}
		same(t, what+": the answer stays", got, want[what])
		p = roomy()
		spoil(answersOf(p, nodeOf(8))[what])
		same(t, what+": the argument stays", p, roomy())
	}
	for what, p := range want {
		kids := p.Slots[1].Kids
		for i := range kids {
			kids[i] = impl.Ptr{Slot: -7, Birth: -7}
		}
		for i, s := range p.Slots {
			if i != 1 && slices.Contains(s.Kids, impl.Ptr{Slot: -7, Birth: -7}) {
				t.Errorf("%s: the slots 1 and %d share their Kids", what, i)
			}
		}
	}
}

// walk keeps beside a pool what must be in it, and does at random what may be done.
type walk struct {
	t    *testing.T
	seed uint64
	pool impl.Pool
	in   map[impl.Ptr]string
	held []int64
	time int64
}

func (w *walk) pick(n int) int {
	w.seed = w.seed*6364136223846793005 + 1442695040888963407
	return int(w.seed>>33) % n
}

func (w *walk) ptrs() []impl.Ptr {
	var out []impl.Ptr
	for i, s := range w.pool.Slots {
		if s.Birth != 0 {
			out = append(out, impl.Ptr{Slot: int64(i), Birth: s.Birth})
		}
	}
	return out
}

func (w *walk) firstFree() int64 {
	taken := map[int64]bool{}
	for x := range w.in {
		taken[x.Slot] = true
	}
	for i := range int64(len(w.pool.Slots)) {
		if !taken[i] {
			return i
		}
	}
	return -1
}

func (w *walk) take() {
	s := pageOf(w.time, fmt.Sprintf("%016d", w.pick(1000)))
	if all := w.ptrs(); w.pick(3) == 0 && len(all) > 0 {
		s = nodeOf(w.time, all[w.pick(len(all))], impl.Ptr{}, all[w.pick(len(all))])
	}
	want, was := w.firstFree(), copyOf(w.pool)
	out := impl.PoolTake(w.pool, s)
	same(w.t, "what is handed in", w.pool, was)
	if want < 0 {
		same(w.t, "full", out, impl.PoolOut{Code: impl.ErrFull})
		return
	}
	same(w.t, "where it is told", []any{out.Ptr, out.Code}, []any{impl.Ptr{Slot: want, Birth: w.time}, 0})
	w.pool = out.Pool
	w.in[out.Ptr] = fmt.Sprintf("%+v", s)
	w.time++
}

func (w *walk) hold() {
	all := w.ptrs()
	if len(all) == 0 {
		return
	}
	x := all[w.pick(len(all))]
	out := impl.PoolHold(w.pool, x)
	if slices.Contains(w.held, x.Slot) {
		same(w.t, "held twice", out, impl.PoolOut{Code: impl.ErrNone})
		return
	}
	w.held = append(w.held, x.Slot)
	same(w.t, "held", []any{out.Pool.Held, out.Ptr, out.Code}, []any{w.held, impl.Ptr{}, 0})
	w.pool = out.Pool
}

func (w *walk) sync() {
	for i, s := range w.pool.Slots {
		for _, kid := range s.Kids {
			if kid.Birth > 0 && slices.Contains(w.held, kid.Slot) && !slices.Contains(w.held, int64(i)) {
				same(w.t, "as it is", impl.PoolSync(w.pool), w.pool)
				return
			}
		}
	}
	for x := range w.in {
		if slices.Contains(w.held, x.Slot) {
			delete(w.in, x)
		}
	}
	w.held = nil
	w.pool = impl.PoolSync(w.pool)
}

func (w *walk) check() {
	if !impl.PoolRight(w.pool) {
		w.t.Fatalf("not right: %+v", w.pool)
	}
	same(w.t, "the slots that are not free", len(w.ptrs()), len(w.in))
	same(w.t, "room", impl.PoolRoom(w.pool), len(w.pool.Slots)-len(w.in))
	same(w.t, "held", w.pool.Held, w.held)
	for x, s := range w.in {
		same(w.t, "it is there", fmt.Sprintf("%+v", impl.PoolAt(w.pool, x)), s)
	}
}

// Promise 1: what is taken is where it is told; what is held is there till the pool is synced.
func TestPromise1(t *testing.T) {
	for seed := range uint64(20) {
		w := &walk{t: t, seed: seed, pool: impl.PoolNew(int64(seed) * 2), in: map[impl.Ptr]string{}, time: 1}
		for range 200 {
			switch w.pick(8) {
			case 0:
				w.sync()
			case 1, 2:
				w.hold()
			default:
				w.take()
			}
			w.check()
			if t.Failed() {
				t.Fatalf("of the seed %d", seed)
			}
		}
	}
}

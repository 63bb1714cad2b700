package tests

import (
	"fmt"
	"maps"
	"math"
	"slices"
	"strings"
	"testing"

	"loop.example/g00381/impl"
)

var blank = strings.Repeat("\x00", impl.PageSize)

func at(slot int64, birth int64) impl.Ptr {
	return impl.Ptr{Slot: slot, Birth: birth}
}

// smallTree has, below the root in slot 2, the pages 9 and 10, and behind it in the pool that many free slots.
func smallTree(room int) (impl.Pool, impl.Ptr) {
	slots := []impl.Slot{pageOf(1, pageA), nodeOf(2, impl.Ptr{}, at(0, 1), at(3, 2)), nodeOf(4, impl.Ptr{}, at(1, 2)), pageOf(2, pageB)}
	return poolOf(nil, append(slots, make([]impl.Slot, room)...)...), at(2, 4)
}

// wideTree has a page in every place: the root is in slot 0, then come the nodes, and then the pages.
func wideTree(room int) (impl.Pool, impl.Ptr) {
	var nodes, pages []impl.Slot
	root := nodeOf(3)
	for i := range int64(impl.Fan) {
		root.Kids[i] = at(1+i, 2)
		node := nodeOf(2)
		for k := range int64(impl.Fan) {
			node.Kids[k] = at(9+i*impl.Fan+k, 1)
			pages = append(pages, pageOf(1, fmt.Sprintf("%016d", i*impl.Fan+k)))
		}
		nodes = append(nodes, node)
	}
	slots := append(append([]impl.Slot{root}, nodes...), pages...)
	return poolOf(nil, append(slots, make([]impl.Slot, room)...)...), at(0, 3)
}

type rooted struct {
	pool impl.Pool
	root impl.Ptr
}

func rightTrees() map[string]rooted {
	page, node, root := pageOf(2, pageA), nodeOf(2, at(0, 2)), nodeOf(2, at(1, 2))
	small, smallRoot := smallTree(0)
	wide, wideRoot := wideTree(0)
	last := nodeOf(2)
	last.Kids[impl.Fan-1] = at(1, 2)
	return map[string]rooted{
		"none of nothing":          {},
		"none of free slots":       {pool: impl.PoolNew(5)},
		"none beside a tree":       {pool: poolOf(nil, page, node, root)},
		"none beside held slots":   {pool: poolOf([]int64{0, 1, 2}, page, node, root)},
		"one page":                 {poolOf(nil, page, node, root), at(2, 2)},
		"the last Kid":             {poolOf(nil, page, node, last), at(2, 2)},
		"another one is held":      {poolOf([]int64{3}, page, node, root, page), at(2, 2)},
		"a held root has its node": {poolOf([]int64{3}, page, node, root, root), at(2, 2)},
		"another root has them":    {poolOf(nil, page, node, root, nodeOf(2, at(1, 2), at(1, 2))), at(2, 2)},
		"a small one":              {small, smallRoot},
		"a page in every place":    {wide, wideRoot},
	}
}

func wrongTrees() map[string]rooted {
	page, node, root := pageOf(2, pageA), nodeOf(2, at(0, 2)), nodeOf(2, at(1, 2))
	x := at(2, 2)
	out := map[string]rooted{
		"no slot":                {poolOf(nil, page, node, root), at(3, 2)},
		"below all":              {poolOf(nil, page, node, root), at(-1, 2)},
		"far away":               {poolOf(nil, page, node, root), at(math.MaxInt64, 2)},
		"another birth":          {poolOf(nil, page, node, root), at(2, 3)},
		"no birth":               {poolOf(nil, page, node, root), at(2, 0)},
		"a free slot":            {poolOf(nil, impl.Slot{}), at(0, 1)},
		"a page":                 {poolOf(nil, page), at(0, 2)},
		"a root without Kids":    {poolOf(nil, nodeOf(2)), at(0, 2)},
		"a node alone":           {poolOf(nil, page, node), at(1, 2)},
		"a node without pages":   {poolOf(nil, page, nodeOf(2), root), x},
		"an empty node, too":     {poolOf(nil, page, node, nodeOf(2, at(1, 2), at(3, 2)), nodeOf(2)), x},
		"a page below the root":  {poolOf(nil, page, node, nodeOf(2, at(1, 2), at(3, 2)), page), x},
		"a node below a node":    {poolOf(nil, page, node, root, nodeOf(2, at(2, 2))), at(3, 2)},
		"a node beside a page":   {poolOf(nil, page, nodeOf(2, at(0, 2), at(3, 2)), root, nodeOf(2)), x},
		"itself":                 {poolOf(nil, nodeOf(2, at(0, 2))), at(0, 2)},
		"itself beside a node":   {poolOf(nil, page, node, nodeOf(2, at(1, 2), at(2, 2))), x},
		"a node of itself":       {poolOf(nil, page, nodeOf(2, at(0, 2), at(1, 2)), root), x},
		"the root is held":       {poolOf([]int64{2}, page, node, root), x},
		"a node is held":         {poolOf([]int64{1}, page, node, root), x},
		"a page is held":         {poolOf([]int64{0}, page, node, root), x},
		"a page twice in a node": {poolOf(nil, page, nodeOf(2, at(0, 2), impl.Ptr{}, at(0, 2)), root), x},
		"a page in two nodes":    {poolOf(nil, page, node, nodeOf(2, at(1, 2), at(3, 2)), nodeOf(2, impl.Ptr{}, at(0, 2))), x},
		"a node twice":           {poolOf(nil, page, node, nodeOf(2, at(1, 2), impl.Ptr{}, at(1, 2))), x},
	}
	for what, p := range wrongPools() {
		out["none: "+what] = rooted{pool: p}
	}
	bad := poolOf(nil, page, node, root, pageOf(2, "x"))
	out["a wrong slot elsewhere"] = rooted{bad, x}
	return out
}

func TestTreeRight(t *testing.T) {
	for what, r := range rightTrees() {
		if !impl.TreeRight(r.pool, r.root) {
			t.Errorf("%s: is a tree", what)
		}
	}
	for what, r := range wrongTrees() {
		if impl.TreeRight(r.pool, r.root) {
			t.Errorf("%s: is no tree", what)
		}
	}
}

// What is no tree is refused whatever else is asked; but a text that is too long is looked for ahead of all.
func TestWrongTrees(t *testing.T) {
	refused := impl.TreeOut{Code: impl.ErrForm}
	for what, r := range wrongTrees() {
		was := copyOf(r.pool)
		same(t, what+": read", impl.TreeRead(r.pool, r.root, 0), "")
		same(t, what+": ptrs", impl.TreePtrs(r.pool, r.root), []impl.Ptr{})
		same(t, what+": write", impl.TreeWrite(r.pool, r.root, 0, pageA, impl.MaxTime), refused)
		same(t, what+": write a short page", impl.TreeWrite(r.pool, r.root, 64, "x", impl.MaxTime), refused)
		same(t, what+": write too much", impl.TreeWrite(r.pool, r.root, 0, strings.Repeat("x", impl.MaxBytes+1), 9), impl.TreeOut{Code: impl.ErrSize})
		same(t, what+": trim", impl.TreeTrim(r.pool, r.root, 0, impl.MaxTime), refused)
		same(t, what+": trim no page", impl.TreeTrim(r.pool, r.root, -1, impl.MaxTime), refused)
		same(t, what+": it stays", r.pool, was)
	}
}

func TestTreeRead(t *testing.T) {
	p, root := smallTree(0)
	for n := range int64(impl.MaxPages) {
		want := blank
		switch n {
		case 9:
			want = pageA
		case 10:
			want = pageB
		}
		same(t, fmt.Sprint("the page ", n), impl.TreeRead(p, root, n), want)
		same(t, fmt.Sprint("of none, the page ", n), impl.TreeRead(p, impl.Ptr{}, n), blank)
	}
	p, root = wideTree(0)
	for n := range int64(impl.MaxPages) {
		same(t, "its own", impl.TreeRead(p, root, n), fmt.Sprintf("%016d", n))
	}
	for _, n := range []int64{-1, impl.MaxPages, math.MinInt64, math.MaxInt64} {
		same(t, "no page's number", impl.TreeRead(p, root, n), "")
		same(t, "no page's number, of none", impl.TreeRead(p, impl.Ptr{}, n), "")
	}
}

func TestTreePtrs(t *testing.T) {
	same(t, "of none", impl.TreePtrs(impl.PoolNew(3), impl.Ptr{}), []impl.Ptr{})
	p, root := smallTree(2)
	same(t, "a small one", impl.TreePtrs(p, root), []impl.Ptr{at(2, 4), at(1, 2), at(0, 1), at(3, 2)})
	wide, wideRoot := wideTree(0)
	want := []impl.Ptr{at(0, 3)}
	for i := range int64(impl.Fan) {
		want = append(want, at(1+i, 2))
		for k := range int64(impl.Fan) {
			want = append(want, at(9+i*impl.Fan+k, 1))
		}
	}
	same(t, "a wide one", impl.TreePtrs(wide, wideRoot), want)
}

func TestTreeWrite(t *testing.T) {
	first := impl.TreeWrite(poolOf([]int64{1}, impl.Slot{}, pageOf(9, pageB), impl.Slot{}, impl.Slot{}), impl.Ptr{}, 63, pageA, 5)
	node, root := nodeOf(5), nodeOf(5)
	node.Kids[impl.Fan-1], root.Kids[impl.Fan-1] = at(0, 5), at(2, 5)
	same(t, "into none", first, impl.TreeOut{Pool: poolOf([]int64{1}, pageOf(5, pageA), pageOf(9, pageB), node, root), Root: at(3, 5)})

	p, x := smallTree(4)
	over := impl.TreeWrite(p, x, 9, pageB, 4)
	same(t, "over a page", over, impl.TreeOut{
		Pool: poolOf(nil, p.Slots[0], p.Slots[1], p.Slots[2], p.Slots[3],
			pageOf(4, pageB), nodeOf(4, impl.Ptr{}, at(4, 4), at(3, 2)), nodeOf(4, impl.Ptr{}, at(5, 4)), impl.Slot{}),
		Root: at(6, 4),
		Old:  []impl.Ptr{at(0, 1), at(1, 2), at(2, 4)},
	})
	beside := impl.TreeWrite(p, x, 8, pageB, 7)
	same(t, "beside a page", beside, impl.TreeOut{
		Pool: poolOf(nil, p.Slots[0], p.Slots[1], p.Slots[2], p.Slots[3],
			pageOf(7, pageB), nodeOf(7, at(4, 7), at(0, 1), at(3, 2)), nodeOf(7, impl.Ptr{}, at(5, 7)), impl.Slot{}),
		Root: at(6, 7),
		Old:  []impl.Ptr{at(1, 2), at(2, 4)},
	})
	away := impl.TreeWrite(p, x, 2, blank, impl.MaxTime)
	same(t, "in a node of its own", away, impl.TreeOut{
		Pool: poolOf(nil, p.Slots[0], p.Slots[1], p.Slots[2], p.Slots[3], pageOf(impl.MaxTime, blank),
			nodeOf(impl.MaxTime, impl.Ptr{}, impl.Ptr{}, at(4, impl.MaxTime)), nodeOf(impl.MaxTime, at(5, impl.MaxTime), at(1, 2)), impl.Slot{}),
		Root: at(6, impl.MaxTime),
		Old:  []impl.Ptr{at(2, 4)},
	})
	same(t, "what is the same is written anew, too", impl.TreeWrite(p, x, 9, pageA, 4).Old, []impl.Ptr{at(0, 1), at(1, 2), at(2, 4)})
}

func TestTreeWriteRefuses(t *testing.T) {
	p, x := smallTree(2)
	long := strings.Repeat("x", impl.MaxBytes+1)
	for _, c := range []struct {
		what  string
		page  int64
		data  string
		birth int64
		code  int64
	}{
		{"a text that is too long", 9, long, 4, impl.ErrSize},
		{"that, and all else", -1, long, 0, impl.ErrSize},
		{"older than the root", 9, pageA, 3, impl.ErrForm},
		{"no birth", 9, pageA, 0, impl.ErrForm},
		{"below all times", 9, pageA, -4, impl.ErrForm},
		{"behind all times", 9, pageA, impl.MaxTime + 1, impl.ErrForm},
		{"a wrong birth, no page", 64, "x", 3, impl.ErrForm},
		{"no page's number", 64, pageA, 4, impl.ErrRange},
		{"below all pages", -1, pageA, 4, impl.ErrRange},
		{"far away", math.MaxInt64, pageA, 4, impl.ErrRange},
		{"far below", math.MinInt64, pageA, 4, impl.ErrRange},
		{"a short page", 9, pageA[1:], 4, impl.ErrRange},
		{"a long page", 9, pageA + "x", 4, impl.ErrRange},
		{"an empty page", 9, "", 4, impl.ErrRange},
		{"as long as a text may be", 9, long[1:], 4, impl.ErrRange},
		{"two are free", 9, pageA, 4, impl.ErrFull},
	} {
		same(t, c.what, impl.TreeWrite(p, x, c.page, c.data, c.birth), impl.TreeOut{Code: c.code})
	}
	for room := range 6 {
		want := int64(impl.ErrFull)
		if room >= 3 {
			want = impl.OK
		}
		q, y := smallTree(room)
		for _, page := range []int64{0, 8, 9} {
			same(t, fmt.Sprint(room, " are free"), impl.TreeWrite(q, y, page, pageA, 4).Code, want)
		}
		same(t, fmt.Sprint(room, " are free, of none"), impl.TreeWrite(impl.PoolNew(int64(room)), impl.Ptr{}, 1, pageA, 1).Code, want)
	}
	same(t, "no birth, into none", impl.TreeWrite(impl.PoolNew(3), impl.Ptr{}, 1, pageA, 0), impl.TreeOut{Code: impl.ErrForm})
	full := poolOf([]int64{0, 1}, pageOf(1, pageA), pageOf(1, pageA), impl.Slot{}, impl.Slot{})
	same(t, "what is held is not free", impl.TreeWrite(full, impl.Ptr{}, 1, pageA, 1), impl.TreeOut{Code: impl.ErrFull})
}

func TestTreeTrim(t *testing.T) {
	p, x := smallTree(3)
	one := impl.TreeTrim(p, x, 9, 4)
	same(t, "a page of two", one, impl.TreeOut{
		Pool: poolOf(nil, p.Slots[0], p.Slots[1], p.Slots[2], p.Slots[3],
			nodeOf(4, impl.Ptr{}, impl.Ptr{}, at(3, 2)), nodeOf(4, impl.Ptr{}, at(4, 4)), impl.Slot{}),
		Root: at(5, 4),
		Old:  []impl.Ptr{at(0, 1), at(1, 2), at(2, 4)},
	})
	same(t, "the last page", impl.TreeTrim(one.Pool, one.Root, 10, impl.MaxTime), impl.TreeOut{
		Pool: one.Pool,
		Old:  []impl.Ptr{at(3, 2), at(4, 4), at(5, 4)},
	})
	slots := []impl.Slot{pageOf(1, pageA), nodeOf(2, at(0, 1)), pageOf(3, pageB), nodeOf(3, impl.Ptr{}, at(2, 3)), nodeOf(4, at(1, 2), at(3, 3)), {}}
	same(t, "the last page of a node", impl.TreeTrim(poolOf(nil, slots...), at(4, 4), 9, 8), impl.TreeOut{
		Pool: poolOf(nil, append(slices.Clone(slots[:5]), nodeOf(8, at(1, 2)))...),
		Root: at(5, 8),
		Old:  []impl.Ptr{at(2, 3), at(3, 3), at(4, 4)},
	})
	same(t, "that one has no room", impl.TreeTrim(poolOf(nil, slots[:5]...), at(4, 4), 9, 8), impl.TreeOut{Code: impl.ErrFull})
	for room, want := range []int64{impl.ErrFull, impl.ErrFull, impl.OK, impl.OK} {
		q, y := smallTree(room)
		out := impl.TreeTrim(q, y, 10, 4)
		same(t, fmt.Sprint(room, " are free"), out.Code, want)
		if want != impl.OK {
			same(t, "no room", out, impl.TreeOut{Code: want})
		}
	}
	alone := poolOf(nil, pageOf(2, pageA), nodeOf(2, at(0, 2)), nodeOf(2, at(1, 2)))
	same(t, "the last page needs no room", impl.TreeTrim(alone, at(2, 2), 0, 2), impl.TreeOut{Pool: alone, Old: []impl.Ptr{at(0, 2), at(1, 2), at(2, 2)}})
	zeros := impl.TreeWrite(impl.PoolNew(3), impl.Ptr{}, 7, blank, 1)
	same(t, "a page of bytes 0 is one", impl.TreeTrim(zeros.Pool, zeros.Root, 7, 1).Code, impl.OK)
}

func TestTreeTrimRefuses(t *testing.T) {
	p, x := smallTree(0)
	for _, c := range []struct {
		what  string
		page  int64
		birth int64
		code  int64
	}{
		{"older than the root", 9, 3, impl.ErrForm},
		{"no birth", 9, 0, impl.ErrForm},
		{"below all times", 9, -1, impl.ErrForm},
		{"behind all times", 9, impl.MaxTime + 1, impl.ErrForm},
		{"a wrong birth, no page", 64, 3, impl.ErrForm},
		{"no page's number", 64, 4, impl.ErrRange},
		{"below all pages", -1, 4, impl.ErrRange},
		{"far away", math.MaxInt64, 4, impl.ErrRange},
		{"far below", math.MinInt64, 4, impl.ErrRange},
		{"no such page", 8, 4, impl.ErrNone},
		{"no such node", 0, 4, impl.ErrNone},
		{"no such node, the last page", 63, 4, impl.ErrNone},
		{"no room", 9, 4, impl.ErrFull},
	} {
		same(t, c.what, impl.TreeTrim(p, x, c.page, c.birth), impl.TreeOut{Code: c.code})
	}
	same(t, "of none", impl.TreeTrim(p, impl.Ptr{}, 9, 1), impl.TreeOut{Code: impl.ErrNone})
	same(t, "of none, no birth", impl.TreeTrim(p, impl.Ptr{}, 9, 0), impl.TreeOut{Code: impl.ErrForm})
}

// spareTree is a small tree whose lists have room behind them, and beside it a held node with Kids of the tree.
func spareTree() (impl.Pool, impl.Ptr) {
	p, root := smallTree(0)
	slots := make([]impl.Slot, 0, 20)
	for _, s := range append(p.Slots, nodeOf(4, at(1, 2)), impl.Slot{}, impl.Slot{}, impl.Slot{}) {
		if len(s.Kids) > 0 {
			s.Kids = append(make([]impl.Ptr, 0, 2*impl.Fan), s.Kids...)
		}
		slots = append(slots, s)
	}
	return impl.Pool{Slots: slots, Held: append(make([]int64, 0, 10), 4)}, root
}

// treeAnswers are what each call that makes a pool answers of spareTree, or of a tree of one page.
func treeAnswers(p impl.Pool, root impl.Ptr) map[string]impl.TreeOut {
	out := map[string]impl.TreeOut{
		"write": impl.TreeWrite(p, root, 9, pageB, 4),
		"trim":  impl.TreeTrim(p, root, 9, 4),
		"last":  impl.TreeTrim(p, root, 0, 4),
	}
	maps.DeleteFunc(out, func(_ string, o impl.TreeOut) bool { return o.Code != impl.OK })
	return out
}

func onePage() (impl.Pool, impl.Ptr) {
	return poolOf([]int64{3}, pageOf(2, pageA), nodeOf(2, at(0, 2)), nodeOf(2, at(1, 2)), pageOf(2, pageB)), at(2, 2)
}

func TestTreeAnswersAreNewMemory(t *testing.T) {
	for _, made := range []func() (impl.Pool, impl.Ptr){spareTree, onePage} {
		p, root := made()
		want := treeAnswers(p, root)
		if len(want) == 0 {
			t.Error("nothing is answered")
		}
		was, _ := made()
		same(t, "what is handed in is not changed", p, was)
		for what := range want {
			p, _ = made()
			got := treeAnswers(p, root)[what]
			spoil(p)
			same(t, what+": the answer stays", got, want[what])
			p, _ = made()
			spoil(treeAnswers(p, root)[what].Pool)
			same(t, what+": the argument stays", p, was)
			kidsApart(t, what, treeAnswers(p, root)[what].Pool)
		}
	}
	p, root := smallTree(0)
	ptrs := impl.TreePtrs(p, root)
	clear(ptrs[:cap(ptrs)])
	was, _ := smallTree(0)
	same(t, "ptrs: the argument stays", p, was)
}

// kidsApart writes over each slot's Kids, one by one, and looks whether another one's have changed.
func kidsApart(t *testing.T, what string, p impl.Pool) {
	t.Helper()
	for i, s := range p.Slots {
		for k := range s.Kids {
			s.Kids[k] = at(-7, int64(-i))
		}
	}
	for i, s := range p.Slots {
		for _, kid := range s.Kids {
			same(t, what+": no two slots share their Kids", kid, at(-7, int64(-i)))
		}
	}
}

// treeWalk keeps beside a tree the pages that must be in it, and what is in it no more.
type treeWalk struct {
	walk
	root    impl.Ptr
	pages   map[int64]string
	dropped []impl.Ptr
}

// without is what stands in a, and not in b, sorted by the slots.
func without(a []impl.Ptr, b []impl.Ptr) []impl.Ptr {
	out := slices.DeleteFunc(slices.Clone(a), func(x impl.Ptr) bool { return slices.Contains(b, x) })
	slices.SortFunc(out, func(x, y impl.Ptr) int { return int(x.Slot - y.Slot) })
	return out
}

// needed is how many slots a trim takes.
func (w *treeWalk) needed(page int64) int64 {
	inNode := int64(0)
	for n := range w.pages {
		if n/impl.Fan == page/impl.Fan {
			inNode++
		}
	}
	switch {
	case len(w.pages) == 1:
		return 0
	case inNode == 1:
		return 1
	}
	return 2
}

// turn takes an answer, and holds what is told to be old against what is in the tree no more.
func (w *treeWalk) turn(out impl.TreeOut, page int64, taken int64) {
	before, was := impl.TreePtrs(w.pool, w.root), copyOf(w.pool)
	same(w.t, "ok", out.Code, impl.OK)
	after := impl.TreePtrs(out.Pool, out.Root)
	same(w.t, "old", without(out.Old, nil), without(before, after))
	same(w.t, "taken", impl.PoolRoom(w.pool)-impl.PoolRoom(out.Pool), taken)
	same(w.t, "new", len(without(after, before)), taken)
	for _, x := range without(after, before) {
		same(w.t, "born", x.Birth, w.time)
	}
	same(w.t, "what stood there stays", []any{out.Pool.Held, len(out.Pool.Slots)}, []any{was.Held, len(was.Slots)})
	for i, s := range was.Slots {
		if s.Birth != 0 {
			same(w.t, "nothing is written over", out.Pool.Slots[i], s)
		}
	}
	for n := range int64(impl.MaxPages) {
		if n != page {
			same(w.t, "another page", impl.TreeRead(out.Pool, out.Root, n), impl.TreeRead(w.pool, w.root, n))
		}
		same(w.t, "the tree that was", impl.TreeRead(out.Pool, w.root, n), impl.TreeRead(w.pool, w.root, n))
	}
	w.pool, w.root, w.dropped = out.Pool, out.Root, append(w.dropped, out.Old...)
}

func (w *treeWalk) write(page int64) {
	data := fmt.Sprintf("%08d%08d", page, w.pick(1000))
	out := impl.TreeWrite(w.pool, w.root, page, data, w.time)
	if impl.PoolRoom(w.pool) < 3 {
		same(w.t, "no room", out, impl.TreeOut{Code: impl.ErrFull})
		w.free()
		return
	}
	w.pages[page] = data
	w.turn(out, page, 3)
}

func (w *treeWalk) trim(page int64) {
	out := impl.TreeTrim(w.pool, w.root, page, w.time)
	if w.pages[page] == "" {
		same(w.t, "no page", out, impl.TreeOut{Code: impl.ErrNone})
		return
	}
	if impl.PoolRoom(w.pool) < w.needed(page) {
		same(w.t, "no room", out, impl.TreeOut{Code: impl.ErrFull})
		w.free()
		return
	}
	needed := w.needed(page)
	delete(w.pages, page)
	w.turn(out, page, needed)
}

// free holds and syncs all that was told to be old: just the tree is left.
func (w *treeWalk) free() {
	for _, x := range w.dropped {
		out := impl.PoolHold(w.pool, x)
		same(w.t, "held", out.Code, impl.OK)
		w.pool = out.Pool
	}
	w.dropped = nil
	w.pool = impl.PoolSync(w.pool)
	same(w.t, "just the tree is left", impl.PoolRoom(w.pool), len(w.pool.Slots)-len(impl.TreePtrs(w.pool, w.root)))
}

func (w *treeWalk) check() {
	if !impl.TreeRight(w.pool, w.root) {
		w.t.Fatalf("no tree: %+v", w)
	}
	for n := range int64(impl.MaxPages) {
		want, ok := w.pages[n]
		if !ok {
			want = blank
		}
		same(w.t, fmt.Sprint("the page ", n), impl.TreeRead(w.pool, w.root, n), want)
	}
	same(w.t, "none, if it has no page", w.root == impl.Ptr{}, len(w.pages) == 0)
}

// Promise 2: what is written is read, all others are as ahead; what is told to be old is in the tree no more.
func TestPromise2(t *testing.T) {
	for seed := range uint64(10) {
		w := &treeWalk{walk: walk{t: t, seed: seed, pool: impl.PoolNew(int64(seed) * 20), time: 1}, pages: map[int64]string{}}
		span := []int{3, 20, impl.MaxPages}[seed%3]
		for range 120 {
			page := int64(w.pick(span))
			switch w.pick(9) {
			case 0:
				w.free()
			case 1, 2, 3:
				w.trim(page)
			default:
				w.write(page)
			}
			w.check()
			w.time += int64(w.pick(2))
			if t.Failed() {
				t.Fatalf("of the seed %d", seed)
			}
		}
	}
}

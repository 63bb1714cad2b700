package tests

import (
	"fmt"
	"slices"
	"testing"

	"loop.example/g00381/impl"
)

// book has what was put, as a shelf of copies would: it knows of no slot but how many are free.
type book struct {
	sets  map[string]*volume
	snaps map[int64]*volume
	time  int64
	next  int64
}

// volume is a set or a snapshot with all of its pages.
type volume struct {
	name   string
	set    string
	origin int64
	prev   int64
	pages  map[int64]string
}

// behind are those that have that snapshot as Prev.
func (b *book) behind(id int64) []*volume {
	var out []*volume
	for _, v := range b.sets {
		if v.prev == id {
			out = append(out, v)
		}
	}
	for _, v := range b.snaps {
		if v.prev == id {
			out = append(out, v)
		}
	}
	return out
}

func (b *book) hasSnap(set string, name string) bool {
	for _, v := range b.snaps {
		if v.set == set && (v.name == name || name == "") {
			return true
		}
	}
	return false
}

func copyPages(pages map[int64]string) map[int64]string {
	out := map[int64]string{}
	for n, data := range pages {
		out[n] = data
	}
	return out
}

func (b *book) add(name string, v *volume) int64 {
	if b.sets[name] != nil {
		return impl.ErrThere
	}
	if len(b.sets) == impl.MaxSets {
		return impl.ErrFull
	}
	b.sets[name] = v
	return impl.OK
}

func (b *book) write(name string, page int64, data string, room int64) int64 {
	v := b.sets[name]
	if v == nil {
		return impl.ErrNone
	}
	if page < 0 || page >= impl.MaxPages || len(data) != impl.PageSize {
		return impl.ErrRange
	}
	if room < 3 {
		return impl.ErrFull
	}
	v.pages[page] = data
	return impl.OK
}

func (b *book) trim(name string, page int64, room int64) int64 {
	v := b.sets[name]
	if v == nil {
		return impl.ErrNone
	}
	if page < 0 || page >= impl.MaxPages {
		return impl.ErrRange
	}
	if v.pages[page] == "" {
		return impl.ErrNone
	}
	needed := int64(0)
	if len(v.pages) > 1 {
		needed = 1
	}
	for n := range v.pages {
		if n != page && n/impl.Fan == page/impl.Fan {
			needed = 2
		}
	}
	if room < needed {
		return impl.ErrFull
	}
	delete(v.pages, page)
	return impl.OK
}

func (b *book) snap(set string, name string) int64 {
	v := b.sets[set]
	if v == nil {
		return impl.ErrNone
	}
	if b.hasSnap(set, name) {
		return impl.ErrThere
	}
	if len(b.snaps) == impl.MaxSnaps {
		return impl.ErrFull
	}
	b.snaps[b.next] = &volume{name: name, set: set, prev: v.prev, pages: copyPages(v.pages)}
	v.prev = b.next
	b.next++
	b.time++
	return impl.OK
}

func (b *book) drop(id int64) int64 {
	gone := b.snaps[id]
	if gone == nil {
		return impl.ErrNone
	}
	if len(b.behind(id)) > 1 {
		return impl.ErrState
	}
	delete(b.snaps, id)
	for _, v := range b.behind(id) {
		v.prev = gone.prev
	}
	return impl.OK
}

func (b *book) clone(id int64, name string) int64 {
	if b.snaps[id] == nil {
		return impl.ErrNone
	}
	return b.add(name, &volume{origin: id, prev: id, pages: copyPages(b.snaps[id].pages)})
}

func (b *book) destroy(name string) int64 {
	if b.sets[name] == nil {
		return impl.ErrNone
	}
	if b.hasSnap(name, "") {
		return impl.ErrState
	}
	delete(b.sets, name)
	return impl.OK
}

func (b *book) back(name string) int64 {
	v := b.sets[name]
	if v == nil || b.snaps[v.prev] == nil || b.snaps[v.prev].set != name {
		return impl.ErrNone
	}
	v.pages = copyPages(b.snaps[v.prev].pages)
	return impl.OK
}

func (b *book) promote(name string) int64 {
	v := b.sets[name]
	if v == nil {
		return impl.ErrNone
	}
	if v.origin == 0 {
		return impl.ErrState
	}
	of := b.snaps[v.origin].set
	var moved []*volume
	for x := b.snaps[v.origin]; x != nil && x.set == of; x = b.snaps[x.prev] {
		if b.hasSnap(name, x.name) {
			return impl.ErrThere
		}
		moved = append(moved, x)
	}
	for _, x := range moved {
		x.set = name
	}
	v.origin, b.sets[of].origin = b.sets[of].origin, v.origin
	return impl.OK
}

// told is all that the book tells: of each set and snapshot what is ahead of it, and its pages.
func (b *book) told() string {
	var out []string
	for key, v := range b.sets {
		out = append(out, fmt.Sprint("set ", key, v.origin, v.prev, v.pages))
	}
	for key, v := range b.snaps {
		out = append(out, fmt.Sprint("snap ", key, v.name, v.set, v.prev, v.pages))
	}
	slices.Sort(out)
	return fmt.Sprint(b.time, b.next, out)
}

func pagesThere(w impl.World, root impl.Ptr) map[int64]string {
	out := map[int64]string{}
	for n := range int64(impl.MaxPages) {
		if data := impl.TreeRead(w.Pool, root, n); data != string(make([]byte, impl.PageSize)) {
			out[n] = data
		}
	}
	return out
}

// toldOf is what a book of that world would tell.
func toldOf(w impl.World) string {
	var out []string
	for _, s := range w.Sets {
		out = append(out, fmt.Sprint("set ", s.Name, s.Origin, s.Prev, pagesThere(w, s.Root)))
	}
	for _, s := range w.Snaps {
		out = append(out, fmt.Sprint("snap ", s.Id, s.Name, s.Set, s.Prev, pagesThere(w, s.Root)))
	}
	slices.Sort(out)
	return fmt.Sprint(w.Time, w.Next, out)
}

// reader does things at random, in a world and in a book; where kept is 3, no set or snapshot is destroyed. No two
// writes have one text, so that just the pages that are the same ones read alike.
type reader struct {
	walk
	w      impl.World
	b      *book
	kept   int
	writes int
}

func readerOf(seed uint64, slots int64) *reader {
	r := &reader{w: impl.WorldNew(slots), b: &book{sets: map[string]*volume{}, snaps: map[int64]*volume{}, time: 1, next: 1}}
	r.seed = seed
	return r
}

func (r *reader) name() string {
	return string(rune('a' + r.pick(9)))
}

func (r *reader) id() int64 {
	if len(r.w.Snaps) > 0 && r.pick(9) > 0 {
		return r.w.Snaps[r.pick(len(r.w.Snaps))].Id
	}
	return int64(r.pick(12)) - 1
}

func (r *reader) setThere() string {
	if len(r.w.Sets) > 0 && r.pick(9) > 0 {
		return r.w.Sets[r.pick(len(r.w.Sets))].Name
	}
	return r.name()
}

// any does one thing, and tells what it is, with what the book tells of it.
func (r *reader) any() (string, impl.WorldOut, int64) {
	set, id, page := r.setThere(), r.id(), int64(r.pick(13))
	if page == 12 {
		page = int64(r.pick(66)) - 1
	}
	room := impl.PoolRoom(r.w.Pool)
	switch n := r.pick(24 - r.kept); {
	case n < 2:
		name := r.name()
		return "new", impl.SetNew(r.w, name), r.b.add(name, &volume{pages: map[int64]string{}})
	case n < 9:
		r.writes++
		data := fmt.Sprintf("%013d%03d", r.writes, r.pick(1000))[r.pick(30)/29:]
		return "write", impl.SetWrite(r.w, set, page, data), r.b.write(set, page, data, room)
	case n < 12:
		return "trim", impl.SetTrim(r.w, set, page), r.b.trim(set, page, room)
	case n < 15:
		name := fmt.Sprint("s", r.pick(12))
		return "snap", impl.SnapNew(r.w, set, name), r.b.snap(set, name)
	case n < 17:
		name := r.name()
		return "clone", impl.CloneNew(r.w, id, name), r.b.clone(id, name)
	case n < 19:
		return "promote", impl.Promote(r.w, set), r.b.promote(set)
	case n < 21:
		return "back", impl.Rollback(r.w, set), r.b.back(set)
	case n < 22:
		return "destroy", impl.SetDestroy(r.w, set), r.b.destroy(set)
	default:
		return "drop", impl.SnapDestroy(r.w, id), r.b.drop(id)
	}
}

// goOn does so many things, of which those are kept that are done.
func (r *reader) goOn(t *testing.T, many int, look func(what string, was impl.World, out impl.WorldOut)) {
	t.Helper()
	for range many {
		if r.pick(6) == 0 {
			r.w.Pool = impl.PoolSync(r.w.Pool)
		}
		was := r.w
		what, out, code := r.any()
		if out.Code != code {
			t.Fatalf("%s: code %d, and the book tells %d", what, out.Code, code)
		}
		if code == impl.OK {
			r.w = out.World
		}
		if look != nil {
			look(what, was, out)
		}
	}
}

// Promise 5: a right world stays right, whatever is done; and all is read as a book of copies tells it.
func TestPromise5(t *testing.T) {
	done := map[string]int{}
	for seed := range uint64(40) {
		r := readerOf(seed, 5+int64(seed)*5)
		r.kept = int(seed%2) * 3
		r.goOn(t, 120, func(what string, was impl.World, out impl.WorldOut) {
			if out.Code != impl.OK {
				done[fmt.Sprint(what, " ", out.Code)]++
				same(t, what+": refused", out, impl.WorldOut{Code: out.Code})
				return
			}
			done[what]++
			same(t, what+": right", []any{impl.WorldRight(r.w), broken(r.w)}, []any{true, ""})
			same(t, what+": held", held(was, out), leftOut(was, r.w))
			if toldOf(r.w) != r.b.told() {
				t.Fatalf("seed %d: %s: not as the book tells it", seed, what)
			}
		})
		if t.Failed() {
			t.Fatalf("of the seed %d", seed)
		}
	}
	for _, what := range []string{"new", "write", "trim", "snap", "drop", "clone", "destroy", "back", "promote", "new 5", "new 6", "write 6", "write 8", "trim 4", "trim 6",
		"snap 5", "snap 6", "drop 4", "drop 7", "clone 4", "clone 5", "clone 6", "destroy 7", "back 4", "promote 5", "promote 7"} {
		if done[what] < 2 {
			t.Errorf("too few: %s, %d", what, done[what])
		}
	}
}

// worldsAtRandom are right worlds with all kinds of sets and snapshots, and room.
func worldsAtRandom(t *testing.T, many uint64) []*reader {
	t.Helper()
	var out []*reader
	for seed := range many {
		r := readerOf(1000+seed, impl.MaxSlots)
		r.goOn(t, 90, nil)
		out = append(out, r)
	}
	return out
}

// Promise 6: a snapshot has the pages of its set, and keeps them, whatever else is done.
func TestPromise6(t *testing.T) {
	kept := 0
	for _, r := range worldsAtRandom(t, 15) {
		for _, s := range r.w.Sets {
			out := impl.SnapNew(r.w, s.Name, "new")
			if out.Code != impl.OK {
				same(t, "full", []any{out.Code, len(r.w.Snaps)}, []any{impl.ErrFull, impl.MaxSnaps})
				continue
			}
			pages := pagesThere(r.w, s.Root)
			key := fmt.Sprint(out.Id)
			same(t, "its pages", pagesThere(out.World, aheadOf(out.World, out.Id).Root), pages)
			same(t, "the set's", pagesIn(out.World)[s.Name], pagesIn(r.w)[s.Name])
			for _, x := range doings(out.World) {
				next := x.do(out.World)
				if next.Code == impl.OK && x.what != "drop "+key {
					kept++
					same(t, "kept, with "+x.what, pagesThere(next.World, aheadOf(next.World, out.Id).Root), pages)
				}
			}
		}
		if t.Failed() {
			t.Fatal("they are not kept")
		}
	}
	if kept < 500 {
		t.Errorf("too few: %d", kept)
	}
}

// Promise 7: a snapshot that is destroyed frees just what it had alone; all else is as ahead.
func TestPromise7(t *testing.T) {
	done, freed := 0, 0
	for _, r := range worldsAtRandom(t, 70) {
		for _, s := range r.w.Snaps {
			out := impl.SnapDestroy(r.w, s.Id)
			if impl.NextsOf(r.w, s.Id) > 1 {
				same(t, "has more than one next", out, impl.WorldOut{Code: impl.ErrState})
				continue
			}
			done++
			key := fmt.Sprint(s.Id)
			same(t, "just what it had alone", held(r.w, out), aloneIn(r.w, key))
			freed += int(out.Many)
			pages := pagesIn(r.w)
			delete(pages, key)
			same(t, "all other pages", pagesIn(out.World), pages)
			same(t, "all other slots", out.World.Pool.Slots, r.w.Pool.Slots)
			same(t, "all but what is ahead", headless(out.World), headless(withoutSnap(r.w, s.Id)))
			same(t, "right", broken(out.World), "")
		}
		if t.Failed() {
			t.Fatal("not so")
		}
	}
	if done < 100 || freed < 100 {
		t.Errorf("too few: %d, %d", done, freed)
	}
}

func withoutSnap(w impl.World, id int64) impl.World {
	w = copyWorld(w)
	w.Snaps = slices.DeleteFunc(w.Snaps, func(s impl.Snap) bool { return s.Id == id })
	return w
}

// headless is a world without its pool, and without what is ahead of sets and snapshots.
func headless(w impl.World) impl.World {
	w = copyWorld(w)
	w.Pool = impl.Pool{}
	for i := range w.Sets {
		w.Sets[i].Prev, w.Sets[i].Dead = 0, nil
	}
	for i := range w.Snaps {
		w.Snaps[i].Prev, w.Snaps[i].Dead = 0, nil
	}
	return w
}

// synced is a world whose pool is synced.
func synced(w impl.World) impl.World {
	w = copyWorld(w)
	w.Pool = impl.PoolSync(w.Pool)
	return w
}

// Promise 8: a clone has the pages of its snapshot; written, it changes nothing else; destroyed, it leaves all as it was.
func TestPromise8(t *testing.T) {
	done := 0
	for _, r := range worldsAtRandom(t, 30) {
		for _, s := range r.w.Snaps {
			out := impl.CloneNew(r.w, s.Id, "new")
			if len(r.w.Sets) == impl.MaxSets {
				same(t, "full", out, impl.WorldOut{Code: impl.ErrFull})
				continue
			}
			pages := pagesIn(r.w)
			same(t, "its pages", pagesIn(out.World)["new"], pages[fmt.Sprint(s.Id)])
			w := out.World
			for range 5 {
				page := int64(r.pick(12))
				for _, do := range []func(impl.World) impl.WorldOut{write("new", page, pageB), trim("new", int64(r.pick(12)))} {
					if next := do(w); next.Code == impl.OK {
						same(t, "nothing else", othersOf(next.World, "new"), othersOf(r.w, ""))
						w = next.World
					}
				}
			}
			written := pagesIn(w)
			delete(written, "new")
			same(t, "no other page", written, pages)
			gone := impl.SetDestroy(w, "new")
			same(t, "just what it had alone", held(w, gone), aloneIn(w, "new"))
			same(t, "all as it was", synced(gone.World), synced(r.w))
			done++
		}
		if t.Failed() {
			t.Fatal("not so")
		}
	}
	if done < 50 {
		t.Errorf("too few: %d", done)
	}
}

// Promise 9: a set that is rolled back has the pages of its last snapshot; that, and destroying it, frees just what it
// had alone.
func TestPromise9(t *testing.T) {
	done := map[string]int{}
	for _, r := range worldsAtRandom(t, 30) {
		for _, s := range r.w.Sets {
			out := impl.Rollback(r.w, s.Name)
			if aheadOf(r.w, s.Prev).Set == s.Name {
				done["back"] += int(out.Many)
				same(t, "back: just what it had alone", held(r.w, out), aloneIn(r.w, s.Name))
				pages := pagesIn(r.w)
				pages[s.Name] = pages[fmt.Sprint(s.Prev)]
				same(t, "the pages of the snapshot, and all others", pagesIn(out.World), pages)
				same(t, "back: all others", othersOf(out.World, s.Name), othersOf(r.w, s.Name))
				same(t, "has a snapshot", impl.SetDestroy(r.w, s.Name), impl.WorldOut{Code: impl.ErrState})
				continue
			}
			same(t, "without one of its own", out, impl.WorldOut{Code: impl.ErrNone})
			out = impl.SetDestroy(r.w, s.Name)
			done["destroy"] += int(out.Many)
			same(t, "destroyed: just what it had alone", held(r.w, out), aloneIn(r.w, s.Name))
			same(t, "destroyed: all others", othersOf(out.World, ""), othersOf(r.w, s.Name))
			same(t, "destroyed: all other pages", pagesOf(out.World, "") == pagesOf(r.w, s.Name), true)
		}
		if t.Failed() {
			t.Fatal("not so")
		}
	}
	if done["back"] < 100 || done["destroy"] < 100 {
		t.Errorf("too few: %v", done)
	}
}

// Promise 10: a clone that is promoted changes no page of anything; the other one, promoted then, brings all back.
func TestPromise10(t *testing.T) {
	done := 0
	for _, r := range worldsAtRandom(t, 40) {
		for _, s := range r.w.Sets {
			out := impl.Promote(r.w, s.Name)
			if out.Code != impl.OK {
				continue
			}
			done++
			origin := aheadOf(r.w, s.Origin)
			same(t, "the snapshot", []any{out.Id, aheadOf(out.World, origin.Id).Set}, []any{s.Origin, s.Name})
			same(t, "no page", pagesIn(out.World), pagesIn(r.w))
			same(t, "no slot", out.World.Pool, r.w.Pool)
			same(t, "right", broken(out.World), "")
			other := impl.Promote(out.World, origin.Set)
			same(t, "all back", other, impl.WorldOut{World: r.w, Id: s.Origin})
		}
		if t.Failed() {
			t.Fatal("not so")
		}
	}
	if done < 50 {
		t.Errorf("too few: %d", done)
	}
}

// Promise 4: a page that is written into a set, or trimmed, changes nothing else of a right world.
func TestPromise4BySets(t *testing.T) {
	done := 0
	for _, r := range worldsAtRandom(t, 15) {
		for _, s := range r.w.Sets {
			for _, page := range []int64{0, int64(r.pick(12)), 63} {
				pages := pagesIn(r.w)
				for data, out := range map[string]impl.WorldOut{pageB: impl.SetWrite(r.w, s.Name, page, pageB), string(make([]byte, impl.PageSize)): impl.SetTrim(r.w, s.Name, page)} {
					if out.Code != impl.OK {
						continue
					}
					done++
					pages[s.Name][page] = data
					same(t, "no other page", pagesIn(out.World), pages)
					same(t, "no other set or snapshot", othersOf(out.World, s.Name), othersOf(r.w, s.Name))
					same(t, "held", held(r.w, out), leftOut(r.w, out.World))
					same(t, "right", broken(out.World), "")
				}
			}
		}
		if t.Failed() {
			t.Fatal("not so")
		}
	}
	if done < 200 {
		t.Errorf("too few: %d", done)
	}
}

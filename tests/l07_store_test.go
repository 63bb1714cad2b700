package tests

import (
	"fmt"
	"maps"
	"math"
	"strings"
	"testing"

	"loop.example/g00381/impl"
)

func copyStore(s impl.Store) impl.Store {
	return impl.Store{Live: copyWorld(s.Live), Safe: copyWorld(s.Safe)}
}

// safely has all of a world synced, but what is held in it still there.
func safely(w impl.World) impl.Store {
	return impl.Store{Live: copyWorld(w), Safe: synced(w)}
}

func mustStore(t *testing.T, out impl.StoreOut) impl.Store {
	t.Helper()
	if out.Code != impl.OK {
		t.Fatalf("code %d", out.Code)
	}
	return out.Store
}

// doneTo turns a store to what its Live is with these deeds done.
func doneTo(t *testing.T, s impl.Store, deeds ...func(impl.World) impl.WorldOut) impl.Store {
	t.Helper()
	return mustStore(t, impl.StoreTurn(s, must(t, s.Live, deeds...)))
}

// onePageSafe has a page synced, in the slots 0 to 2, at the Time 1, so that both worlds are at the Time 2.
func onePageSafe(t *testing.T) impl.Store {
	t.Helper()
	return mustStore(t, impl.StoreSync(doneTo(t, impl.StoreNew(9), newSet("a"), write("a", 0, pageA))))
}

// grown has another page in Live, in the slots 3 to 5; the slots 1 and 2 are held.
func grown(t *testing.T) impl.Store {
	t.Helper()
	return doneTo(t, onePageSafe(t), write("a", 1, pageB))
}

func storeWith(s impl.Store, change func(s *impl.Store)) impl.Store {
	s = copyStore(s)
	change(&s)
	return s
}

func rightStores(t *testing.T) map[string]impl.Store {
	t.Helper()
	out := map[string]impl.Store{
		"a new one":                  impl.StoreNew(30),
		"a page":                     onePageSafe(t),
		"a page more":                grown(t),
		"a page less":                doneTo(t, onePageSafe(t), trim("a", 0)),
		"nothing was synced":         {Live: family(), Safe: impl.WorldNew(60)},
		"all that is synced is held": doneTo(t, safely(story(t)), drop(2), drop(1), destroy("a")),
		"a later Time and Next":      doneTo(t, onePageSafe(t), snap("a", "x"), drop(1)),
		"a later Time":               storeWith(onePageSafe(t), func(s *impl.Store) { s.Live.Time = lastCount }),
		"a later Next":               storeWith(onePageSafe(t), func(s *impl.Store) { s.Live.Next = lastCount }),
	}
	for what, w := range rightWorlds() {
		out["of one world: "+what] = safely(w)
		out["of a new one, and: "+what] = impl.Store{Live: w, Safe: impl.WorldNew(int64(len(w.Pool.Slots)))}
	}
	return out
}

// keptIn: each slot of Safe that is not free is the same in Live.
func keptIn(s impl.Store) bool {
	for i, slot := range s.Safe.Pool.Slots {
		free := slot.Birth == 0 && len(slot.Kids) == 0 && slot.Data == ""
		if !free && i < len(s.Live.Pool.Slots) && fmt.Sprint(slot) != fmt.Sprint(s.Live.Pool.Slots[i]) {
			return false
		}
	}
	return true
}

// storeQuestion is a clause of the chapter, asked as it stands there.
type storeQuestion struct {
	what  string
	holds func(impl.Store) bool
}

func storeQuestions() []storeQuestion {
	return []storeQuestion{
		{"live", func(s impl.Store) bool { return broken(s.Live) == "" }},
		{"safe", func(s impl.Store) bool { return broken(s.Safe) == "" }},
		{"many", func(s impl.Store) bool { return len(s.Live.Pool.Slots) == len(s.Safe.Pool.Slots) }},
		{"held", func(s impl.Store) bool { return len(s.Safe.Pool.Held) == 0 }},
		{"time", func(s impl.Store) bool { return s.Safe.Time <= s.Live.Time }},
		{"next", func(s impl.Store) bool { return s.Safe.Next <= s.Live.Next }},
		{"kept", keptIn},
	}
}

// brokenIn are the clauses that do not hold of a store.
func brokenIn(s impl.Store) string {
	var out []string
	for _, q := range storeQuestions() {
		if !q.holds(s) {
			out = append(out, q.what)
		}
	}
	return strings.Join(out, " ")
}

// wrongStore is a store, and the clauses that it breaks.
type wrongStore struct {
	broken string
	store  impl.Store
}

// otherPlace has the page of small() in another place, but in the same slots, born at the same time.
func otherPlace() impl.World {
	w := small()
	kids := w.Pool.Slots[1].Kids
	kids[0], kids[5] = kids[5], kids[0]
	return w
}

// otherBirth has all of small() born one later.
func otherBirth() impl.World {
	w := small()
	w.Time, w.Pool, w.Sets[0].Root = 2, later(w.Pool), at(2, 2)
	return w
}

// laterRoot has just the root of small() born one later: its Kids are the same.
func laterRoot() impl.World {
	w := small()
	w.Time, w.Pool.Slots[2].Birth, w.Sets[0].Root = 2, 2, at(2, 2)
	return w
}

// notKept are right worlds that do not have what is synced in small(), which is as many slots.
func notKept(t *testing.T) map[string]impl.World {
	t.Helper()
	gone := synced(must(t, small(), trim("a", 0)))
	return map[string]impl.World{
		"nothing is there":         impl.WorldNew(9),
		"dropped, and freed":       gone,
		"taken anew":               must(t, gone, write("a", 0, pageB)),
		"another text":             must(t, impl.WorldNew(9), newSet("a"), write("a", 0, pageB)),
		"another place":            otherPlace(),
		"another birth":            otherBirth(),
		"another birth of a root":  laterRoot(),
		"another set's page first": must(t, impl.WorldNew(9), newSet("a"), newSet("b"), write("b", 9, pageB), write("a", 0, pageA)),
	}
}

func wrongStores(t *testing.T) map[string]wrongStore {
	t.Helper()
	more := func(w *impl.World, many int) { w.Pool.Slots = append(w.Pool.Slots, make([]impl.Slot, many)...) }
	less := func(w *impl.World) { w.Pool.Slots = w.Pool.Slots[:8] }
	held := impl.Store{Live: story(t), Safe: story(t)}
	one := onePageSafe(t)
	out := map[string]wrongStore{
		"the zero Store":           {"live safe", impl.Store{}},
		"Live is the zero World":   {"live time next", impl.Store{Safe: impl.WorldNew(0)}},
		"Safe is the zero World":   {"safe", impl.Store{Live: impl.WorldNew(0)}},
		"a slot too many in Live":  {"many", storeWith(one, func(s *impl.Store) { more(&s.Live, 1) })},
		"a slot too few in Live":   {"many", storeWith(one, func(s *impl.Store) { less(&s.Live) })},
		"a slot too many in Safe":  {"many", storeWith(one, func(s *impl.Store) { more(&s.Safe, 1) })},
		"a slot too few in Safe":   {"many", storeWith(one, func(s *impl.Store) { less(&s.Safe) })},
		"none in Live":             {"many", impl.Store{Live: impl.WorldNew(0), Safe: impl.WorldNew(9)}},
		"none in Safe":             {"many", impl.Store{Live: impl.WorldNew(9), Safe: impl.WorldNew(0)}},
		"synced, but in none":      {"many", impl.Store{Live: impl.WorldNew(0), Safe: small()}},
		"held in Safe":             {"held", held},
		"the last one held":        {"held", storeWith(grown(t), func(s *impl.Store) { s.Safe = copyWorld(s.Live) })},
		"Safe is one later":        {"time", storeWith(one, func(s *impl.Store) { s.Safe.Time++ })},
		"Safe is at the last Time": {"time", storeWith(one, func(s *impl.Store) { s.Safe.Time = lastCount })},
		"a Next more in Safe":      {"next", storeWith(one, func(s *impl.Store) { s.Safe.Next++ })},
		"the last Next in Safe":    {"next", storeWith(one, func(s *impl.Store) { s.Safe.Next = lastCount })},
		"Live and Safe changed":    {"time kept", storeWith(grown(t), func(s *impl.Store) { s.Live, s.Safe = small(), synced(s.Live) })},
		"a page that none has":     {"live", storeWith(one, func(s *impl.Store) { s.Live.Pool.Slots[8] = pageOf(1, pageA) })},
		"and in Safe":              {"safe kept", storeWith(one, func(s *impl.Store) { s.Safe.Pool.Slots[8] = pageOf(1, pageA) })},
		"a set of no name in Safe": {"safe", storeWith(one, func(s *impl.Store) { s.Safe.Sets[0].Name = "A" })},
	}
	for what, w := range notKept(t) {
		out[what] = wrongStore{"kept", impl.Store{Live: w, Safe: small()}}
	}
	return out
}

func TestStoreNew(t *testing.T) {
	for _, n := range []int64{0, 1, 30, impl.MaxSlots} {
		s := impl.StoreNew(n)
		same(t, "new", s, impl.Store{Live: impl.WorldNew(n), Safe: impl.WorldNew(n)})
		same(t, "right", impl.StoreRight(s), true)
		apartFrom(t, "new", impl.Store{}, s)
	}
	for _, n := range []int64{-1, impl.MaxSlots + 1, math.MinInt64, math.MaxInt64} {
		same(t, "of a wrong number", impl.StoreNew(n), impl.Store{})
	}
}

func TestStoreRight(t *testing.T) {
	for what, s := range rightStores(t) {
		same(t, what+": no clause is broken", brokenIn(s), "")
		was := copyStore(s)
		same(t, what+": is right", impl.StoreRight(s), true)
		same(t, what+": it stays", s, was)
	}
	alone := map[string]bool{}
	for what, x := range wrongStores(t) {
		same(t, what+": the clauses that are broken", brokenIn(x.store), x.broken)
		was := copyStore(x.store)
		same(t, what+": is right", impl.StoreRight(x.store), false)
		same(t, what+": it stays", x.store, was)
		alone[x.broken] = true
	}
	for _, q := range storeQuestions() {
		if !alone[q.what] {
			t.Errorf("no wrong store breaks just %s", q.what)
		}
	}
}

// roomOf is a new world of as many slots; of none, where there are too many.
func roomOf(w impl.World) impl.World {
	if len(w.Pool.Slots) > impl.MaxSlots {
		return impl.WorldNew(0)
	}
	return impl.WorldNew(int64(len(w.Pool.Slots)))
}

// refusedForm: a store that is not right is refused, whatever is to be done to it.
func refusedForm(t *testing.T, what string, s impl.Store, w impl.World) {
	t.Helper()
	same(t, what+": is right", impl.StoreRight(s), false)
	same(t, what+": synced", impl.StoreSync(s), impl.StoreOut{Code: impl.ErrForm})
	same(t, what+": crashed", impl.StoreCrash(s), impl.StoreOut{Code: impl.ErrForm})
	same(t, what+": turned", impl.StoreTurn(s, w), impl.StoreOut{Code: impl.ErrForm})
}

func TestWrongStores(t *testing.T) {
	for what, x := range wrongStores(t) {
		was := copyStore(x.store)
		for _, w := range []impl.World{x.store.Live, x.store.Safe, roomOf(x.store.Safe), small(), {}} {
			refusedForm(t, what, x.store, w)
		}
		same(t, what+": it stays", x.store, was)
	}
	for what, x := range wrongWorlds() {
		refusedForm(t, "Live: "+what, impl.Store{Live: x.world, Safe: roomOf(x.world)}, roomOf(x.world))
		refusedForm(t, "Safe: "+what, impl.Store{Live: roomOf(x.world), Safe: x.world}, roomOf(x.world))
		refusedForm(t, "both: "+what, impl.Store{Live: x.world, Safe: x.world}, x.world)
	}
}

func TestStoreSync(t *testing.T) {
	s := grown(t)
	same(t, "held", s.Live.Pool.Held, []int64{1, 2})
	out := impl.StoreSync(s)
	want := copyWorld(s.Live)
	want.Pool.Slots[1], want.Pool.Slots[2], want.Pool.Held, want.Time = impl.Slot{}, impl.Slot{}, nil, 3
	same(t, "what is held is free, a Time one more, and Safe the same", out, impl.StoreOut{Store: impl.Store{Live: want, Safe: want}})
	want.Time = 4
	same(t, "once more", impl.StoreSync(out.Store), impl.StoreOut{Store: impl.Store{Live: want, Safe: want}})
	again := mustStore(t, impl.StoreSync(impl.StoreNew(0)))
	same(t, "without slots", again, impl.Store{Live: impl.World{Time: 2, Next: 1}, Safe: impl.World{Time: 2, Next: 1}})
	for what, s := range rightStores(t) {
		want := synced(s.Live)
		want.Time++
		if want.Time > lastCount {
			same(t, what, impl.StoreSync(s), impl.StoreOut{Code: impl.ErrFull})
			continue
		}
		same(t, what, impl.StoreSync(s), impl.StoreOut{Store: impl.Store{Live: want, Safe: want}})
	}
}

func TestStoreSyncAtTheLastTime(t *testing.T) {
	at := func(live int64, safe int64) impl.Store {
		return storeWith(onePageSafe(t), func(s *impl.Store) { s.Live.Time, s.Safe.Time = live, safe })
	}
	full := impl.StoreOut{Code: impl.ErrFull}
	same(t, "Live's is the last", impl.StoreSync(at(lastCount, 2)), full)
	same(t, "both are", impl.StoreSync(at(lastCount, lastCount)), full)
	last := mustStore(t, impl.StoreSync(at(lastCount-1, 2)))
	same(t, "to the last", []any{last.Live.Time, last.Safe.Time, brokenIn(last)}, []any{lastCount, lastCount, ""})
	same(t, "and no more", impl.StoreSync(last), full)
	same(t, "the last Next is none", impl.StoreSync(safely(counted(1, lastCount))).Code, impl.OK)
	wrong := storeWith(at(lastCount, 2), func(s *impl.Store) { s.Safe.Next = 7 })
	same(t, "not right, and the last", impl.StoreSync(wrong), impl.StoreOut{Code: impl.ErrForm})
	same(t, "behind the last", impl.StoreSync(at(lastCount+1, 2)), impl.StoreOut{Code: impl.ErrForm})
	same(t, "a crash brings the Time back", impl.StoreCrash(at(lastCount, 2)).Store, at(2, 2))
	same(t, "a crash at the last Time", impl.StoreCrash(last).Store, last)
}

func TestStoreCrash(t *testing.T) {
	one, s := onePageSafe(t), grown(t)
	same(t, "what came since is free, what was held is there", impl.StoreCrash(s), impl.StoreOut{Store: one})
	same(t, "once more", impl.StoreCrash(one), impl.StoreOut{Store: one})
	same(t, "what was dropped", impl.StoreCrash(doneTo(t, one, trim("a", 0))).Store, one)
	same(t, "the set", impl.StoreCrash(doneTo(t, one, destroy("a"))).Store, one)
	lost := doneTo(t, one, snap("a", "x"), newSet("b"), clone(1, "c"), write("c", 9, pageB))
	same(t, "what is new", impl.StoreCrash(lost).Store, one)
	told := safely(must(t, story(t), clone(1, "b"), clone(2, "c")))
	told.Live = synced(told.Live)
	gone := doneTo(t, told, promote("c"), back("c"), destroy("b"), destroy("a"), drop(1), drop(2), destroy("c"))
	same(t, "all is gone", len(gone.Live.Pool.Held), 12)
	same(t, "all is back", impl.StoreCrash(gone).Store, told)
	for what, s := range rightStores(t) {
		out := impl.StoreCrash(s)
		same(t, what, out, impl.StoreOut{Store: impl.Store{Live: s.Safe, Safe: s.Safe}})
		same(t, what+": right", brokenIn(out.Store), "")
	}
}

func TestStoreTurn(t *testing.T) {
	s := onePageSafe(t)
	for what, w := range map[string]impl.World{
		"as it is":          s.Live,
		"what is synced":    s.Safe,
		"a page more":       must(t, s.Live, write("a", 1, pageB)),
		"a page less":       must(t, s.Live, trim("a", 0)),
		"the set destroyed": must(t, s.Live, destroy("a")),
		"a snapshot":        must(t, s.Live, snap("a", "x"), write("a", 0, pageB)),
		"another name":      storeWith(s, func(s *impl.Store) { s.Live.Sets[0].Name = "other" }).Live,
		"the last Time":     storeWith(s, func(s *impl.Store) { s.Live.Time = lastCount }).Live,
		"the last Next":     storeWith(s, func(s *impl.Store) { s.Live.Next = lastCount }).Live,
	} {
		same(t, what, impl.StoreTurn(s, w), impl.StoreOut{Store: impl.Store{Live: w, Safe: s.Safe}})
		back := impl.StoreTurn(impl.Store{Live: w, Safe: s.Safe}, s.Live)
		same(t, what+": and back", back, impl.StoreOut{Store: s})
	}
	refused := impl.StoreOut{Code: impl.ErrState}
	for what, w := range notKept(t) {
		w.Time = 2
		same(t, what+": right", broken(w), "")
		same(t, what, impl.StoreTurn(s, w), refused)
	}
	for what, w := range map[string]impl.World{
		"a slot more":    storeWith(s, func(s *impl.Store) { s.Live.Pool.Slots = append(s.Live.Pool.Slots, impl.Slot{}) }).Live,
		"a slot less":    storeWith(s, func(s *impl.Store) { s.Live.Pool.Slots = s.Live.Pool.Slots[:8] }).Live,
		"a Time ahead":   small(),
		"none":           {},
		"a new one":      impl.WorldNew(9),
		"synced by hand": synced(must(t, s.Live, trim("a", 0))),
	} {
		same(t, what, impl.StoreTurn(s, w), refused)
	}
	later := mustStore(t, impl.StoreSync(doneTo(t, s, snap("a", "x"))))
	ahead := copyWorld(later.Live)
	ahead.Next = 1
	same(t, "a Next ahead of its snapshots", impl.StoreTurn(later, ahead), refused)
	none := mustStore(t, impl.StoreSync(doneTo(t, later, drop(1))))
	ahead = copyWorld(none.Live)
	ahead.Next = 1
	same(t, "a Next ahead", []any{broken(ahead), impl.StoreTurn(none, ahead)}, []any{"", refused})
}

func TestStoreTurnToWrongWorlds(t *testing.T) {
	for what, x := range wrongWorlds() {
		s := impl.Store{Live: roomOf(x.world), Safe: roomOf(x.world)}
		was := copyWorld(x.world)
		same(t, what, impl.StoreTurn(s, x.world), impl.StoreOut{Code: impl.ErrState})
		same(t, what+": it stays", x.world, was)
	}
}

// turning is a store with a world that it is turned to.
type turning struct {
	store impl.Store
	world impl.World
}

func TestStoresAreNewMemory(t *testing.T) {
	for what, made := range rightStores(t) {
		one := oneMemory(made.Safe)
		for _, x := range []turning{
			{impl.Store{Live: oneMemory(made.Live), Safe: oneMemory(made.Safe)}, oneMemory(made.Live)},
			{impl.Store{Live: one, Safe: one}, one},
		} {
			s, w := copyStore(x.store), copyWorld(x.world)
			for i, out := range []impl.StoreOut{impl.StoreSync(x.store), impl.StoreCrash(x.store), impl.StoreTurn(x.store, x.world)} {
				apartFrom(t, fmt.Sprint(what, ": ", i), x, out)
			}
			same(t, what+": what is handed in", x, turning{s, w})
		}
	}
}

func copyVolumes[K comparable](volumes map[K]*volume) map[K]*volume {
	out := map[K]*volume{}
	for key, v := range volumes {
		one := *v
		one.pages = maps.Clone(v.pages)
		out[key] = &one
	}
	return out
}

func copyBook(b *book) *book {
	return &book{sets: copyVolumes(b.sets), snaps: copyVolumes(b.snaps), time: b.time, next: b.next}
}

// keeper does things at random to a store, and in a book; it has the book, and Live, as they were when all was synced.
type keeper struct {
	*reader
	s    impl.Store
	safe *book
	last impl.World
}

func keeperOf(seed uint64, slots int64) *keeper {
	r := readerOf(seed, slots)
	return &keeper{reader: r, s: impl.StoreNew(slots), safe: copyBook(r.b), last: copyWorld(r.w)}
}

func (k *keeper) sync(t *testing.T) {
	t.Helper()
	want := synced(k.w)
	want.Time++
	k.b.time++
	k.s = mustStore(t, impl.StoreSync(k.s))
	same(t, "synced", k.s, impl.Store{Live: want, Safe: want})
	k.safe, k.last = copyBook(k.b), want
}

// crash holds what is left against what was synced last, slot by slot, and page by page.
func (k *keeper) crash(t *testing.T) {
	t.Helper()
	k.s = mustStore(t, impl.StoreCrash(k.s))
	same(t, "just what was synced", k.s, impl.Store{Live: k.last, Safe: k.last})
	k.b = copyBook(k.safe)
	if toldOf(k.s.Live) != k.b.told() {
		t.Fatal("not what was told when it was synced")
	}
}

// step is done to Live, or to the store; what is refused changes nothing.
func (k *keeper) step(t *testing.T) string {
	t.Helper()
	what, code := "", int64(impl.OK)
	var out impl.WorldOut
	switch k.pick(14) {
	case 0:
		what = "sync"
		k.sync(t)
	case 1:
		what = "crash"
		k.crash(t)
	default:
		what, out, code = k.any()
		same(t, what, out.Code, code)
		if code == impl.OK {
			k.s = mustStore(t, impl.StoreTurn(k.s, out.World))
			same(t, what+": turned", k.s.Live, out.World)
		}
	}
	same(t, what+": what is synced stays", k.s.Safe, k.last)
	k.w = k.s.Live
	return what
}

// Promise 12: a crash leaves just what was synced, whatever was done to Live since.
func TestPromise12(t *testing.T) {
	many := map[string]int{}
	for seed := range uint64(40) {
		k := keeperOf(7000+seed, 10+4*int64(seed))
		for range 150 {
			lost, held := toldOf(k.w) != k.safe.told(), len(k.w.Pool.Held)
			what := k.step(t)
			many[what]++
			if what == "crash" && lost {
				many["lost"]++
				many["brought back"] += held
			}
			same(t, what+": right", brokenIn(k.s), "")
			if t.Failed() {
				t.Fatalf("of the seed %d", seed)
			}
		}
		k.crash(t)
	}
	for _, what := range []string{"sync", "crash", "lost", "brought back", "write", "trim", "snap", "drop", "clone", "destroy", "back", "promote"} {
		if many[what] < 100 {
			t.Errorf("too few: %s, %d", what, many[what])
		}
	}
}

// others are worlds that a store may be turned to, or not: what Live was at some time, or would be, were it synced
// alone, or were a page another one, or something of it changed.
func (k *keeper) others(past []impl.World) []impl.World {
	page := copyWorld(k.w)
	for i := range page.Pool.Slots {
		if s := &page.Pool.Slots[i]; s.Data != "" && k.pick(6) == 0 {
			s.Data = pageB
		}
	}
	lacking := copyWorld(k.w)
	lacking.Pool.Slots = append(lacking.Pool.Slots, make([]impl.Slot, k.pick(2))...)
	out := []impl.World{past[k.pick(len(past))], past[max(0, len(past)-5)], synced(k.w), page, lacking}
	if len(k.w.Sets) > 0 {
		spoilt := copyWorld(k.w)
		m := &maker{walk: k.walk}
		m.spoilWorld(&spoilt)
		out = append(out, spoilt)
	}
	return out
}

// Promise 13: a right store takes a world that keeps all that is synced, and no other one.
func TestPromise13(t *testing.T) {
	many := map[string]int{}
	for seed := range uint64(40) {
		k := keeperOf(9000+seed, 20+3*int64(seed))
		past := []impl.World{k.w}
		for range 50 {
			k.step(t)
			past = append(past, k.w)
			for _, w := range k.others(past) {
				with := impl.Store{Live: w, Safe: k.last}
				why := brokenIn(with)
				many[why]++
				out := impl.StoreTurn(k.s, w)
				if why != "" {
					same(t, "not taken: "+why, out, impl.StoreOut{Code: impl.ErrState})
					continue
				}
				same(t, "taken", out, impl.StoreOut{Store: with})
				same(t, "all that is synced is kept", impl.StoreCrash(out.Store).Store, impl.Store{Live: k.last, Safe: k.last})
			}
			if t.Failed() {
				t.Fatalf("of the seed %d", seed)
			}
		}
	}
	for _, why := range []string{"", "live", "many", "time", "kept"} {
		if many[why] < 50 {
			t.Errorf("too few: %q, %d", why, many[why])
		}
	}
}

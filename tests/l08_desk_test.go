package tests

import (
	"fmt"
	"maps"
	"regexp"
	"slices"
	"strings"
	"testing"

	"loop.example/g00381/impl"
)

// deskSlots is how many slots the store of a desk has.
const deskSlots = 100

// lined puts a line feed behind each line.
func lined(lines []string) string {
	out := ""
	for _, line := range lines {
		out += line + "\n"
	}
	return out
}

func times(n int, line string) []string {
	return slices.Repeat([]string{line}, n)
}

// sameDesk shows texts with quotes, as any bytes may stand in them.
func sameDesk(t *testing.T, what string, got impl.DeskOut, want impl.DeskOut) {
	t.Helper()
	if got != want {
		t.Errorf("%s: got %q, %d, %d, want %q, %d, %d", what, got.Text, got.Line, got.Code, want.Text, want.Line, want.Code)
	}
}

// dialogue are lines, each with what it tells: "new a > ok".
func dialogue(t *testing.T, what string, lines ...string) {
	t.Helper()
	var asked, told []string
	for _, line := range lines {
		a, b, found := strings.Cut(line, " > ")
		if !found {
			t.Fatalf("%s: tells nothing: %s", what, line)
		}
		asked, told = append(asked, a), append(told, b)
	}
	text := lined(asked)
	sameDesk(t, what, impl.DeskRun(text), impl.DeskOut{Text: lined(told)})
	sameDesk(t, what+": fault", impl.DeskFault(text), impl.DeskOut{})
}

func TestDeskSets(t *testing.T) {
	dialogue(t, "new ones", "new a > ok", "new a > error 5", "new A > error 1", "new 1 > error 1", "new _a > error 1", "new a-b > error 1",
		"new abcdefghijklmnopqrst > ok", "new abcdefghijklmnopqrstu > error 1", "new a1_ > ok", "new NAME > error 1", "new N > error 1", "new new > ok")
	dialogue(t, "as many as there may be", "new h > ok", "new g > ok", "new f > ok", "new e > ok", "new d > ok", "new c > ok", "new b > ok", "new a > ok",
		"new i > error 6", "new a > error 5", "new I > error 1", "destroy d > ok 0", "new i > ok", "new d > error 6")
	dialogue(t, "destroyed", "destroy a > error 4", "new a > ok", "write a 9 x > ok", "write a 10 y > ok", "snap a s > ok 1", "destroy a > error 7",
		"write a 9 z > ok", "drop 1 > ok 3", "destroy a > ok 4", "destroy a > error 4", "free > free 91", "sync > ok", "free > free 100", "destroy A > error 4")
}

func TestDeskWrites(t *testing.T) {
	dialogue(t, "written", "write a 0 x > error 4", "new a > ok", "write a 0 x > ok", "read a 0 > page x...............", "write a 63 y > ok", "read a 63 > page y...............",
		"read a 0 > page x...............", "write a 64 x > error 8", "write a 999999999 x > error 8", "write b 64 x > error 4", "write a 0 y > ok", "read a 0 > page y...............",
		"free > free 91", "sync > ok", "free > free 95")
	dialogue(t, "cut, or filled up", "new a > ok", "write a 0 0123456789abcde > ok", "read a 0 > page 0123456789abcde.", "write a 1 0123456789abcdef > ok", "read a 1 > page 0123456789abcdef",
		"write a 2 0123456789abcdefg > ok", "read a 2 > page 0123456789abcdef", "write a 3 "+strings.Repeat("w", 7000)+" > ok", "read a 3 > page wwwwwwwwwwwwwwww",
		"write a 4 . > ok", "read a 4 > page ................", "write a 5 - > ok", "read a 5 > page -...............", "write a 6 12 > ok", "read a 6 > page 12..............")
	dialogue(t, "trimmed", "trim a 0 > error 4", "new a > ok", "trim a 0 > error 4", "write a 0 x > ok", "write a 1 y > ok", "trim a 64 > error 8", "trim b 64 > error 4", "trim a 2 > error 4",
		"trim a 0 > ok", "read a 0 > page ----------------", "read a 1 > page y...............", "trim a 0 > error 4", "trim a 1 > ok", "read a 1 > page ----------------", "free > free 92", "sync > ok", "free > free 100")
}

func TestDeskWordsAreAnyBytes(t *testing.T) {
	dialogue(t, "no letters", "new a > ok", "write a 0 \t\r\v > ok", "read a 0 > page \t\r\v.............", "write a 1 a\x00b > ok", "read a 1 > page a-b.............",
		"write a 2 \x00 > ok", "read a 2 > page -...............", "write a 3 \u00a0\u2028 > ok", "read a 3 > page \u00a0\u2028...........",
		"new \x00 > error 1", "snap a \xff > error 1", "snap \x80 s > error 4", "read \xff\xfe 0 > none")
	dialogue(t, "runes, cut", "new a > ok", "write a 0 0123456789abcdé > ok", "read a 0 > page 0123456789abcdé", "write a 1 0123456789abcde€ > ok", "read a 1 > page 0123456789abcde\xe2")
	dialogue(t, "bytes that are no runes", "new a > ok", "write a 0 \xff\xc3 > ok", "read a 0 > page \xff\xc3..............", "write a 1 \xe2\x82 > ok", "read a 1 > page \xe2\x82..............",
		"write a 2 \ufffd > ok", "read a 2 > page \ufffd.............")
	sameDesk(t, "a line feed is one, whatever is ahead of it", impl.DeskRun("new a\nwrite a 0 \xe2\x82\nread a 0\n"), impl.DeskOut{Text: "ok\nok\npage \xe2\x82..............\n"})
}

func TestDeskReads(t *testing.T) {
	dialogue(t, "none", "read a 0 > none", "new a > ok", "read a 0 > page ----------------", "read a 63 > page ----------------", "read a 64 > none", "read a 999999999 > none",
		"read b 0 > none", "read A 0 > none", "read aa 0 > none", "destroy a > ok 0", "read a 0 > none")
}

func TestDeskSnaps(t *testing.T) {
	dialogue(t, "snapshots", "snap a s > error 4", "new a > ok", "snap a S > error 1", "snap b S > error 1", "snap a s > ok 1", "snap a s > error 5", "snap a t > ok 2", "new b > ok", "snap b s > ok 3",
		"drop 4 > error 4", "drop 0 > error 4", "drop 999999999 > error 4", "drop 2 > ok 0", "drop 2 > error 4", "snap a t > ok 4", "snap a abcdefghijklmnopqrst > ok 5", "snap a abcdefghijklmnopqrstu > error 1")
	dialogue(t, "what they had alone", "new a > ok", "write a 0 x > ok", "write a 1 y > ok", "snap a s > ok 1", "write a 0 z > ok", "snap a t > ok 2", "trim a 0 > ok", "trim a 1 > ok",
		"sync > ok", "free > free 93", "drop 1 > ok 3", "drop 2 > ok 4", "free > free 93", "sync > ok", "free > free 100")
	full := append([]string{"new a > ok"}, times(impl.MaxSnaps, "")...)
	for i := range impl.MaxSnaps {
		full[1+i] = fmt.Sprintf("snap a s%d > ok %d", i, i+1)
	}
	dialogue(t, "as many as there may be", append(full, "snap a more > error 6", "snap a s3 > error 5", "drop 7 > ok 0", "snap a more > ok 21", "snap a s6 > error 6")...)
	dialogue(t, "rolled back", "back a > error 4", "new a > ok", "back a > error 4", "write a 0 x > ok", "snap a s > ok 1", "back a > ok 0", "write a 0 y > ok", "write a 8 z > ok",
		"back a > ok 5", "read a 0 > page x...............", "read a 8 > page ----------------", "clone 1 b > ok", "back b > error 4", "back A > error 4", "sync > ok", "free > free 97")
}

func TestDeskClones(t *testing.T) {
	dialogue(t, "clones", "clone 1 b > error 4", "clone 1 B > error 1", "new a > ok", "write a 0 x > ok", "snap a s > ok 1", "clone 1 B > error 1", "clone 1 a > error 5", "clone 2 a > error 4",
		"clone 0 c > error 4", "clone 1 b > ok", "clone 1 b > error 5", "read b 0 > page x...............", "write b 0 y > ok", "read a 0 > page x...............", "read b 0 > page y...............",
		"drop 1 > error 7", "snap b s > ok 2", "clone 2 c > ok", "read c 0 > page y...............", "drop 2 > error 7", "destroy c > ok 0", "drop 2 > ok 0", "destroy b > ok 3", "drop 1 > ok 0", "destroy a > ok 3",
		"sync > ok", "free > free 100")
	dialogue(t, "full", "new a > ok", "snap a s > ok 1", "clone 1 b > ok", "clone 1 c > ok", "clone 1 d > ok", "clone 1 e > ok", "clone 1 f > ok", "clone 1 g > ok", "clone 1 h > ok",
		"clone 1 i > error 6", "clone 1 a > error 5", "clone 2 i > error 4")
	dialogue(t, "promoted", "promote b > error 4", "new a > ok", "promote a > error 7", "write a 0 x > ok", "snap a s > ok 1", "snap a t > ok 2", "write a 0 y > ok", "clone 2 b > ok", "write b 1 z > ok",
		"promote b > ok 2", "promote b > error 7", "destroy b > error 7", "destroy a > ok 3", "read b 0 > page x...............", "read b 1 > page z...............", "drop 1 > ok 0", "drop 2 > ok 2", "destroy b > ok 4",
		"promote A > error 4", "sync > ok", "free > free 100")
	dialogue(t, "promoted, and back", "new a > ok", "snap a s > ok 1", "clone 1 b > ok", "snap b s > ok 2", "promote b > error 5", "drop 2 > ok 0", "promote b > ok 1", "promote a > ok 1", "promote a > error 7")
}

func TestDeskSyncsAndCrashes(t *testing.T) {
	dialogue(t, "of nothing", "crash > ok", "sync > ok", "crash > ok", "free > free 100")
	dialogue(t, "lost", "new a > ok", "write a 0 x > ok", "free > free 97", "crash > ok", "free > free 100", "read a 0 > none", "new a > ok", "read a 0 > page ----------------")
	dialogue(t, "kept", "new a > ok", "write a 0 x > ok", "snap a s > ok 1", "sync > ok", "write a 0 y > ok", "drop 1 > ok 3", "snap a s > ok 2", "read a 0 > page y...............", "free > free 94",
		"crash > ok", "read a 0 > page x...............", "free > free 97", "snap a s > error 5", "snap a t > ok 2", "drop 1 > ok 0", "sync > ok", "crash > ok", "drop 1 > error 4", "drop 2 > ok 0")
	dialogue(t, "all that was dropped is back", "new a > ok", "write a 0 x > ok", "sync > ok", "destroy a > ok 3", "free > free 97", "crash > ok", "read a 0 > page x...............",
		"destroy a > ok 3", "sync > ok", "free > free 100", "crash > ok", "read a 0 > none")
}

// A page more takes three slots, till the next sync: what was in their place is held.
func TestDeskFull(t *testing.T) {
	lines := slices.Concat([]string{"new a > ok"}, times(33, "write a 0 x > ok"), []string{"free > free 1", "write a 0 x > error 6", "write a 64 x > error 8", "trim a 0 > ok", "free > free 1",
		"write a 0 x > error 6", "sync > ok", "free > free 100", "write a 0 x > ok", "free > free 97"})
	dialogue(t, "of slots", lines...)
	lines = slices.Concat([]string{"new a > ok", "write a 0 y > ok"}, times(32, "write a 1 x > ok"), []string{"free > free 1", "trim a 1 > error 6", "trim a 8 > error 4", "crash > ok", "free > free 100"})
	dialogue(t, "of slots to trim", lines...)
}

// rightLines have each form, with words that any may be.
func rightLines() []string {
	return []string{"new a", "new A", "new 1", "new new", "write a 0 x", "write write 123456789 write", "write 0 0 0", "write \t 10 \xff", "trim a 9", "trim 0 0", "snap a s", "snap 1 2", "clone 1 b",
		"clone 0 0", "drop 0", "drop 10", "drop 999999999", "destroy a", "destroy 01", "back b", "back back", "promote c", "promote \x00", "read a 5", "read N 0", "free", "sync", "crash", "new a\r", "new a\t\v"}
}

// wrongLines are none of the desk's.
func wrongLines() []string {
	out := []string{"", " ", "  ", "a", "N", "New a", "new", "new a b", "newa", "new\ta", "ne a", "news a", "free a", "free 1", "frees", "fre", "FREE", "sync 1", "crash a", "sync\r", "\tsync", "sync\t", "sync\x00",
		"write", "write a", "write a 0", "write a 0 x y", "write a x 0", "write 0 a x", "trim", "trim a", "trim a b", "trim 0 a", "trim a 0 0", "snap", "snap a", "snap a b c", "clone", "clone 1", "clone a 1", "clone 1 a b",
		"drop", "drop a", "drop 1 2", "destroy", "destroy a b", "back", "back a 1", "promote", "promote a b", "read", "read a", "read 0 a", "read a 0 0", "read a b", "turn a", "new NAME N", "\xff", "\ufeffsync", "\u00a0", "синк"}
	for _, n := range []string{"00", "01", "007", "1234567890", "0000000001", "99999999999999999999", "-1", "-0", "+1", "1.0", "1e3", "0x1", "1_0", "a", "1a", "a1", "\x00", "1\r", "\t1", "١", "１", "²", "N"} {
		out = append(out, "drop "+n, "trim a "+n, "read a "+n, "write a "+n+" x", "clone "+n+" b")
	}
	for _, line := range rightLines() {
		out = append(out, line+" ", " "+line, line+" 1 2 3")
		if strings.Contains(line, " ") {
			out = append(out, strings.Replace(line, " ", "  ", 1), strings.Replace(line, " ", "\t", 1), strings.Replace(line, " ", "", 1), line[:strings.LastIndex(line, " ")], line[strings.Index(line, " ")+1:])
		}
	}
	return out
}

// faultIn: a text of which that line is the first fault is refused with it, and tells nothing.
func faultIn(t *testing.T, what string, text string, line int64) {
	t.Helper()
	want := impl.DeskOut{Line: line, Code: impl.ErrSyntax}
	sameDesk(t, fmt.Sprintf("%s: %q", what, text), impl.DeskRun(text), want)
	sameDesk(t, fmt.Sprintf("%s: %q: fault", what, text), impl.DeskFault(text), want)
}

func TestDeskFaults(t *testing.T) {
	for _, line := range rightLines() {
		out := impl.DeskRun(line + "\n")
		same(t, fmt.Sprintf("%q", line), []any{out.Code, out.Line, strings.Count(out.Text, "\n"), strings.HasSuffix(out.Text, "\n")}, []any{impl.OK, 0, 1, true})
		sameDesk(t, fmt.Sprintf("%q: fault", line), impl.DeskFault(line+"\n"), impl.DeskOut{})
		faultIn(t, "without its line feed", line, 0)
		faultIn(t, "without its line feed, behind others", "new a\nsync\n"+line, 2)
	}
	for _, line := range wrongLines() {
		faultIn(t, "alone", line+"\n", 0)
		faultIn(t, "ahead of others", line+"\nsync\n", 0)
		faultIn(t, "behind one", "new a\n"+line+"\n", 1)
		faultIn(t, "the first of two", "new a\nsnap a s\ndrop 1\n"+line+"\nsync\n"+line+"\n", 3)
		faultIn(t, "ahead of one that lacks its line feed", "free\n"+line+"\nsync", 1)
	}
	same(t, "no line", []any{impl.DeskRun(""), impl.DeskFault("")}, []any{impl.DeskOut{}, impl.DeskOut{}})
	sameDesk(t, "refused is no fault", impl.DeskFault("drop 1\nnew A\n"), impl.DeskOut{})
}

func TestDeskTooManyLines(t *testing.T) {
	all := times(impl.MaxDesk, "free")
	sameDesk(t, "as many as there may be", impl.DeskRun(lined(all)), impl.DeskOut{Text: lined(times(impl.MaxDesk, "free 100"))})
	sameDesk(t, "as many as there may be: fault", impl.DeskFault(lined(all)), impl.DeskOut{})
	faultIn(t, "one too many", lined(all)+"free\n", impl.MaxDesk)
	faultIn(t, "many too many", lined(all)+lined(all), impl.MaxDesk)
	faultIn(t, "one too many, a wrong one", lined(all)+"x\n", impl.MaxDesk)
	faultIn(t, "one too many, an empty one", lined(all)+"\n", impl.MaxDesk)
	faultIn(t, "one too many, without its line feed", lined(all)+"free", impl.MaxDesk)
	faultIn(t, "a blank behind all", lined(all)+" ", impl.MaxDesk)
	faultIn(t, "the last one lacks its line feed", strings.TrimSuffix(lined(all), "\n"), impl.MaxDesk-1)
	all[impl.MaxDesk-1] = "x"
	faultIn(t, "the last one is wrong, and there are too many", lined(all)+"free\n", impl.MaxDesk-1)
	all[7] = "x"
	faultIn(t, "a wrong one is first", lined(all)+"free\n", 7)
	faultIn(t, "too many empty ones", strings.Repeat("\n", impl.MaxBytes), 0)
}

func TestDeskTooLong(t *testing.T) {
	wide := func(bytes int) string {
		return "new a\nwrite a 1 " + strings.Repeat("z", bytes-len("new a\nwrite a 1 \nread a 1\n")) + "\nread a 1\n"
	}
	sameDesk(t, "as long as it may be", impl.DeskRun(wide(impl.MaxBytes)), impl.DeskOut{Text: "ok\nok\npage zzzzzzzzzzzzzzzz\n"})
	sameDesk(t, "as long as it may be: fault", impl.DeskFault(wide(impl.MaxBytes)), impl.DeskOut{})
	faultIn(t, "as long as it may be, and wrong", wide(impl.MaxBytes-2)+"x\n", 3)
	long := strings.Repeat("é", impl.MaxBytes/2)
	faultIn(t, "bytes, not runes", long, 0)
	for _, text := range []string{wide(impl.MaxBytes + 1), long + "\n", "x\n" + long, strings.Repeat("\n", impl.MaxBytes+1), strings.Repeat("sync\n", impl.MaxBytes), strings.Repeat("a", 1<<20)} {
		same(t, "too long", []any{impl.DeskRun(text), impl.DeskFault(text)}, []any{impl.DeskOut{Code: impl.ErrSize}, impl.DeskOut{Code: impl.ErrSize}})
	}
}

func TestDeskWords(t *testing.T) {
	want := []string{"back", "clone", "crash", "destroy", "drop", "free", "new", "promote", "read", "snap", "sync", "trim", "write"}
	words := impl.DeskWords()
	same(t, "words", words, want)
	same(t, "rising", slices.IsSorted(words), true)
	words[0] = "x"
	same(t, "new memory", impl.DeskWords(), want)
	begun := map[string]bool{}
	for _, line := range rightLines() {
		begun[strings.Split(line, " ")[0]] = true
	}
	same(t, "a line begins with each, and with no other", slices.Sorted(maps.Keys(begun)), want)
}

// scribe writes a desk's lines at random, each with what it must tell. What is refused, and read, is told by a book of
// copies; how many slots are held, and free, by a store to which the same is done.
type scribe struct {
	*keeper
	t     *testing.T
	lines []string
	told  []string
}

func scribeOf(t *testing.T, seed uint64) *scribe {
	return &scribe{keeper: keeperOf(seed, deskSlots), t: t}
}

func (s *scribe) note(line string, told string) {
	s.lines, s.told = append(s.lines, line), append(s.told, told)
}

// deed is told with its code, or with ok, and what is told beside it.
func (s *scribe) deed(line string, out impl.WorldOut, code int64, beside ...int64) {
	s.t.Helper()
	same(s.t, line+": the code", out.Code, code)
	if code != impl.OK {
		s.note(line, fmt.Sprint("error ", code))
		return
	}
	s.s = mustStore(s.t, impl.StoreTurn(s.s, out.World))
	s.w = s.s.Live
	told := "ok"
	for _, n := range beside {
		told += fmt.Sprint(" ", n)
	}
	s.note(line, told)
}

func (s *scribe) read(name string, page int64) {
	told := "none"
	if v := s.b.sets[name]; v != nil && page < impl.MaxPages {
		told = "page " + strings.Repeat("-", impl.PageSize)
		if data, there := v.pages[page]; there {
			told = "page " + data
		}
	}
	s.note(fmt.Sprint("read ", name, " ", page), told)
}

func (s *scribe) write(name string, page int64) {
	s.writes++
	word := fmt.Sprintf("%d:%s", s.writes, strings.Repeat("é", s.pick(9)))
	data := (word + pageB)[:impl.PageSize]
	room := impl.PoolRoom(s.w.Pool)
	s.deed(fmt.Sprint("write ", name, " ", page, " ", word), impl.SetWrite(s.w, name, page, data), s.b.write(name, page, data, room))
}

func (s *scribe) drop(id int64) {
	s.t.Helper()
	out := impl.SnapDestroy(s.w, id)
	s.deed(fmt.Sprint("drop ", id), out, s.b.drop(id), out.Many)
}

func (s *scribe) destroy(name string) {
	s.t.Helper()
	out := impl.SetDestroy(s.w, name)
	s.deed("destroy "+name, out, s.b.destroy(name), out.Many)
}

func (s *scribe) clone(id int64, name string) {
	s.t.Helper()
	s.deed(fmt.Sprint("clone ", id, " ", name), impl.CloneNew(s.w, id, name), s.b.clone(id, name))
}

func (s *scribe) sync() {
	s.t.Helper()
	s.keeper.sync(s.t)
	s.w = s.s.Live
	s.note("sync", "ok")
}

func (s *scribe) crash() {
	s.t.Helper()
	s.keeper.crash(s.t)
	s.w = s.s.Live
	s.note("crash", "ok")
}

func (s *scribe) free() {
	s.note("free", fmt.Sprint("free ", impl.PoolRoom(s.w.Pool)))
}

// step writes one line.
func (s *scribe) step() {
	s.t.Helper()
	name, set, id, page := s.name(), s.setThere(), max(0, s.id()), int64(s.pick(11))
	if page == 10 {
		page = int64(s.pick(70))
	}
	switch n := s.pick(40); {
	case n < 4:
		s.deed("new "+name, impl.SetNew(s.w, name), s.b.add(name, &volume{pages: map[int64]string{}}))
	case n < 13:
		s.write(set, page)
	case n < 16:
		s.deed(fmt.Sprint("trim ", set, " ", page), impl.SetTrim(s.w, set, page), s.b.trim(set, page, impl.PoolRoom(s.w.Pool)))
	case n < 20:
		word, next := fmt.Sprint("s", s.pick(6)), s.b.next
		s.deed("snap "+set+" "+word, impl.SnapNew(s.w, set, word), s.b.snap(set, word), next)
	case n < 23:
		s.clone(id, name)
	case n < 25:
		s.drop(id)
	case n < 26:
		s.destroy(set)
	case n < 28:
		out := impl.Rollback(s.w, set)
		s.deed("back "+set, out, s.b.back(set), out.Many)
	case n < 30:
		s.promote(set)
	case n < 36:
		s.read(set, page)
	case n < 37:
		s.free()
	case n < 39:
		s.sync()
	default:
		s.crash()
	}
}

// promote asks the book for the Origin first, as that is D's then.
func (s *scribe) promote(name string) {
	s.t.Helper()
	origin := int64(0)
	if v := s.b.sets[name]; v != nil {
		origin = v.origin
	}
	s.deed("promote "+name, impl.Promote(s.w, name), s.b.promote(name), origin)
}

// run holds what the desk tells against what it must.
func (s *scribe) run(what string) {
	s.t.Helper()
	text := lined(s.lines)
	if len(s.lines) > impl.MaxDesk || len(text) > impl.MaxBytes {
		s.t.Fatalf("%s: too long", what)
	}
	sameDesk(s.t, fmt.Sprintf("%s: %q", what, text), impl.DeskRun(text), impl.DeskOut{Text: lined(s.told)})
	sameDesk(s.t, what+": fault", impl.DeskFault(text), impl.DeskOut{})
}

// Promise 14: each line of a desk tells a line, one by one: what is behind a line changes nothing of what it tells.
func TestPromise14(t *testing.T) {
	many := map[string]int{}
	for seed := range uint64(150) {
		s := scribeOf(t, 14000+seed)
		for range impl.MaxDesk {
			s.step()
		}
		s.run("whole")
		for _, k := range []int{0, 1, s.pick(impl.MaxDesk), impl.MaxDesk - 1} {
			sameDesk(t, "one by one", impl.DeskRun(lined(s.lines[:k])), impl.DeskOut{Text: lined(s.told[:k])})
		}
		for i, line := range s.lines {
			many[strings.Split(line, " ")[0]+" "+s.told[i][:2]]++
		}
		if t.Failed() {
			t.Fatalf("of the seed %d", seed)
		}
	}
	for _, what := range []string{"new ok", "new er", "write ok", "write er", "trim ok", "trim er", "snap ok", "snap er", "clone ok", "clone er", "drop ok", "drop er", "destroy ok", "destroy er",
		"back ok", "back er", "promote ok", "promote er", "read pa", "read no", "free fr", "sync ok", "crash ok"} {
		if many[what] < 5 {
			t.Errorf("too few: %s, %d", what, many[what])
		}
	}
}

// needed is how many lines are needed to read a snapshot, and to drop all.
func (s *scribe) needed() int {
	return 3 + len(s.b.sets) + len(s.b.snaps) + 2
}

// readSnap reads a snapshot by a clone, of which nothing is left.
func (s *scribe) readSnap() {
	s.t.Helper()
	ids := slices.Sorted(maps.Keys(s.b.snaps))
	if len(ids) == 0 || len(s.b.sets) == impl.MaxSets {
		return
	}
	id := ids[s.pick(len(ids))]
	pages := append(slices.Sorted(maps.Keys(s.b.snaps[id].pages)), int64(s.pick(impl.MaxPages)))
	s.clone(id, "copy")
	s.read("copy", pages[s.pick(len(pages))])
	s.destroy("copy")
}

// dropAll: the last snapshot has just its own set as the next one, once the sets without any are destroyed.
func (s *scribe) dropAll() {
	s.t.Helper()
	for len(s.b.sets) > 0 {
		for _, name := range slices.Sorted(maps.Keys(s.b.sets)) {
			if !s.b.hasSnap(name, "") {
				s.destroy(name)
			}
		}
		if len(s.b.snaps) > 0 {
			s.drop(slices.Max(slices.Collect(maps.Keys(s.b.snaps))))
		}
	}
}

// Promise 15: volumes, snapshots and clones are read as they were put; when all is dropped and synced, all slots are free.
func TestPromise15(t *testing.T) {
	many := map[string]int{}
	for seed := range uint64(300) {
		s := scribeOf(t, 15000+seed)
		for range 5 + s.pick(40) {
			if len(s.lines)+s.needed()+2 < impl.MaxDesk {
				s.step()
			}
		}
		many["sets"] += len(s.b.sets)
		many["snaps"] += len(s.b.snaps)
		many["held"] += len(s.w.Pool.Held)
		s.readSnap()
		if len(s.lines) > 0 && strings.HasSuffix(s.lines[len(s.lines)-1], " copy") {
			many["pages of snapshots"] += 1 - strings.Count(s.told[len(s.told)-2], strings.Repeat("-", impl.PageSize))
		}
		s.dropAll()
		s.sync()
		s.note("free", fmt.Sprint("free ", deskSlots))
		s.run("all is dropped")
		if t.Failed() {
			t.Fatalf("of the seed %d", seed)
		}
	}
	for _, what := range []string{"sets", "snaps", "held", "pages of snapshots"} {
		if many[what] < 25 {
			t.Errorf("too few: %s, %d", what, many[what])
		}
	}
}

// All 64 pages of a set, written and read by a desk each.
func TestPromise15EachPage(t *testing.T) {
	for n := range impl.MaxPages {
		page := fmt.Sprint(n)
		data := (page + pageB)[:impl.PageSize]
		dialogue(t, "page "+page, "new a > ok", "write a "+page+" "+page+" > ok", "snap a s > ok 1", "write a "+page+" x > ok", "clone 1 b > ok", "read b "+page+" > page "+data,
			"read a "+page+" > page x...............", fmt.Sprintf("read a %d > page ----------------", (n+1)%impl.MaxPages), fmt.Sprintf("read b %d > page ----------------", (n+8)%impl.MaxPages),
			"back a > ok 3", "read a "+page+" > page "+data, "destroy b > ok 0", "drop 1 > ok 0", "destroy a > ok 3", "sync > ok", "free > free 100")
	}
}

// deskLine is the table of the chapter as a pattern, where W is any word, and N a number.
func deskLine() *regexp.Regexp {
	const table = `^((new|destroy|back|promote) W|write W N W|(trim|read) W N|snap W W|clone N W|drop N|free|sync|crash)$`
	return regexp.MustCompile(strings.NewReplacer("W", `[^ \n]+`, "N", `(0|[1-9][0-9]{0,8})`).Replace(table))
}

// firstFault is the first line that is wrong, or lacks its line feed, or is one too many; -1, if there is none.
func firstFault(text string) int {
	right := deskLine()
	lines := strings.SplitAfter(text, "\n")
	for i, line := range lines {
		body, ended := strings.CutSuffix(line, "\n")
		if line == "" && i == len(lines)-1 {
			return -1
		}
		if !ended || !right.MatchString(body) || i >= impl.MaxDesk {
			return i
		}
	}
	return -1
}

// spoilt is a desk's text in which some bytes were put in, left out or changed.
func (s *scribe) spoilt(text string) string {
	const bytes = " \n0129anN\x00\xff\xc3\xa9\t\r."
	for range s.pick(4) {
		at := s.pick(len(text) + 1)
		put := bytes[s.pick(len(bytes)):][:1]
		switch s.pick(3) {
		case 0:
			text = text[:at] + put + text[at:]
		case 1:
			text = text[:at] + put + text[min(at+1, len(text)):]
		default:
			text = text[:at] + text[min(at+1, len(text)):]
		}
	}
	return text
}

// Whatever a text is, its first fault is told, or each of its lines tells one.
func TestDeskFaultsAtRandom(t *testing.T) {
	many := map[bool]int{}
	for seed := range uint64(25) {
		s := scribeOf(t, 16000+seed)
		for range 5 + s.pick(55) {
			s.step()
		}
		for range 30 {
			text := s.spoilt(lined(s.lines))
			fault := firstFault(text)
			many[fault < 0]++
			if fault >= 0 {
				faultIn(t, "spoilt", text, int64(fault))
				continue
			}
			out := impl.DeskRun(text)
			same(t, "a line each", []any{out.Code, out.Line, strings.Count(out.Text, "\n")}, []any{impl.OK, 0, strings.Count(text, "\n")})
			sameDesk(t, "no fault", impl.DeskFault(text), impl.DeskOut{})
		}
		if t.Failed() {
			t.Fatalf("of the seed %d", seed)
		}
	}
	if many[true] < 100 || many[false] < 100 {
		t.Errorf("too few: %v", many)
	}
}

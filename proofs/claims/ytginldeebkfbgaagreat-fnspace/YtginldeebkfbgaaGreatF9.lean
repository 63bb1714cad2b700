/- A part of the proof. -/
import Derived.Test.YtginldeebkfbgaaGreatF8
import Derived.Laws.CopyOwn
import Derived.Deep.RegionLaw
import Derived.Deep.WholeRow
set_option linter.unusedVariables false
set_option maxRecDepth 20000
set_option maxHeartbeats 4000000
namespace Go.Proofs.YtginldeebkfbgaaGreat
open Go.RowKit
set_option linter.unusedSimpArgs false
def ptrsT(ks kb:Nat->Int):Nat->Nat->Tr:=fun i c=>match c with
 | 0=>.v (.int .i64 (ks i))
 | 1=>.v (.int .i64 (kb i))
 | _=>.v (.bool false)
def zY(fl:Fl)(s:Nat->zN):Nat->Nat->Tr:=fun i c=>match c with
 | 0=>.v (.int .i64 (s i).birth)
 | 1=>.s fl 2 (s i).kn (ptrsT (s i).ks (s i).kb)
 | _=>.v (.string (s i).data)
theorem yB{ks kb:Nat->Int}{i:Nat}:ptrsT ks kb i 0 = .v (.int .i64 (ks i)):=rfl
theorem yC{ks kb:Nat->Int}{i:Nat}:ptrsT ks kb i 1 = .v (.int .i64 (kb i)):=rfl
theorem qR{fl:Fl}{s:Nat->zN}{i:Nat}:zY fl s i 0 = .v (.int .i64 (s i).birth):=rfl
theorem qS{fl:Fl}{s:Nat->zN}{i:Nat}:zY fl s i 1 = .s fl 2 (s i).kn (ptrsT (s i).ks (s i).kb):=rfl
theorem qT{fl:Fl}{s:Nat->zN}{i:Nat}:zY fl s i 2 = .v (.string (s i).data):=rfl
theorem yz{x:Value}:(Tr.v x).lend = .v x:=rfl
theorem zq{fl:Fl}{k n:Nat}{h:Nat->Int}:(Tr.s fl k n (qf h)).lend = .s .b k n (qf h):=rfl
theorem zb{fl:Fl}{k n:Nat}{f g:Nat->Int}:(Tr.s fl k n (ptrsT f g)).lend = .s .b k n (ptrsT f g):=by
 simp only[Tr.lend];congr 1;funext i c
 match c with
 | 0=>rfl
 | 1=>rfl
 | c+2=>rfl
def zJC(f:Nat->Int)(a:Nat)(x:Int):Nat->Int:=fun i=>if i=a then x else f i
theorem yd{f g:Nat->Int}{a:Nat}{x y:Int}:qn (ptrsT f g) a 0 [.v (.int .i64 x),.v (.int .i64 y)]=ptrsT (zJC f a x) (zJC g a y):=by
 funext i c;by_cases h:i=a
 ·subst h
  match c with
  | 0=>simp[qn,ptrsT,zJC]
  | 1=>simp[qn,ptrsT,zJC]
  | c+2=>simp[qn,ptrsT]
 ·match c with
  | 0=>simp[qn,ptrsT,zJC,h]
  | 1=>simp[qn,ptrsT,zJC,h]
  | c+2=>simp[qn,ptrsT,h]
theorem zX{fl aA:Fl}{k n:Nat}{s:Nat->zN}:(Tr.s fl k n (zY aA s)).lend = .s .b k n (zY .b s):=by
 simp only[Tr.lend];congr 1;funext i c
 match c with
 | 0=>rfl
 | 1=>exact zb
 | c+2=>rfl
theorem zG{f:Nat}{fn:Func}{b:Code}(h:Tryz.prog.funcs[f]?=some fn)(hb:fn.body=some b)(hn:(fn.name == "runtime.NumGoroutine")=false):zA9 Tryz.prog f:=fun args w=>by
 simp only[beq_eq_false_iff_ne,ne_eq]at hn;simp[callFunc,h,hb,hn]
def zDJ:Tr->ByteArray
 | .v (.string x)=>x
 | _=>⟨#[]⟩
abbrev iT(x:Int):Bool×List Tr:=(false,[.v (.int .i64 x)])
abbrev pT(a b:Int):Bool×List Tr:=(true,[.v (.int .i64 a),.v (.int .i64 b)])
abbrev slT(s:zN):Bool×List Tr:=(true,[.v (.int .i64 s.birth),.s .b 2 s.kn (ptrsT s.ks s.kb),.v (.string s.data)])
abbrev poT(n:Nat)(s:Nat->zN)(hn:Nat)(h:Nat->Int):Bool×List Tr:=(true,[.s .b 3 n (zY .b s),.s .b 1 hn (qf h)])
noncomputable abbrev bR (p:Prop):List (Bool×List Tr):=[(false,[.v (.bool (dB p))])]
def zNc(a b c:Tr):zN:=⟨qC a,zEu b,fun i=>qC (zCA b i 0),fun i=>qC (zCA b i 1),zDJ c⟩
def zEi(a b:Tr):zF:=⟨zEu a,fun i=>zNc (zCA a i 0) (zCA a i 1) (zCA a i 2),zEu b,fun i=>qC (zCA b i 0)⟩
attribute [local go_sem] qX List.map_cons List.map_nil Tr.cv yq qK yA qz yp yo yn qy zBE zBG zBF zBB zBD zBC zCa zCc zCb qP zr qQ zt qI qH qU zAA zo zp yE qO tmpsOf zAo yD qN zBA yw yu yr yx yv stpP opds opd opdC kap zAB qJ zn coreU bin zAe zCK get put dlO fgt zBR zBK zBO zBP tyT yk yj Op.operands Call.operands evLoad evLen evStore evAlloc zAj and_true true_and List.append_nil List.nil_append List.cons_append Ret resCv zB3 yV cellM zBh zCE qV StW StR hpT hpO hpV hpA hpL hpC sg nin zCU bdO tmW obW AvE CsE CvE Av.tup Av.ids Cv.ids inD ObE Ob.ids TrE.refl qM yB yC qR qS qT zq zb zX yz zBa zCL zBH evCall argL argOf qZ outOb obO yM qA cvO tot Tr.own rid partsOf fillC zS zBf frz frz1 evBuildSlice zc trs Cv.tr evSlice Option.toArray_none Option.toArray_some evMakeSlice evAppend dstOf srcOf zA3 zBQ zBN zBL zBM ikT qx qw qv qu RetP RetN zBr qD evLd evSt evStoreH zAh evAppendM evAppendT tlOf mvOf rowE shp evTake oOf evC evCallP evCallN evCallO unlast zAO zA1 zAa argsF zCR qg pmC varT vT evField evConv dB0 Option.bind_some Option.bind_none Option.map_some Option.map_none Option.isSome_some Option.isSome_none
noncomputable def mIs:zR:=qE (fun q:Int×Int×Int=>[iT q.1,iT q.2.1,iT q.2.2]) (fun _=>True) (fun q=>bR (q.2.1<=q.1/\q.1<=q.2.2))
theorem zL3(x a b:Int):mIs [iT x,iT a,iT b]=some (True,bR (a<=x/\x<=b)):=zK (fun l=>(qC (nth l 0 0),qC (nth l 1 0),qC (nth l 2 0))) (fun _=>rfl) (x,a,b)
theorem zGy:zd Tryz.prog 74 mIs:=by
 refine zP zl GOk.nil zk Tryz.func74 rfl Tryz.ntmps74 Tryz.results74 7 ?_;rintro⟨x,a,b⟩ -;refine⟨by simp,?_⟩;simp[go_sem]
noncomputable def zWc:zR:=qE (fun q:Int=>[iT q]) (fun _=>True) (fun q=>bR (zBT q))
theorem zJb(x:Int):zWc [iT x]=some (True,bR (zBT x)):=zK (fun l=>qC (nth l 0 0)) (fun _=>rfl) x
theorem zGx:zd Tryz.prog 110 zWc:=by
 refine zP zl (GOk.cons zGy (zG Tryz.func74 rfl rfl) GOk.nil) zk Tryz.func110 rfl Tryz.ntmps110 Tryz.results110 3 ?_;rintro x -;refine⟨by simp,?_⟩;simp[go_sem,zL3,zBT]
noncomputable def za7:zR:=qE (fun q:Nat×(Nat->Int)×Int=>[(false,[.s .b 1 q.1 (qf q.2.1)]),iT q.2.2]) (fun q=>q.1<=1000000) (fun q=>bR (Has q.1 q.2.1 q.2.2))
theorem zHU(n:Nat)(h:Nat->Int)(x:Int):za7 [(false,[.s .b 1 n (qf h)]),iT x]=some (n<=1000000,bR (Has n h x)):=zK (fun l=>(zEu (nth l 0 0),fun i=>qC (zCA (nth l 0 0) i 0),qC (nth l 1 0))) (fun _=>rfl) (n,h,x)
theorem zFX:zd Tryz.prog 42 za7:=by
 refine zP zl GOk.nil zk Tryz.func42 rfl Tryz.ntmps42 Tryz.results42 6 ?_;rintro⟨n,h,x⟩ hn;replace hn:n<=1000000:=hn;refine⟨by simp,?_⟩;simp[go_sem];refine qY (fun k:Nat=>⟨[(0,true,.m false [.s .b 1 n (qf h)]),(1,true,.i x),(5,true,.i k)],[]⟩) (fun k=>n - k) (fun k=>k<=n/\∀i,i<k->h i≠x) 0 (by simp[go_sem]) (by simp) ?_;rintro k ⟨hk,aA⟩;simp[go_sem,ze (show k<=1000000000 by omega)];refine⟨fun hl=>⟨hl,fun e=>⟨k,hl,e⟩,fun e=>⟨k+1,⟨by omega,qi hl aA e⟩,by omega,rfl⟩⟩,fun hl ⟨j,h1,h2⟩=>aA j (by omega) h2⟩
noncomputable def zZg:zR:=qE (fun s:zN=>[slT s]) (fun _=>True) (fun s=>bR (yZ s))
theorem zG4(s:zN):zZg [slT s]=some (True,bR (yZ s)):=zK (fun l=>zNc (nth l 0 0) (nth l 0 1) (nth l 0 2)) (fun _=>rfl) s
theorem zGD:zd Tryz.prog 41 zZg:=by
 refine zP zl GOk.nil zk Tryz.func41 rfl Tryz.ntmps41 Tryz.results41 3 ?_;rintro s -;refine⟨by simp,?_⟩;simp[go_sem,yZ,and_assoc]
noncomputable def zZl:zR:=qE (fun q:Int×Int=>[pT q.1 q.2]) (fun _=>True) (fun q=>bR (q.1=0/\q.2=0))
theorem zCM(a b:Int):zZl [pT a b]=some (True,bR (a=0/\b=0)):=zK (fun l=>(qC (nth l 0 0),qC (nth l 0 1))) (fun _=>rfl) (a,b)
theorem zDA:zd Tryz.prog 25 zZl:=by
 refine zP zl GOk.nil zk Tryz.func25 rfl Tryz.ntmps25 Tryz.results25 3 ?_;rintro⟨a,b⟩ -;refine⟨by simp,?_⟩;simp[go_sem]
noncomputable def zTf:zR:=qE (fun q:zF×Int×Int=>[poT q.1.n q.1.s q.1.hn q.1.h,pT q.2.1 q.2.2]) (fun q=>q.1.n<=1000000) (fun q=>bR (yF q.1 q.2.1 q.2.2))
theorem zIC(p:zF)(a b:Int):zTf [poT p.n p.s p.hn p.h,pT a b]=some (p.n<=1000000,bR (yF p a b)):=zK (fun l=>(zEi (nth l 0 0) (nth l 0 1),qC (nth l 1 0),qC (nth l 1 1))) (fun _=>rfl) (p,a,b)
theorem zGE:zd Tryz.prog 111 zTf:=by
 refine zP zl GOk.nil zk Tryz.func111 rfl Tryz.ntmps111 Tryz.results111 5 ?_;rintro⟨p,a,b⟩ hn;replace hn:p.n<=1000000:=hn;refine⟨by simp,?_⟩;simp[go_sem];exact⟨fun _ h1 h2=>⟨h1,h2⟩,by kernel_rfl,by unfold yF;omega⟩
noncomputable def zZf:zR:=qE (fun q:zF×zN=>[poT q.1.n q.1.s q.1.hn q.1.h,slT q.2]) (fun q=>q.1.n<=1000000) (fun q=>bR (zDL q.1 q.2))
theorem zWh(p:zF)(s:zN):zZf [poT p.n p.s p.hn p.h,slT s]=some (p.n<=1000000,bR (zDL p s)):=zK (fun l=>(zEi (nth l 0 0) (nth l 0 1),zNc (nth l 1 0) (nth l 1 1) (nth l 1 2))) (fun _=>rfl) (p,s)
theorem zSP:zd Tryz.prog 73 zZf:=by
 refine zP zl (GOk.cons zGx (zG Tryz.func110 rfl rfl) (GOk.cons zDA (zG Tryz.func25 rfl rfl) (GOk.cons zGE (zG Tryz.func111 rfl rfl) GOk.nil))) zk Tryz.func73 rfl Tryz.ntmps73 Tryz.results73 7 ?_;rintro⟨p,s⟩ hn;replace hn:p.n<=1000000:=hn;refine⟨by simp,?_⟩;simp[go_sem,zJb];refine⟨fun hb h=>hb h.1,fun hb=>⟨fun h0=>?_,fun h0=>⟨fun h1 h=>?_,fun h8 hd=>?_⟩⟩⟩
 ·unfold zDL;constructor
  ·exact fun h=>⟨hb,.inl ⟨h0,by omega⟩⟩
  ·rintro⟨-,h | h⟩<;>omega
 ·rcases h.2 with h | h
  ·omega
  ·rcases h1 with h1 | h1
   ·omega
   ·exact h1 (by simpa using h.2.1)
 refine qY (fun k:Nat=>⟨[(2,true,.m false [.p 2 0]),(3,true,.m false [.p 3 0]),(5,true,.i k)],[(2,.var [.s .b 3 p.n (zY .b p.s),.s .b 1 p.hn (qf p.h)]),(3,.var [.v (.int .i64 s.birth),.s .b 2 s.kn (ptrsT s.ks s.kb),.v (.string s.data)])]⟩) (fun k=>s.kn - k) (fun k=>k<=s.kn/\∀i,i<k->zS5 p s.birth (s.ks i) (s.kb i)) 0 (by simp[go_sem]) (by simp) ?_;rintro k ⟨hk,aA⟩;simp[go_sem,ze (show k<=1000000000 by omega),zCM,zIC,hn];refine⟨fun hl=>⟨hl,fun h1 h2=>⟨h1,h2⟩,fun h1 h2 h=>?_,fun h1=>⟨k+1,⟨by omega,qi hl aA ?_⟩,by omega,rfl⟩⟩,fun hl=>⟨hb,.inr ⟨by omega,by simp[hd],fun i hi=>aA i (by omega)⟩⟩⟩
 ·rcases h.2 with h | h
  ·omega
  ·rcases h.2.2 k hl with h3 | h3
   ·exact h1 h3.1 h3.2
   ·rcases h2 with h2 | h2
    ·exact h2 h3.1
    ·omega
 ·by_cases h2:s.ks k=0/\s.kb k=0
  ·exact .inl h2
  ·exact .inr (h1 (fun e e'=>h2 ⟨e,e'⟩))
noncomputable def zSc:zR:=qE (fun p:zF=>[poT p.n p.s p.hn p.h]) (fun p=>p.n<=1000000/\p.hn<=1000000) (fun p=>bR (zf p))
theorem zHV(p:zF):zSc [poT p.n p.s p.hn p.h]=some (p.n<=1000000/\p.hn<=1000000,bR (zf p)):=zK (fun l=>zEi (nth l 0 0) (nth l 0 1)) (fun _=>rfl) p
theorem zEM:zd Tryz.prog 35 zSc:=by
 refine zP zl (GOk.cons zGD (zG Tryz.func41 rfl rfl) (GOk.cons zFX (zG Tryz.func42 rfl rfl) (GOk.cons zSP (zG Tryz.func73 rfl rfl) GOk.nil))) zk Tryz.func35 rfl Tryz.ntmps35 Tryz.results35 6 ?_;rintro p ⟨hn,hm⟩;refine⟨by simp,?_⟩;simp[go_sem];refine⟨fun h1 h=>?_,fun h1=>?_⟩
 ·have:=h.1;omega
 refine qY (fun k:Nat=>⟨[(1,true,.m false [.p 1 0]),(3,true,.i k)],[(1,.var [.s .b 3 p.n (zY .b p.s),.s .b 1 p.hn (qf p.h)])]⟩) (fun k=>p.n - k) (fun k=>k<=p.n/\∀i,i<k->yZ (p.s i)\/zDL p (p.s i)) 0 (by simp[go_sem]) (by simp) ?_;rintro k ⟨hk,bA⟩;simp[go_sem,ze (show k<=1000000000 by omega),zG4,zWh,hn];refine⟨fun hl=>⟨hl,fun _=>hl,by kernel_rfl,?_⟩,fun hl=>?_⟩
 ·exact⟨fun h2 h3 h=>(h.2.1 k hl).elim h2 h3,fun h=>⟨k+1,⟨by omega,qi hl bA (Classical.or_iff_not_imp_left.2 h)⟩,by omega,rfl⟩⟩
 refine qY (fun j:Nat=>⟨[(4,true,.i j),(1,true,.m false [.p 1 0])],[(1,.var [.s .b 3 p.n (zY .b p.s),.s .b 1 p.hn (qf p.h)])]⟩) (fun j=>p.hn - j) (fun j=>j<=p.hn/\∀i,i<j->zVg p i) 0 (by simp[go_sem]) (by simp) ?_;rintro j ⟨hj,aA⟩;simp[go_sem,ze (show j<=1000000000 by omega),zG4,zHU,hm];refine⟨fun hl=>⟨hl,fun _ _ _=>hj,fun _ _ _=>by omega,fun h2 h=>?_,fun h2 h3 h4 h5=>⟨j+1,⟨by omega,qi hl aA ⟨h2,h3,h4,h5⟩⟩,by omega,rfl⟩⟩,fun hl=>⟨by omega,fun i hi=>bA i (by omega),fun i hi=>aA i (by omega)⟩⟩;obtain⟨g1,g2,g3,g4⟩:=h.2.2 j hl;rcases h2 with(h2 | h2) | h2
 ·omega
 ·exact g3 h2
 ·exact g4 h2
structure yh (S:Nat->Prop) (w w':World):Prop where
 os:w'.os=w.os
 tape:w'.tape=w.tape
 output:w'.output=w.output
 size:w.heap.size<=w'.heap.size
 block:∀k,k<w.heap.size->¬S k->w'.heap[k]?=w.heap[k]?
theorem yh.refl(S:Nat->Prop)(w:World):yh S w w:=⟨rfl,rfl,rfl,Nat.le_refl _,fun _ _ _=>rfl⟩
theorem yh.trans{S:Nat->Prop}{a b c:World}(h:yh S a b)(k:yh S b c):yh S a c:=
 ⟨k.os.trans h.os,k.tape.trans h.tape,k.output.trans h.output,Nat.le_trans h.size k.size,fun i hi hs=>(k.block i (Nat.lt_of_lt_of_le hi h.size) hs).trans (h.block i hi hs)⟩
theorem yh.zbd{S:Nat->Prop}{w w':World}(h:yh S w w'){B:Nat}(hB:B<=w.heap.size)(hs:∀k,S k->B<=k):Below B w w':=
 ⟨h.os,h.tape,h.output,h.size,fun k hk=>h.block k (by omega) (fun x=>by have:=hs k x;omega)⟩
theorem yh.setCell{S:Nat->Prop}{w w':World}(h:yh S w w'){p:Addr}(hp:S p.block)(u:Value):yh S w (w'.setCell p u):=
 h.trans ⟨rfl,rfl,rfl,by simp,fun k _ hs=>Below.heap_setCell _ _ _ _ (fun e=>hs (e▸hp))⟩
theorem yh.put(w:World)(b o:Nat)(u:Value):yh (fun k=>k=b) w (w.setCell ⟨b,o,none⟩ u):=
 (yh.refl (fun k=>k=b) w).setCell (p:=⟨b,o,none⟩) rfl u
theorem yh.cell{S:Nat->Prop}{w w':World}(h:yh S w w'){b o:Nat}(hb:b<w.heap.size)(hs:¬S b):w'.cell? ⟨b,o,none⟩=w.cell? ⟨b,o,none⟩:=
 World.cell?_of_block (w:=w) (h.block b hb hs)
theorem yh.frozen{S:Nat->Prop}{w w':World}(h:yh S w w'){b o:Nat}(hb:b<w.heap.size)(hs:¬S b):w'.frozen? ⟨b,o,none⟩=w.frozen? ⟨b,o,none⟩:=
 World.frozen?_of_block (w:=w) (h.block b hb hs)
def yT(w:World)(b o:Nat)(v:Value):Prop:=w.cell? ⟨b,o,none⟩=some v/\w.frozen? ⟨b,o,none⟩=false
theorem yT.lt{w:World}{b o:Nat}{v:Value}(h:yT w b o v):b<w.heap.size:=zO h.1
theorem yT.turned{S:Nat->Prop}{w w':World}{b o:Nat}{v:Value}(h:yT w b o v)(t:yh S w w')(hs:¬S b):yT w' b o v:=
 ⟨(t.cell h.lt hs).trans h.1,(t.frozen h.lt hs).trans h.2⟩
theorem yT.zbd{w w':World}{b o:Nat}{v:Value}(h:yT w b o v)(t:Below w.heap.size w w'):yT w' b o v:=
 ⟨(t.cell h.lt).trans h.1,(t.frozen h.lt).trans h.2⟩
theorem yT.set{w:World}{b o:Nat}{v:Value}(h:yT w b o v)(u:Value):yT (w.setCell ⟨b,o,none⟩ u) b o u:=
 ⟨World.cell?_setCell_same' _ _ _ (by rw[h.1];rfl),by rw[World.frozen?_setCell];exact h.2⟩
theorem yT.other{w:World}{b o:Nat}{v:Value}(h:yT w b o v){b' o':Nat}(u:Value)(aA:b'≠b\/o'≠o):yT (w.setCell ⟨b',o',none⟩ u) b o v:=by
 refine⟨?_,by rw[World.frozen?_setCell];exact h.2⟩;rw[World.cell?_setCell_other]
 ·exact h.1
 ·intro e;simp only[Addr.mk.injEq]at e;rcases aA with h | h
  ·exact h e.1
  ·exact h e.2.1
def zbX(w:World)(b:Nat)(a:Option Addr)(n cap:Nat):Prop:=n<cap->0<n/\a=some ⟨b,0,none⟩/\cap<=maxLen/\∃cur,w.heap[b]?=some (.cells cur 2 (0,0))/\cur.size=cap
def zS4(w:World)(b:Nat)(v:Value)(n:Nat)(f:Nat->Int):Prop:=
 n<=maxLen/\∃a cap,v = .slice a n cap/\n<=cap/\(0<n->∃off,a=some ⟨b,off,none⟩/\∀i,i<n->yT w b (off+i) (.int .i64 (f i)))/\zbX w b a n cap
def zOb(w:World)(b:Nat)(v:Value)(n:Nat)(fs fb:Nat->Int):Prop:=
 n<=maxLen/\∃a cap,v = .slice a n cap/\n<=cap/\(0<n->∃off,a=some ⟨b,off,none⟩/\∀i,i<n->yT w b (off+i*2) (.int .i64 (fs i))/\yT w b (off+i*2+1) (.int .i64 (fb i)))
theorem zOb.at{w:World}{b:Nat}{v:Value}{n:Nat}{f g:Nat->Int}(h:zOb w b v n f g){lo hi:Nat}(hb:0<n->lo<=b/\b<hi):qk w lo hi v n f g:=by
 obtain⟨h0,a,cap,hv,aA,hc⟩:=h;refine⟨h0,a,cap,hv,aA,fun hn=>?_⟩;obtain⟨off,ha,h3⟩:=hc hn;exact⟨b,off,ha,(hb hn).1,(hb hn).2,fun i hi=>⟨(h3 i hi).1.1,(h3 i hi).2.1⟩⟩
def yG(w:World)(b:Nat)(v0 v1:Value):Prop:=yT w b 0 v0/\yT w b 1 v1
theorem yG.zbd{w w':World}{b:Nat}{v0 v1:Value}(h:yG w b v0 v1)(t:Below w.heap.size w w'):yG w' b v0 v1:=⟨h.1.zbd t,h.2.zbd t⟩
theorem yG.new(w:World)(v0 v1:Value)(t:TypeId):yG (w.alloc (.cells #[v0,v1] t)) w.heap.size v0 v1:=
 ⟨⟨by rw[World.cell?_alloc_at (hn:=rfl)];rfl,by rw[World.frozen?_alloc_at (hn:=rfl)]⟩,⟨by rw[World.cell?_alloc_at (hn:=rfl)];rfl,by rw[World.frozen?_alloc_at (hn:=rfl)]⟩⟩
def zEt(w:World)(b:Nat)(v0 v1 v2:Value):Prop:=yT w b 0 v0/\yT w b 1 v1/\yT w b 2 v2
theorem zEt.zbd{w w':World}{b:Nat}{v0 v1 v2:Value}(h:zEt w b v0 v1 v2)(t:Below w.heap.size w w'):zEt w' b v0 v1 v2:=⟨h.1.zbd t,h.2.1.zbd t,h.2.2.zbd t⟩
theorem zEt.new(w:World)(v0 v1 v2:Value)(t:TypeId):zEt (w.alloc (.cells #[v0,v1,v2] t)) w.heap.size v0 v1 v2:=
 ⟨⟨by rw[World.cell?_alloc_at (hn:=rfl)];rfl,by rw[World.frozen?_alloc_at (hn:=rfl)]⟩,⟨by rw[World.cell?_alloc_at (hn:=rfl)];rfl,by rw[World.frozen?_alloc_at (hn:=rfl)]⟩,⟨by rw[World.cell?_alloc_at (hn:=rfl)];rfl,by rw[World.frozen?_alloc_at (hn:=rfl)]⟩⟩
theorem zEt.put{w:World}{b:Nat}{v0 v1 v2:Value}(h:zEt w b v0 v1 v2)(u0 u1 u2:Value):zEt (((w.setCell ⟨b,0,none⟩ u0).setCell ⟨b,1,none⟩ u1).setCell ⟨b,2,none⟩ u2) b u0 u1 u2:=
 ⟨((h.1.set u0).other _ (Or.inr (by omega))).other _ (Or.inr (by omega)),((h.2.1.other _ (Or.inr (by omega))).set u1).other _ (Or.inr (by omega)),((h.2.2.other _ (Or.inr (by omega))).other _ (Or.inr (by omega))).set u2⟩
theorem yG.put{w:World}{b:Nat}{v0 v1:Value}(h:yG w b v0 v1)(u0 u1:Value):yG ((w.setCell ⟨b,0,none⟩ u0).setCell ⟨b,1,none⟩ u1) b u0 u1:=
 ⟨(h.1.set u0).other _ (Or.inr (by omega)),(h.2.other _ (Or.inr (by omega))).set u1⟩
theorem zEt.other{w:World}{b:Nat}{v0 v1 v2:Value}(h:zEt w b v0 v1 v2){b' o':Nat}(u:Value)(aA:b'≠b):zEt (w.setCell ⟨b',o',none⟩ u) b v0 v1 v2:=
 ⟨h.1.other u (Or.inl aA),h.2.1.other u (Or.inl aA),h.2.2.other u (Or.inl aA)⟩
theorem zD(w:World)(o:Obj):Below w.heap.size w (w.alloc o):=(Below.refl _ _).alloc (Nat.le_refl _) o
theorem zL{w:World}{b i:Nat}{cs:Array Value}{t:TypeId}{v:Value}(h:w.heap[b]?=some (.cells cs t))(hi:cs[i]?=some v):yT w b i v:=by
 refine⟨?_,?_⟩
 ·simp[World.cell?,h,hi]
 ·simp[World.frozen?,h]
theorem zGW{w:World}{b o:Nat}{cs:Array Value}{t:TypeId}(v:Value)(h:w.heap[b]?=some (.cells cs t)):(w.setCell ⟨b,o,none⟩ v).heap[b]?=some (.cells (cs.setIfInBounds o v) t):=by
 simp[World.setCell,Array.getElem?_modify,h]
theorem qo{w:World}{base e size:Nat}{v:Value}{n:Nat}{xs:List Value}(h:w.ownsRow base e size v n xs):∃a cap,v = .slice a n cap/\n<=cap:=by
 obtain⟨_,⟨h,rfl⟩ | ⟨g,cap,bA,hv,_,_,aA,_⟩⟩:=h
 ·exact⟨none,0,h,Nat.le_refl _⟩
 ·exact⟨_,cap,hv,aA⟩
theorem zFf{w:World}{base e size:Nat}{v:Value}{n:Nat}{xs:List Value}(h:w.ownsRow base e size v n xs)(hn:0<n) :
  ∃g cap,v = .slice (some ⟨g,0,none⟩) n cap/\n<=cap/\base<=g/\g<w.heap.size/\∀j u,xs[j]?=some u->yT w g j u:=by
 obtain⟨_,⟨h,rfl⟩ | ⟨g,cap,bA,hv,hb,hg,h1,h2,h3,h4⟩⟩:=h
 ·omega
 ·refine⟨g,cap,hv,h1,hb,?_,fun j u hj=>?_⟩
  ·by_cases cA:g<w.heap.size
   ·exact cA
   ·rw[Array.getElem?_eq_none (by omega)]at hg;simp at hg
  ·refine⟨?_,?_⟩
   ·simp only[World.cell?,hg];have aA:(bA.toList.take (n*size))[j]?=some u:=(by rw[h4];exact hj);rw[List.getElem?_take]at aA;split at aA
    ·simpa using aA
    ·simp at aA
   ·simp only[World.frozen?,hg];simp
def zKQ(s:zN):Prop:=zBT s.birth/\s.kn=0/\s.data.size=16
def zPm(s:zN):Prop:=zBT s.birth/\s.kn=8/\s.data.toList.isEmpty=true
theorem zF9(v0 v1 v2:Value)(lo hi:Nat)(s:zN)(w:World)(h1:zCy w lo hi v0 v1 v2 s) :
  Calls Tryz.prog 57 #[.agg #[v0,v1,v2]] w fun e w'=>zJ (yZ s) e/\Below w.heap.size w w':=by
 obtain⟨rfl,⟨m1,a,c,rfl,_⟩,rfl,_⟩:=h1;unfold maxLen at m1;have aA:=(Below.refl w.heap.size w).alloc (Nat.le_refl _) (.cells #[.int .i64 s.birth,.slice a s.kn c,.string s.data] 48);by_cases h1:s.birth=0
 ·by_cases h2:s.kn=0
  ·by_cases h3:s.data.toList.isEmpty=true
   ·have H:Hid (yZ s):=⟨h1,h2,h3⟩;have e1:(s.birth == 0)=true:=(by simp[h1]);have e2:((s.kn:Int) == 0)=true:=(by simp[h2]);clear h1 h2;go_enter Tryz.func57,Tryz.ntmps57;go_wp2;go_ret;exact⟨zJ.yes H.out,aA⟩
   ·have H:Hid (¬yZ s):=fun h=>h3 h.2.2
    have e1:(s.birth == 0)=true:=(by simp[h1]);have e2:((s.kn:Int) == 0)=true:=(by simp[h2]);have e3:s.data.toList.isEmpty=false:=(by simpa using h3);clear h1 h2 h3;go_enter Tryz.func57,Tryz.ntmps57;go_wp2;go_ret;exact⟨zJ.no H.out,aA⟩
  ·have H:Hid (¬yZ s):=fun h=>h2 h.2.1
   have e1:(s.birth == 0)=true:=(by simp[h1]);have e2:((s.kn:Int) == 0)=false:=(by simp;omega);clear h1 h2;go_enter Tryz.func57,Tryz.ntmps57;go_wp2;go_ret;exact⟨zJ.no H.out,aA⟩
 ·have H:Hid (¬yZ s):=fun h=>h1 h.1
  have e1:(s.birth == 0)=false:=(by simp[h1]);clear h1;go_enter Tryz.func57,Tryz.ntmps57;go_wp2;go_ret;exact⟨zJ.no H.out,aA⟩
theorem zAW(n:Int)(w:World):Calls Tryz.prog 133 #[.int .i64 n] w fun e w'=>zJ (zBT n) e/\w'=w:=by
 by_cases h1:1<=n
 ·by_cases h2:n<=1000000
  ·go_enter Tryz.func133,Tryz.ntmps133;go_wp2;go_ret;exact⟨zJ.yes ⟨h1,h2⟩,rfl⟩
  ·go_enter Tryz.func133,Tryz.ntmps133;go_wp2;go_ret;exact⟨zJ.no fun h=>by have:=h.2;omega,rfl⟩
 ·go_enter Tryz.func133,Tryz.ntmps133;go_wp2;go_ret;exact⟨zJ.no fun h=>by have:=h.1;omega,rfl⟩
theorem zLm(v0 v1 v2:Value)(lo hi:Nat)(s:zN)(w:World)(h1:zCy w lo hi v0 v1 v2 s) :
  Calls Tryz.prog 91 #[.agg #[v0,v1,v2]] w fun e w'=>zJ (zKQ s) e/\Below w.heap.size w w':=by
 obtain⟨rfl,⟨m1,a,c,rfl,_⟩,rfl,m2⟩:=h1;unfold maxLen at m1 m2;have aA:=(Below.refl w.heap.size w).alloc (Nat.le_refl _) (.cells #[.int .i64 s.birth,.slice a s.kn c,.string s.data] 48);by_cases h1:zBT s.birth
 ·have HB:Hid (zBT s.birth):=h1;by_cases h2:s.kn=0
  ·by_cases h3:s.data.size=16
   ·have H:Hid (zKQ s):=⟨h1,h2,h3⟩;have e2:((s.kn:Int) == 0)=true:=(by simp[h2]);have e3:((s.data.size:Int) == 16)=true:=(by simp[h3]);clear h1 h2 h3;go_enter Tryz.func91,Tryz.ntmps91;go_wp2_with (go_at_call 133;refine(zAW _ _).mono ?_;rintro e w' ⟨⟨t,rfl,ht⟩,rfl⟩;obtain rfl:t=true:=ht.2 HB.out;clear ht);go_ret;exact⟨zJ.yes H.out,aA⟩
   ·have H:Hid (¬zKQ s):=fun h=>h3 h.2.2
    have e2:((s.kn:Int) == 0)=true:=(by simp[h2]);have e3:((s.data.size:Int) == 16)=false:=(by simp;omega);clear h1 h2 h3;go_enter Tryz.func91,Tryz.ntmps91;go_wp2_with (go_at_call 133;refine(zAW _ _).mono ?_;rintro e w' ⟨⟨t,rfl,ht⟩,rfl⟩;obtain rfl:t=true:=ht.2 HB.out;clear ht);go_ret;exact⟨zJ.no H.out,aA⟩
  ·have H:Hid (¬zKQ s):=fun h=>h2 h.2.1
   have e2:((s.kn:Int) == 0)=false:=(by simp;omega);clear h1 h2;go_enter Tryz.func91,Tryz.ntmps91;go_wp2_with (go_at_call 133;refine(zAW _ _).mono ?_;rintro e w' ⟨⟨t,rfl,ht⟩,rfl⟩;obtain rfl:t=true:=ht.2 HB.out;clear ht);go_ret;exact⟨zJ.no H.out,aA⟩
 ·have HB:Hid (¬zBT s.birth):=h1;clear h1;go_enter Tryz.func91,Tryz.ntmps91;go_wp2_with (go_at_call 133;refine(zAW _ _).mono ?_;rintro e w' ⟨⟨t,rfl,ht⟩,rfl⟩;obtain rfl:t=false:=zAR ht HB.out;clear ht);go_ret;exact⟨zJ.no fun h=>HB.out h.1,aA⟩
theorem zSH(v0 v1 v2:Value)(lo hi:Nat)(s:zN)(w:World)(h1:zCy w lo hi v0 v1 v2 s) :
  Calls Tryz.prog 92 #[.agg #[v0,v1,v2]] w fun e w'=>zJ (zPm s) e/\Below w.heap.size w w':=by
 obtain⟨rfl,⟨m1,a,c,rfl,_⟩,rfl,m2⟩:=h1;unfold maxLen at m1 m2;have aA:=(Below.refl w.heap.size w).alloc (Nat.le_refl _) (.cells #[.int .i64 s.birth,.slice a s.kn c,.string s.data] 48);by_cases h1:zBT s.birth
 ·have HB:Hid (zBT s.birth):=h1;by_cases h2:s.kn=8
  ·by_cases h3:s.data.toList.isEmpty=true
   ·have H:Hid (zPm s):=⟨h1,h2,h3⟩;have e2:((s.kn:Int) == 8)=true:=(by simp[h2]);clear h1 h2;go_enter Tryz.func92,Tryz.ntmps92;go_wp2_with (go_at_call 133;refine(zAW _ _).mono ?_;rintro e w' ⟨⟨t,rfl,ht⟩,rfl⟩;obtain rfl:t=true:=ht.2 HB.out;clear ht);go_ret;exact⟨zJ.yes H.out,aA⟩
   ·have H:Hid (¬zPm s):=fun h=>h3 h.2.2
    have e2:((s.kn:Int) == 8)=true:=(by simp[h2]);have e3:s.data.toList.isEmpty=false:=(by simpa using h3);clear h1 h2 h3;go_enter Tryz.func92,Tryz.ntmps92;go_wp2_with (go_at_call 133;refine(zAW _ _).mono ?_;rintro e w' ⟨⟨t,rfl,ht⟩,rfl⟩;obtain rfl:t=true:=ht.2 HB.out;clear ht);go_ret;exact⟨zJ.no H.out,aA⟩
  ·have H:Hid (¬zPm s):=fun h=>h2 h.2.1
   have e2:((s.kn:Int) == 8)=false:=(by simp;omega);clear h1 h2;go_enter Tryz.func92,Tryz.ntmps92;go_wp2_with (go_at_call 133;refine(zAW _ _).mono ?_;rintro e w' ⟨⟨t,rfl,ht⟩,rfl⟩;obtain rfl:t=true:=ht.2 HB.out;clear ht);go_ret;exact⟨zJ.no H.out,aA⟩
 ·have HB:Hid (¬zBT s.birth):=h1;clear h1;go_enter Tryz.func92,Tryz.ntmps92;go_wp2_with (go_at_call 133;refine(zAW _ _).mono ?_;rintro e w' ⟨⟨t,rfl,ht⟩,rfl⟩;obtain rfl:t=false:=zAR ht HB.out;clear ht);go_ret;exact⟨zJ.no fun h=>HB.out h.1,aA⟩
theorem zUi(v:Value)(n lo hi:Nat)(f:Nat->Int)(x:Int)(w:World)(h1:zC6 w lo hi v n f) :
  Calls Tryz.prog 136 #[v,.int .i64 x] w fun e w'=>(∃r:Int,e = .returned (.int .i64 r)/\(0<=r↔Has n f x))/\w'=w:=by
 obtain⟨m1,a,c,rfl,mc,g1⟩:=h1;unfold maxLen at m1;have G1:Hid (0<n->∃b off,a=some ⟨b,off,none⟩/\lo<=b/\b<hi/\∀i,i<n->w.cell? ⟨b,off+i,none⟩=some (.int .i64 (f i))):=g1;clear g1;go_enter Tryz.func136,Tryz.ntmps136;go_wp2
 go_loop [8] (fun i=>∃k:Nat,k<=n/\i = .int .i64 k/\¬Has k f x) (fun i=>n - (intOf i).toNat)
 case atStart=>exact⟨0,Nat.zero_le _,rfl,fun ⟨j,hj,_⟩=>absurd hj (Nat.not_lt_zero _)⟩
 case round=>
  obtain⟨k,hk,rfl,dA⟩:=hrel;have aA:Hid (¬Has k f x):=dA;clear dA;by_cases cA:k<n
  ·have fA:(k:Int)<(n:Int):=(by omega);obtain⟨b,off,rfl,_,_,k1⟩:=G1.out (by omega);have gA:=k1 k cA;clear k1 G1;by_cases he:f k=x
   ·have H:Hid (Has n f x):=⟨k,cA,he⟩;have eA:(x == f k)=true:=(by simp[he]);clear he;go_wp2;go_ret;exact⟨⟨_,rfl,⟨fun _=>H.out,fun _=>Int.natCast_nonneg _⟩⟩,rfl⟩
   ·have H:Hid (¬f k=x):=he;have eA:(x == f k)=false:=(by simp;exact fun e=>he e.symm);clear he;go_wp2
    go_round
    case rel=>
     refine⟨k+1,by omega,by go_num,?_⟩;rintro⟨j,hj,bA⟩;by_cases e:j=k
     ·subst e;exact H.out bA
     ·exact aA.out ⟨j,by omega,bA⟩
    case measure=>simp[intOf];omega
  ·obtain rfl:k=n:=(by omega);go_wp2;go_ret;exact⟨⟨-1,rfl,⟨fun h=>absurd h (by omega),fun h=>absurd h aA.out⟩⟩,rfl⟩
theorem zF1(v:Value)(n lo hi:Nat)(f:Nat->Int)(x:Int)(w:World)(h1:zC6 w lo hi v n f) :
  Calls Tryz.prog 95 #[v,.int .i64 x] w fun e w'=>zJ (Has n f x) e/\w'=w:=by
 have Hi:Hid (zC6 w lo hi v n f):=h1;obtain⟨m1,a,c,rfl,mc,g1⟩:=h1;clear g1;go_enter Tryz.func95,Tryz.ntmps95;go_wp2_with fail;refine(zUi _ n lo hi f x _ Hi.out).mono ?_;rintro e w' ⟨⟨r,rfl,hr⟩,rfl⟩;have Hr:Hid (0<=r↔Has n f x):=hr;clear hr;go_wp2;go_ret;exact⟨⟨_,rfl,by simpa using Hr.out⟩,rfl⟩
def zDO(n:Nat)(f:Nat->zN)(x ps pb:Int):Prop:=
 (0<=x/\x<n/\¬yZ (f x.toNat)/\ps=x/\pb=(f x.toNat).birth)\/(¬(0<=x/\x<n/\¬yZ (f x.toNat))/\ps=0/\pb=0)
theorem zHX(v:Value)(n lo hi:Nat)(f:Nat->zN)(x:Int)(w:World)(h1:yJ w lo hi v n f) :
  Calls Tryz.prog 94 #[v,.int .i64 x] w fun e w'=>(∃ps pb,e = .returned (.agg #[.int .i64 ps,.int .i64 pb])/\zDO n f x ps pb)/\Below w.heap.size w w':=by
 have Hi:Hid (yJ w lo hi v n f):=h1;obtain⟨m1,a,c,rfl,mc,g1⟩:=h1;unfold maxLen at m1;clear g1;have bA:Hid (Below w.heap.size w (w.alloc (.cells #[.int .i64 0,.int .i64 0] 44))):=zD _ _;by_cases h1:x<0
 ·have H:Hid (zDO n f x 0 0):=Or.inr ⟨fun h=>by omega,rfl,rfl⟩;go_enter Tryz.func94,Tryz.ntmps94;go_wp2;refine bodyPost_ret (v:=.agg #[.int .i64 0,.int .i64 0]) (by simp[results,Tryz.results94,go_sem]) rfl ⟨⟨0,0,rfl,H.out⟩,bA.out⟩
 ·by_cases h2:(n:Int)<=x
  ·have H:Hid (zDO n f x 0 0):=Or.inr ⟨fun h=>by omega,rfl,rfl⟩;go_enter Tryz.func94,Tryz.ntmps94;go_wp2;refine bodyPost_ret (v:=.agg #[.int .i64 0,.int .i64 0]) (by simp[results,Tryz.results94,go_sem]) rfl ⟨⟨0,0,rfl,H.out⟩,bA.out⟩
  ·obtain⟨k,rfl⟩:=Int.eq_ofNat_of_zero_le (show 0<=x by omega);have hk:k<n:=(by omega);have dA:(k:Int)<(n:Int):=(by omega);obtain⟨b,off,ka,kc,rfl,hs⟩:=Hi.out.cells hk;have Hs:Hid (zDf w b (off+k*3) lo hi ka kc (f k)):=hs;have eA:=zO hs.c0;obtain⟨q0,q1,q2,_⟩:=hs;by_cases hf:yZ (f k)
   ·have H:Hid (zDO n f k 0 0):=Or.inr ⟨fun h=>h.2.2 (by rw[Int.toNat_natCast];exact hf),rfl,rfl⟩;have HF:Hid (yZ (f k)):=hf;clear hf;go_enter Tryz.func94,Tryz.ntmps94;go_wp2_with fail;refine(zF9 _ _ _ lo hi (f k) _ (Hs.out.slot.zbd bA.out)).mono ?_;rintro e w1 ⟨⟨t,rfl,hx⟩,aA⟩;obtain rfl:t=true:=hx.2 HF.out;clear hx;have HX:Hid (yG w1 w.heap.size (.int .i64 0) (.int .i64 0)):=(yG.new w _ _ _).zbd aA;have cA:=zA bA.out aA;clear aA q0 q1 q2;obtain⟨⟨y0,y1⟩,⟨y2,y3⟩⟩:=HX.out;go_wp2;have HY:=HX.out.put (.int .i64 0) (.int .i64 0);refine bodyPost_ret (v:=.agg #[.int .i64 0,.int .i64 0]) (by simp[results,Tryz.results94,go_sem,HY.1.1,HY.2.1]) rfl ⟨⟨0,0,rfl,H.out⟩,(cA.setCell (Nat.le_refl _) _).setCell (Nat.le_refl _) _⟩
   ·have H:Hid (zDO n f k k (f k).birth):=Or.inl ⟨by omega,dA,by rw[Int.toNat_natCast];exact hf,rfl,by rw[Int.toNat_natCast]⟩;have HF:Hid (¬yZ (f k)):=hf;clear hf;go_enter Tryz.func94,Tryz.ntmps94;go_wp2_with fail;refine(zF9 _ _ _ lo hi (f k) _ (Hs.out.slot.zbd bA.out)).mono ?_;rintro e w1 ⟨⟨t,rfl,hx⟩,aA⟩;obtain rfl:t=false:=zAR hx HF.out;clear hx;have HX:Hid (yG w1 w.heap.size (.int .i64 0) (.int .i64 0)):=(yG.new w _ _ _).zbd aA;have cA:=zA bA.out aA;have q5:=(Hs.out.zbd cA).c0;clear aA q0 q1 q2;obtain⟨⟨y0,y1⟩,⟨y2,y3⟩⟩:=HX.out;go_wp2;have HY:=HX.out.put (.int .i64 k) (.int .i64 (f k).birth);refine bodyPost_ret (v:=.agg #[.int .i64 k,.int .i64 (f k).birth]) (by simp[results,Tryz.results94,go_sem,HY.1.1,HY.2.1]) rfl ⟨⟨_,_,rfl,H.out⟩,(cA.setCell (Nat.le_refl _) _).setCell (Nat.le_refl _) _⟩
theorem zMU{P:Program}(w:World)(dT sT ty elem:TypeId)(size g o aA dA:Nat)(a:Addr)(bA gA:Nat)(cA:Array Value)(t:TypeId)(cs:List Value)
  (hu:P.underlying dT=some (.slice elem)) (hs:(P.info? elem).map (·.size)=some size)
  (hg:w.heap[g]?=some (.cells cA t (0,0))) (hn:cs.length=Nat.min bA aA*size)
  (fA:∀j v,cs[j]?=some v->w.cell? (a.add j)=some v) (eA:o+cs.length<=cA.size) (h1:∀v∈cs,v.oneCell'=true) :
  (Builtin.copy_ #[dT,sT] ty #[.slice (some ⟨g,o,none⟩) aA dA,.slice (some a) bA gA]).run P w =
   .ok (goInt (Nat.min bA aA)) (w.setRow g (cA.toList.take o ++ cs ++ cA.toList.drop (o+cs.length)).toArray):=by
 have hl:=run_loadCells_list (P:=P) w a cs fA;have iA:=run_storeCells_at P g o t cs 0 cA w hg (by simpa using eA) h1;cases hq:P.info? elem with
 | none=>simp[hq]at hs
 | some i=>
  have hi:i.size=size:=(by simpa[hq]using hs);have e:Nat.min bA aA*i.size=cs.length:=(by rw[hi,hn]);simp[Builtin.copy_,run_underlying hu,Builtin.lenOf,Builtin.firstCells,sizeOf,typeInfo,hq,e,hl,iA]
theorem zM7{P:Program}(w:World)(dT sT ty elem:TypeId)(size:Nat)(d a:Option Addr)(bA aA cA:Nat)
  (hu:P.underlying dT=some (.slice elem)) (hs:(P.info? elem).map (·.size)=some size) :
  (Builtin.copy_ #[dT,sT] ty #[.slice d bA aA,.slice a 0 cA]).run P w = .ok (goInt 0) w:=by
 cases hq:P.info? elem with
 | none=>simp[hq]at hs
 | some i=>
  cases a with
  | none=>cases d<;>simp[Builtin.copy_,run_underlying hu,Builtin.lenOf,Builtin.firstCells,sizeOf,typeInfo,hq,storeCells]
  | some a=>cases d<;>simp[Builtin.copy_,run_underlying hu,Builtin.lenOf,Builtin.firstCells,sizeOf,typeInfo,hq,storeCells,loadCells,loadCellsFrom]
def zU(s:zN)(j:Nat):Int:=if j / 2<s.kn then(if j % 2=0 then s.ks (j / 2)else s.kb (j / 2))else 0
def zAQ(f:Nat->Int):Array Value:=((List.range 16).map fun j=>Value.int .i64 (f j)).toArray
def yP(s:zN):Array Value:=zAQ (zU s)
theorem zAN(f:Nat->Int):(zAQ f).size=16:=by simp[zAQ]
theorem zDT(f:Nat->Int){j:Nat}(h:j<16):(zAQ f)[j]?=some (.int .i64 (f j)):=by simp[zAQ,h]
theorem zEV(f:Nat->Int):(zAQ f).all (·.oneCell')=true:=by
 unfold zAQ;rw[Array.all_eq_true_iff_forall_mem];intro v hv;simp at hv;obtain⟨j,_,rfl⟩:=hv;rfl
theorem zUR{f g:Nat->Int}(h:∀j,j<16->f j=g j):zAQ f=zAQ g:=by
 unfold zAQ;congr 1;apply List.map_congr_left;intro j hj;rw[h j (by simpa using hj)]
theorem zIn:(Tryz.prog.info? 155).map (·.size)=some 16:=by kernel_rfl
theorem zJ5:(Tryz.prog.info? 44).map (·.size)=some 2:=by kernel_rfl
theorem zP1:Tryz.prog.underlying 155=some (.array 8 44):=by kernel_rfl
theorem zRU(w:World)(o1 o2 o3:Obj):(((w.alloc o1).alloc o2).alloc o3).heap[w.heap.size+1]?=some o2/\(((w.alloc o1).alloc o2).alloc o3).heap[w.heap.size+1+1]?=some o3/\w.heap.size+1+1<(((w.alloc o1).alloc o2).alloc o3).heap.size:=by
 refine⟨?_,?_,by simp⟩
 ·rw[Below.heap_alloc _ _ _ (by simp)];have:=heap_alloc_last (w.alloc o1) o2;rw[World.size_alloc]at this;exact this
 ·have:=heap_alloc_last ((w.alloc o1).alloc o2) o3;rw[World.size_alloc,World.size_alloc]at this;exact this
theorem yh.setRow(w:World)(g:Nat)(cs:Array Value):yh (fun k=>k=g) w (w.setRow g cs):=
 ⟨rfl,rfl,rfl,by simp[World.setRow],fun k _ hs=>setRow_other w g k cs hs⟩
theorem zMf{eA:Array Oper}{o:Oper}{a:Act}{w:World}{K:Act->World->Prop}{Q:Exit->Act->World->Prop}{E:Prop}(fA:o.guard=none)(d s:Operand)
  (ho:o.op = .call {callee:=.builtin .copy,args:=#[d,s],argTypes:=#[41,41]})
  (g:Nat) (ka:Option Addr) (kc:Nat) (sl:zN) (hd:a.eval d = .slice (some ⟨g,0,none⟩) 8 8) (hs:a.eval s = .slice ka sl.kn kc)
  (hg:w.heap[g]?=some (.cells (zAQ fun _=>0) 155 (0,0))) (hk:sl.kn=0\/(sl.kn=8/\∃b off,ka=some ⟨b,off,none⟩/\∀i,i<sl.kn->w.cell? ⟨b,off+i*2,none⟩=some (.int .i64 (sl.ks i))/\w.cell? ⟨b,off+i*2+1,none⟩=some (.int .i64 (sl.kb i))))
  (h:∀w' v,Hid (w'.heap[g]?=some (.cells (yP sl) 155 (0,0)))->yh (fun k=>k=g) w w'->K (a.put o.dst v) w') :
  if Region.wanted o (yielded eA a.tmps)=true then Oper.wp Tryz.prog o a w K Q else E:=by
 have hw:Region.wanted o (yielded eA a.tmps)=true:=by simp[Region.wanted,fA]
 rw[if_pos hw];have hu:Tryz.prog.underlying 41=some (.slice 44):=by kernel_rfl
 rcases hk with hk | ⟨hk,b,off,rfl,hc⟩
 ·rw[hk]at hs;have aA:=zM7 (P:=Tryz.prog) w 41 41 o.type 44 2 (some ⟨g,0,none⟩) ka 8 8 kc hu zJ5;unfold Oper.wp;simp[execOp,ho,resolve,invoke,builtin,hd,hs,aA,Result.andThen];refine h _ _ ?_ (yh.refl _ _);show _=_;rw[hg];have:yP sl=zAQ (fun _=>0):=zUR fun j _=>by unfold zU;rw[if_neg (by omega)]
  rw[this]
 ·rw[hk]at hs;have aA:=zMU (P:=Tryz.prog) w 41 41 o.type 44 2 g 0 8 8 ⟨b,off,none⟩ 8 kc (zAQ fun _=>0) 155 (yP sl).toList hu zJ5 hg (by simp[yP,zAQ]) (fun j v hj=>by
    have cA:j<16:=by
     have:=(List.getElem?_eq_some_iff.1 hj).1;simpa[yP,zAN]using this
    have e:(yP sl).toList[j]?=some (.int .i64 (zU sl j)):=(by rw[Array.getElem?_toList];exact zDT (zU sl) cA);rw[e]at hj;simp only[Option.some.injEq]at hj;subst hj;have bA:(⟨b,off,none⟩:Addr).add j=⟨b,off+j,none⟩:=(by unfold Addr.add;split<;>simp_all);rw[bA];unfold zU;rw[if_pos (by omega)];have dA:=hc (j / 2) (by omega);split
    ·rw[show off+j=off+j / 2*2 by omega];exact dA.1
    ·rw[show off+j=off+j / 2*2+1 by omega];exact dA.2) (by simp[yP,zAQ]) (fun v hv=>(Array.all_eq_true_iff_forall_mem.1 (zEV _)) v (by simpa[yP]using hv))
  unfold Oper.wp;simp[execOp,ho,resolve,invoke,builtin,hd,hs,aA,Result.andThen];refine h _ _ ?_ (yh.setRow _ _ _);show _=_;rw[setRow_heap w g _ _ 155 (0,0) hg];have e0:((zAQ fun _=>0).toList.drop 16) = []:=List.drop_eq_nil_of_le (by simp[zAQ]);simp[yP,zAN,e0]
theorem zGA(v0 v1 v2:Value)(lo hi:Nat)(s:zN)(w:World)(h1:zCy w lo hi v0 v1 v2 s)(hk:s.kn=0\/s.kn=8) :
  Calls Tryz.prog 134 #[.agg #[v0,v1,v2]] w fun e w'=>e = .returned (.agg (yP s))/\Below w.heap.size w w':=by
 obtain⟨rfl,⟨m1,a,c,rfl,mc,g1⟩,rfl,m2⟩:=h1;unfold maxLen at m1 m2;have G1:Hid (0<s.kn->∃b off,a=some ⟨b,off,none⟩/\lo<=b/\b<hi/\∀i,i<s.kn->w.cell? ⟨b,off+i*2,none⟩=some (.int .i64 (s.ks i))/\w.cell? ⟨b,off+i*2+1,none⟩=some (.int .i64 (s.kb i))):=g1;have Hk:Hid (s.kn=0\/s.kn=8):=hk;clear g1 hk;go_enter Tryz.func134,Tryz.ntmps134;go_wp2_with fail;obtain⟨W,hW⟩:∃W:World,W=((w.alloc (.cells #[.int .i64 s.birth,.slice a s.kn c,.string s.data] 48)).alloc (.cells #[Value.int .i64 0,Value.int .i64 0,Value.int .i64 0,Value.int .i64 0,Value.int .i64 0,Value.int .i64 0,Value.int .i64 0,Value.int .i64 0,Value.int .i64 0,Value.int .i64 0,Value.int .i64 0,Value.int .i64 0,Value.int .i64 0,Value.int .i64 0,Value.int .i64 0,Value.int .i64 0] 155)).alloc (.cells #[Value.int .i64 0,Value.int .i64 0,Value.int .i64 0,Value.int .i64 0,Value.int .i64 0,Value.int .i64 0,Value.int .i64 0,Value.int .i64 0,Value.int .i64 0,Value.int .i64 0,Value.int .i64 0,Value.int .i64 0,Value.int .i64 0,Value.int .i64 0,Value.int .i64 0,Value.int .i64 0] 155):=⟨_,rfl⟩;have jA:(#[Value.int .i64 0,Value.int .i64 0,Value.int .i64 0,Value.int .i64 0,Value.int .i64 0,Value.int .i64 0,Value.int .i64 0,Value.int .i64 0,Value.int .i64 0,Value.int .i64 0,Value.int .i64 0,Value.int .i64 0,Value.int .i64 0,Value.int .i64 0,Value.int .i64 0,Value.int .i64 0]:Array Value)=zAQ (fun _=>0):=rfl;have hb:Below w.heap.size w W:=by rw[hW];exact zA (zA (zD _ _) (zD _ _)) (zD _ _)
 have Hx:Hid (zEt W w.heap.size (.int .i64 s.birth) (.slice a s.kn c) (.string s.data)):=by rw[hW];exact((zEt.new w _ _ _ _).zbd (zD _ _)).zbd (zD _ _)
 have bA:=zRU w (.cells #[.int .i64 s.birth,.slice a s.kn c,.string s.data] 48) (.cells #[Value.int .i64 0,Value.int .i64 0,Value.int .i64 0,Value.int .i64 0,Value.int .i64 0,Value.int .i64 0,Value.int .i64 0,Value.int .i64 0,Value.int .i64 0,Value.int .i64 0,Value.int .i64 0,Value.int .i64 0,Value.int .i64 0,Value.int .i64 0,Value.int .i64 0,Value.int .i64 0] 155) (.cells #[Value.int .i64 0,Value.int .i64 0,Value.int .i64 0,Value.int .i64 0,Value.int .i64 0,Value.int .i64 0,Value.int .i64 0,Value.int .i64 0,Value.int .i64 0,Value.int .i64 0,Value.int .i64 0,Value.int .i64 0,Value.int .i64 0,Value.int .i64 0,Value.int .i64 0,Value.int .i64 0] 155);rw[<-hW]at bA;have HR:Hid (W.heap[w.heap.size+1]?=some (.cells (zAQ fun _=>0) 155 (0,0))):=bA.1;have HG:Hid (W.heap[w.heap.size+1+1]?=some (.cells (zAQ fun _=>0) 155 (0,0))):=bA.2.1;have kA:w.heap.size+1+1<W.heap.size:=bA.2.2;clear bA;have HC:Hid (s.kn=0\/(s.kn=8/\∃b off,a=some ⟨b,off,none⟩/\∀i,i<s.kn->W.cell? ⟨b,off+i*2,none⟩=some (.int .i64 (s.ks i))/\W.cell? ⟨b,off+i*2+1,none⟩=some (.int .i64 (s.kb i)))):=by
  rcases Hk.out with h | h
  ·exact Or.inl h
  ·obtain⟨b,off,ha,_,_,k1⟩:=G1.out (by omega);exact Or.inr ⟨h,b,off,ha,fun i hi=>⟨(hb.cell (zO (k1 i hi).1)).trans (k1 i hi).1,(hb.cell (zO (k1 i hi).2)).trans (k1 i hi).2⟩⟩
 rw[<-hW];clear hW jA;obtain⟨⟨x0,x1⟩,⟨x2,x3⟩,⟨x4,x5⟩⟩:=Hx.out
 go_region_law (refine zMf rfl (.tmp 4) (.tmp 6) rfl (w.heap.size+1+1) a c s (by simp[Act.eval]) (by simp[Act.eval]) HG.out HC.out ?_;intro w1 cv gA dA)
 have fA:w1.heap[w.heap.size+1]?=some (.cells (zAQ fun _=>0) 155 (0,0)):=(dA.block _ (by show _<W.heap.size;omega) (by omega)).trans HR.out;have eA:Hid (w1.heap[w.heap.size+1]?=some (.cells (zAQ fun _=>0) 155 (0,0))):=fA;have iA:Below w.heap.size w w1:=hb.drew.trans (dA.zbd (by show _<=W.heap.size;omega) (by intro k hk;omega));clear fA dA x0 x1 x2 x3 x4 x5;have cA:(Tryz.prog.info? 155).map (·.size)=some (yP s).size:=by rw[yP,zAN];exact zIn
 have aA:Hid ((Tryz.prog.info? 155).map (·.size)=some (yP s).size):=cA;clear cA;go_wp2_with (first
  | (refine wpList_load_row rfl 155 (.tmp 3) rfl (w.heap.size+1+1) rfl 155 (yP s) (0,0) _ gA.out zP1 rfl aA.out ?_)
  | (refine wpList_store_row rfl 155 (.tmp 2) (.tmp 8) rfl (w.heap.size+1) (yP s) rfl rfl 155 (zAQ fun _=>0) eA.out aA.out (by rw[yP,zAN,zAN]) (zEV _) ?_))
 refine bodyPost_ret (v:=.agg (yP s)) (results_cell_row (P:=Tryz.prog) (ty:=155) Tryz.results134 _ _ (w.heap.size+1) 155 (yP s) (0,0) _ rfl (setRow_heap _ _ _ _ _ _ eA.out) zP1 rfl aA.out) rfl ⟨rfl,?_⟩;exact below_setRow iA (by omega) _
def zCJ(n:Nat)(f:Nat->zN)(b ks kb rs rb:Int):Prop:=
 ∃ps pb,zDO n f ks ps pb/\(((zK4 ks kb 0 0\/b<pb)/\rs=0/\rb=0)\/(¬(zK4 ks kb 0 0\/b<pb)/\rs=ps/\rb=pb))
theorem zO5(v:Value)(n lo hi:Nat)(f:Nat->zN)(ks kb b:Int)(w:World)(h1:yJ w lo hi v n f) :
  Calls Tryz.prog 135 #[v,.agg #[.int .i64 ks,.int .i64 kb],.int .i64 b] w fun e w'=>(∃rs rb,e = .returned (.agg #[.int .i64 rs,.int .i64 rb])/\zCJ n f b ks kb rs rb)/\Below w.heap.size w w':=by
 have Hi:Hid (yJ w lo hi v n f):=h1;obtain⟨m1,a,c,rfl,mc,g1⟩:=h1;clear g1;have eA:Hid (Below w.heap.size w ((w.alloc (.cells #[.int .i64 ks,.int .i64 kb] 44)).alloc (.cells #[.int .i64 0,.int .i64 0] 44))):=zA (zD _ _) (zD _ _);go_enter Tryz.func135,Tryz.ntmps135;go_wp2_with fail;refine(zHX _ n lo hi f _ _ (Hi.out.zbd eA.out)).mono ?_;rintro e w1 ⟨⟨ps,pb,rfl,hp⟩,bA⟩;have Hp:Hid (zDO n f ks ps pb):=hp;have HX:Hid (yG w1 w.heap.size (.int .i64 ks) (.int .i64 kb)):=((yG.new w _ _ _).zbd (zD _ _)).zbd bA;have HR:Hid (yG w1 (w.heap.size+1) (.int .i64 0) (.int .i64 0)):=by
  have:=(yG.new (w.alloc (.cells #[.int .i64 ks,.int .i64 kb] 44)) (.int .i64 0) (.int .i64 0) 44).zbd bA;rw[World.size_alloc]at this;exact this
 have gA:=zA eA.out bA;have hz:w.heap.size<w1.heap.size:=HX.out.1.lt;have iA:w.heap.size+1<w1.heap.size:=HR.out.1.lt;clear hp bA;obtain⟨⟨x0,x1⟩,⟨x2,x3⟩⟩:=HX.out;obtain⟨⟨y0,y1⟩,⟨y2,y3⟩⟩:=HR.out;have HY:=fun u0 u1=>(HR.out.put u0 u1).zbd (zD _ (.cells #[.int .i64 ps,.int .i64 pb] 44))
 have dA:Hid (∀u0 u1,yG (((w1.setCell ⟨w.heap.size+1,0,none⟩ u0).setCell ⟨w.heap.size+1,1,none⟩ u1).alloc (.cells #[.int .i64 ps,.int .i64 pb] 44)) (w.heap.size+1) u0 u1):=HY;clear HY;have cA:Hid (∀u0 u1,Below w.heap.size w (((w1.setCell ⟨w.heap.size+1,0,none⟩ u0).setCell ⟨w.heap.size+1,1,none⟩ u1).alloc (.cells #[.int .i64 ps,.int .i64 pb] 44))):=fun u0 u1=>((gA.setCell (by show _<=w.heap.size+1;omega) _).setCell (by show _<=w.heap.size+1;omega) _).alloc (by simp;omega) _
 by_cases aA:zK4 ks kb 0 0
 ·obtain⟨rfl,rfl⟩:=aA;have HK:Hid (zCJ n f b 0 0 0 0):=⟨ps,pb,Hp.out,Or.inl ⟨Or.inl ⟨rfl,rfl⟩,rfl,rfl⟩⟩;go_wp2;have hy:=dA.out (.int .i64 0) (.int .i64 0);refine bodyPost_ret (v:=.agg #[.int .i64 0,.int .i64 0]) (by simp[results,Tryz.results135,go_sem,hy.1.1,hy.2.1]) rfl ⟨⟨_,_,rfl,HK.out⟩,cA.out _ _⟩
 ·have HN:Hid (¬zK4 ks kb 0 0):=aA;have e0:(ks == 0)=false\/(ks == 0)=true/\(kb == 0)=false:=by
   by_cases h:ks=0
   ·right;refine⟨by simp[h],?_⟩;have:kb≠0:=fun h'=>aA ⟨h,h'⟩
    simp[this]
   ·left;simp[h]
  clear aA;by_cases fA:b<pb
  ·have HK:Hid (zCJ n f b ks kb 0 0):=⟨ps,pb,Hp.out,Or.inl ⟨Or.inr fA,rfl,rfl⟩⟩;have hy:=dA.out (.int .i64 0) (.int .i64 0);have Hy:Hid (yG (((w1.setCell ⟨w.heap.size+1,0,none⟩ (.int .i64 0)).setCell ⟨w.heap.size+1,1,none⟩ (.int .i64 0)).alloc (.cells #[.int .i64 ps,.int .i64 pb] 44)) (w.heap.size+1) (.int .i64 0) (.int .i64 0)):=hy;clear hy;rcases e0 with e0 | ⟨e0,e1⟩
   all_goals
    go_wp2;have hy:=Hy.out;refine bodyPost_ret (v:=.agg #[.int .i64 0,.int .i64 0]) (by simp[results,Tryz.results135,go_sem,hy.1.1,hy.2.1]) rfl ⟨⟨_,_,rfl,HK.out⟩,cA.out _ _⟩
  ·have HK:Hid (zCJ n f b ks kb ps pb):=⟨ps,pb,Hp.out,Or.inr ⟨fun h=>by rcases h with h | h;exact HN.out h;exact fA h,rfl,rfl⟩⟩;rcases e0 with e0 | ⟨e0,e1⟩
   all_goals
    go_wp2;have hy:=dA.out (.int .i64 ps) (.int .i64 pb);refine bodyPost_ret (v:=.agg #[.int .i64 ps,.int .i64 pb]) (by simp[results,Tryz.results135,go_sem,hy.1.1,hy.2.1]) rfl ⟨⟨_,_,rfl,HK.out⟩,cA.out _ _⟩
end Go.Proofs.YtginldeebkfbgaaGreat

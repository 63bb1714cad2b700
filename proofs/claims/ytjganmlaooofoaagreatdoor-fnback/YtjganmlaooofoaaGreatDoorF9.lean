/- A part of the proof. -/
import Derived.Test.YtjganmlaooofoaaGreatDoorF8
import Derived.Laws.CopyOwn
import Derived.Deep.RegionLaw
import Derived.Deep.WholeRow
set_option linter.unusedVariables false
set_option maxRecDepth 20000
set_option maxHeartbeats 4000000
namespace Go.Proofs.YtjganmlaooofoaaGreatDoor
open Go.RowKit
set_option linter.unusedSimpArgs false
def ptrsT(ks kb:Nat->Int):Nat->Nat->Tr:=fun i c=>match c with
 | 0=>.v (.int .i64 (ks i))
 | 1=>.v (.int .i64 (kb i))
 | _=>.v (.bool false)
def zk(fl:Fl)(s:Nat->zN):Nat->Nat->Tr:=fun i c=>match c with
 | 0=>.v (.int .i64 (s i).birth)
 | 1=>.s fl 2 (s i).kn (ptrsT (s i).ks (s i).kb)
 | _=>.v (.string (s i).data)
theorem yH{ks kb:Nat->Int}{i:Nat}:ptrsT ks kb i 0 = .v (.int .i64 (ks i)):=rfl
theorem yI{ks kb:Nat->Int}{i:Nat}:ptrsT ks kb i 1 = .v (.int .i64 (kb i)):=rfl
theorem qb{fl:Fl}{s:Nat->zN}{i:Nat}:zk fl s i 0 = .v (.int .i64 (s i).birth):=rfl
theorem qd{fl:Fl}{s:Nat->zN}{i:Nat}:zk fl s i 1 = .s fl 2 (s i).kn (ptrsT (s i).ks (s i).kb):=rfl
theorem qe{fl:Fl}{s:Nat->zN}{i:Nat}:zk fl s i 2 = .v (.string (s i).data):=rfl
theorem zAC{x:Value}:(Tr.v x).lend = .v x:=rfl
theorem zr{fl:Fl}{k n:Nat}{h:Nat->Int}:(Tr.s fl k n (yT h)).lend = .s .b k n (yT h):=rfl
theorem zf{fl:Fl}{k n:Nat}{f g:Nat->Int}:(Tr.s fl k n (ptrsT f g)).lend = .s .b k n (ptrsT f g):=by
 simp only[Tr.lend];congr 1;funext i c
 match c with
 | 0=>rfl
 | 1=>rfl
 | c+2=>rfl
def zKS(f:Nat->Int)(a:Nat)(x:Int):Nat->Int:=fun i=>if i=a then x else f i
theorem yW{f g:Nat->Int}{a:Nat}{x y:Int}:yN (ptrsT f g) a 0 [.v (.int .i64 x),.v (.int .i64 y)]=ptrsT (zKS f a x) (zKS g a y):=by
 funext i c;by_cases h:i=a
 ·subst h
  match c with
  | 0=>simp[yN,ptrsT,zKS]
  | 1=>simp[yN,ptrsT,zKS]
  | c+2=>simp[yN,ptrsT]
 ·match c with
  | 0=>simp[yN,ptrsT,zKS,h]
  | 1=>simp[yN,ptrsT,zKS,h]
  | c+2=>simp[yN,ptrsT,h]
theorem zd{fl aA:Fl}{k n:Nat}{s:Nat->zN}:(Tr.s fl k n (zk aA s)).lend = .s .b k n (zk .b s):=by
 simp only[Tr.lend];congr 1;funext i c
 match c with
 | 0=>rfl
 | 1=>exact zf
 | c+2=>rfl
theorem zG{f:Nat}{fn:Func}{b:Code}(h:Tryz.prog.funcs[f]?=some fn)(hb:fn.body=some b)(hn:(fn.name == "runtime.NumGoroutine")=false):zBX Tryz.prog f:=fun args w=>by
 simp only[beq_eq_false_iff_ne,ne_eq]at hn;simp[callFunc,h,hb,hn]
def zDP:Tr->ByteArray
 | .v (.string x)=>x
 | _=>⟨#[]⟩
abbrev iT(x:Int):Bool×List Tr:=(false,[.v (.int .i64 x)])
abbrev pT(a b:Int):Bool×List Tr:=(true,[.v (.int .i64 a),.v (.int .i64 b)])
abbrev slT(s:zN):Bool×List Tr:=(true,[.v (.int .i64 s.birth),.s .b 2 s.kn (ptrsT s.ks s.kb),.v (.string s.data)])
abbrev poT(n:Nat)(s:Nat->zN)(hn:Nat)(h:Nat->Int):Bool×List Tr:=(true,[.s .b 3 n (zk .b s),.s .b 1 hn (yT h)])
noncomputable abbrev bR (p:Prop):List (Bool×List Tr):=[(false,[.v (.bool (dB p))])]
def zO3(a b c:Tr):zN:=⟨qM a,zF8 b,fun i=>qM (zCh b i 0),fun i=>qM (zCh b i 1),zDP c⟩
def zEu(a b:Tr):zF:=⟨zF8 a,fun i=>zO3 (zCh a i 0) (zCh a i 1) (zCh a i 2),zF8 b,fun i=>qM (zCh b i 0)⟩
attribute [local go_sem] qg List.map_cons List.map_nil Tr.cv yv qT yF yD yu yr yq yC zBD zBF zBE zBA zBC zBB zCc zCe zCd qY zt qZ zu qR qQ qf zAL zp zq yL qW tmpsOf zAy yK qV zA9 yz yx yw zAA yy stpP opds opd opdC kap zAS qS zo coreU bin zAl zCO get put dlO fgt zBP zBI zBM zBN tyT yp yo Op.operands Call.operands evLoad evLen evStore evAlloc zAn and_true true_and List.append_nil List.nil_append List.cons_append Ret resCv zCB yY cellM zBl zCI qh StW StR hpT hpO hpV hpA hpL hpC sg nin zCT bdO tmW obW AvE CsE CvE Av.tup Av.ids Cv.ids inD ObE Ob.ids TrE.refl qU yH yI qb qd qe zr zf zd zAC zBe zCH zBG evCall argL argOf qq outOb obO yU qK cvO tot Tr.own rid partsOf fillC zU zBj frz frz1 evBuildSlice zc trs Cv.tr evSlice Option.toArray_none Option.toArray_some evMakeSlice evAppend dstOf srcOf zA7 zBO zBL zBJ zBK ikT yB yA qz qy RetP RetN zBs qP evLd evSt evStoreH zAe evAppendM evAppendT tlOf mvOf rowE shp evTake oOf evC evCallP evCallN evCallO unlast zAX zA6 zAZ argsF zCS qu pmC varT vT evField evConv dB0 Option.bind_some Option.bind_none Option.map_some Option.map_none Option.isSome_some Option.isSome_none
noncomputable def mIs:zX:=qk (fun q:Int×Int×Int=>[iT q.1,iT q.2.1,iT q.2.2]) (fun _=>True) (fun q=>bR (q.2.1<=q.1/\q.1<=q.2.2))
theorem zNJ(x a b:Int):mIs [iT x,iT a,iT b]=some (True,bR (a<=x/\x<=b)):=zO (fun l=>(qM (nth l 0 0),qM (nth l 1 0),qM (nth l 2 0))) (fun _=>rfl) (x,a,b)
theorem zHm:zy Tryz.prog 105 mIs:=by
 refine zQ qA GOk.nil zz Tryz.func105 rfl Tryz.ntmps105 Tryz.results105 7 ?_;rintro⟨x,a,b⟩ -;refine⟨by simp,?_⟩;simp[go_sem]
noncomputable def zYq:zX:=qk (fun q:Int=>[iT q]) (fun _=>True) (fun q=>bR (zBW q))
theorem zKu(x:Int):zYq [iT x]=some (True,bR (zBW x)):=zO (fun l=>qM (nth l 0 0)) (fun _=>rfl) x
theorem zHl:zy Tryz.prog 149 zYq:=by
 refine zQ qA (GOk.cons zHm (zG Tryz.func105 rfl rfl) GOk.nil) zz Tryz.func149 rfl Tryz.ntmps149 Tryz.results149 3 ?_;rintro x -;refine⟨by simp,?_⟩;simp[go_sem,zNJ,zBW]
noncomputable def zdf:zX:=qk (fun q:Nat×(Nat->Int)×Int=>[(false,[.s .b 1 q.1 (yT q.2.1)]),iT q.2.2]) (fun q=>q.1<=1000000) (fun q=>bR (Has q.1 q.2.1 q.2.2))
theorem zIH(n:Nat)(h:Nat->Int)(x:Int):zdf [(false,[.s .b 1 n (yT h)]),iT x]=some (n<=1000000,bR (Has n h x)):=zO (fun l=>(zF8 (nth l 0 0),fun i=>qM (zCh (nth l 0 0) i 0),qM (nth l 1 0))) (fun _=>rfl) (n,h,x)
theorem zGQ:zy Tryz.prog 62 zdf:=by
 refine zQ qA GOk.nil zz Tryz.func62 rfl Tryz.ntmps62 Tryz.results62 6 ?_;rintro⟨n,h,x⟩ hn;replace hn:n<=1000000:=hn;refine⟨by simp,?_⟩;simp[go_sem];refine yE (fun k:Nat=>⟨[(0,true,.m false [.s .b 1 n (yT h)]),(1,true,.i x),(5,true,.i k)],[]⟩) (fun k=>n - k) (fun k=>k<=n/\∀i,i<k->h i≠x) 0 (by simp[go_sem]) (by simp) ?_;rintro k ⟨hk,aA⟩;simp[go_sem,qB (show k<=1000000000 by omega)];refine⟨fun hl=>⟨hl,fun e=>⟨k,hl,e⟩,fun e=>⟨k+1,⟨by omega,yJ hl aA e⟩,by omega,rfl⟩⟩,fun hl ⟨j,h1,h2⟩=>aA j (by omega) h2⟩
noncomputable def zcD:zX:=qk (fun s:zN=>[slT s]) (fun _=>True) (fun s=>bR (zAO s))
theorem zHs(s:zN):zcD [slT s]=some (True,bR (zAO s)):=zO (fun l=>zO3 (nth l 0 0) (nth l 0 1) (nth l 0 2)) (fun _=>rfl) s
theorem zG2:zy Tryz.prog 61 zcD:=by
 refine zQ qA GOk.nil zz Tryz.func61 rfl Tryz.ntmps61 Tryz.results61 3 ?_;rintro s -;refine⟨by simp,?_⟩;simp[go_sem,zAO,and_assoc]
noncomputable def zcI:zX:=qk (fun q:Int×Int=>[pT q.1 q.2]) (fun _=>True) (fun q=>bR (q.1=0/\q.2=0))
theorem zC6(a b:Int):zcI [pT a b]=some (True,bR (a=0/\b=0)):=zO (fun l=>(qM (nth l 0 0),qM (nth l 0 1))) (fun _=>rfl) (a,b)
theorem zEI:zy Tryz.prog 74 zcI:=by
 refine zQ qA GOk.nil zz Tryz.func74 rfl Tryz.ntmps74 Tryz.results74 3 ?_;rintro⟨a,b⟩ -;refine⟨by simp,?_⟩;simp[go_sem]
noncomputable def zVP:zX:=qk (fun q:zF×Int×Int=>[poT q.1.n q.1.s q.1.hn q.1.h,pT q.2.1 q.2.2]) (fun q=>q.1.n<=1000000) (fun q=>bR (qp q.1 q.2.1 q.2.2))
theorem zJE(p:zF)(a b:Int):zVP [poT p.n p.s p.hn p.h,pT a b]=some (p.n<=1000000,bR (qp p a b)):=zO (fun l=>(zEu (nth l 0 0) (nth l 0 1),qM (nth l 1 0),qM (nth l 1 1))) (fun _=>rfl) (p,a,b)
theorem zG3:zy Tryz.prog 150 zVP:=by
 refine zQ qA GOk.nil zz Tryz.func150 rfl Tryz.ntmps150 Tryz.results150 5 ?_;rintro⟨p,a,b⟩ hn;replace hn:p.n<=1000000:=hn;refine⟨by simp,?_⟩;simp[go_sem];exact⟨fun _ h1 h2=>⟨h1,h2⟩,by kernel_rfl,by unfold qp;omega⟩
noncomputable def zcC:zX:=qk (fun q:zF×zN=>[poT q.1.n q.1.s q.1.hn q.1.h,slT q.2]) (fun q=>q.1.n<=1000000) (fun q=>bR (zDp q.1 q.2))
theorem zYv(p:zF)(s:zN):zcC [poT p.n p.s p.hn p.h,slT s]=some (p.n<=1000000,bR (zDp p s)):=zO (fun l=>(zEu (nth l 0 0) (nth l 0 1),zO3 (nth l 1 0) (nth l 1 1) (nth l 1 2))) (fun _=>rfl) (p,s)
theorem zTz:zy Tryz.prog 104 zcC:=by
 refine zQ qA (GOk.cons zHl (zG Tryz.func149 rfl rfl) (GOk.cons zEI (zG Tryz.func74 rfl rfl) (GOk.cons zG3 (zG Tryz.func150 rfl rfl) GOk.nil))) zz Tryz.func104 rfl Tryz.ntmps104 Tryz.results104 7 ?_;rintro⟨p,s⟩ hn;replace hn:p.n<=1000000:=hn;refine⟨by simp,?_⟩;simp[go_sem,zKu];refine⟨fun hb h=>hb h.1,fun hb=>⟨fun h0=>?_,fun h0=>⟨fun h1 h=>?_,fun h8 hd=>?_⟩⟩⟩
 ·unfold zDp;constructor
  ·exact fun h=>⟨hb,.inl ⟨h0,by omega⟩⟩
  ·rintro⟨-,h | h⟩<;>omega
 ·rcases h.2 with h | h
  ·omega
  ·rcases h1 with h1 | h1
   ·omega
   ·exact h1 (by simpa using h.2.1)
 refine yE (fun k:Nat=>⟨[(2,true,.m false [.p 2 0]),(3,true,.m false [.p 3 0]),(5,true,.i k)],[(2,.var [.s .b 3 p.n (zk .b p.s),.s .b 1 p.hn (yT p.h)]),(3,.var [.v (.int .i64 s.birth),.s .b 2 s.kn (ptrsT s.ks s.kb),.v (.string s.data)])]⟩) (fun k=>s.kn - k) (fun k=>k<=s.kn/\∀i,i<k->zUk p s.birth (s.ks i) (s.kb i)) 0 (by simp[go_sem]) (by simp) ?_;rintro k ⟨hk,aA⟩;simp[go_sem,qB (show k<=1000000000 by omega),zC6,zJE,hn];refine⟨fun hl=>⟨hl,fun h1 h2=>⟨h1,h2⟩,fun h1 h2 h=>?_,fun h1=>⟨k+1,⟨by omega,yJ hl aA ?_⟩,by omega,rfl⟩⟩,fun hl=>⟨hb,.inr ⟨by omega,by simp[hd],fun i hi=>aA i (by omega)⟩⟩⟩
 ·rcases h.2 with h | h
  ·omega
  ·rcases h.2.2 k hl with h3 | h3
   ·exact h1 h3.1 h3.2
   ·rcases h2 with h2 | h2
    ·exact h2 h3.1
    ·omega
 ·by_cases h2:s.ks k=0/\s.kb k=0
  ·exact .inl h2
  ·exact .inr (h1 (fun e e'=>h2 ⟨e,e'⟩))
noncomputable def zUB:zX:=qk (fun p:zF=>[poT p.n p.s p.hn p.h]) (fun p=>p.n<=1000000/\p.hn<=1000000) (fun p=>bR (zg p))
theorem zII(p:zF):zUB [poT p.n p.s p.hn p.h]=some (p.n<=1000000/\p.hn<=1000000,bR (zg p)):=zO (fun l=>zEu (nth l 0 0) (nth l 0 1)) (fun _=>rfl) p
theorem zEz:zy Tryz.prog 55 zUB:=by
 refine zQ qA (GOk.cons zG2 (zG Tryz.func61 rfl rfl) (GOk.cons zGQ (zG Tryz.func62 rfl rfl) (GOk.cons zTz (zG Tryz.func104 rfl rfl) GOk.nil))) zz Tryz.func55 rfl Tryz.ntmps55 Tryz.results55 6 ?_;rintro p ⟨hn,hm⟩;refine⟨by simp,?_⟩;simp[go_sem];refine⟨fun h1 h=>?_,fun h1=>?_⟩
 ·have:=h.1;omega
 refine yE (fun k:Nat=>⟨[(1,true,.m false [.p 1 0]),(3,true,.i k)],[(1,.var [.s .b 3 p.n (zk .b p.s),.s .b 1 p.hn (yT p.h)])]⟩) (fun k=>p.n - k) (fun k=>k<=p.n/\∀i,i<k->zAO (p.s i)\/zDp p (p.s i)) 0 (by simp[go_sem]) (by simp) ?_;rintro k ⟨hk,bA⟩;simp[go_sem,qB (show k<=1000000000 by omega),zHs,zYv,hn];refine⟨fun hl=>⟨hl,fun _=>hl,by kernel_rfl,?_⟩,fun hl=>?_⟩
 ·exact⟨fun h2 h3 h=>(h.2.1 k hl).elim h2 h3,fun h=>⟨k+1,⟨by omega,yJ hl bA (Classical.or_iff_not_imp_left.2 h)⟩,by omega,rfl⟩⟩
 refine yE (fun j:Nat=>⟨[(4,true,.i j),(1,true,.m false [.p 1 0])],[(1,.var [.s .b 3 p.n (zk .b p.s),.s .b 1 p.hn (yT p.h)])]⟩) (fun j=>p.hn - j) (fun j=>j<=p.hn/\∀i,i<j->zXn p i) 0 (by simp[go_sem]) (by simp) ?_;rintro j ⟨hj,aA⟩;simp[go_sem,qB (show j<=1000000000 by omega),zHs,zIH,hm];refine⟨fun hl=>⟨hl,fun _ _ _=>hj,fun _ _ _=>by omega,fun h2 h=>?_,fun h2 h3 h4 h5=>⟨j+1,⟨by omega,yJ hl aA ⟨h2,h3,h4,h5⟩⟩,by omega,rfl⟩⟩,fun hl=>⟨by omega,fun i hi=>bA i (by omega),fun i hi=>aA i (by omega)⟩⟩;obtain⟨g1,g2,g3,g4⟩:=h.2.2 j hl;rcases h2 with(h2 | h2) | h2
 ·omega
 ·exact g3 h2
 ·exact g4 h2
structure zJ (S:Nat->Prop) (w w':World):Prop where
 os:w'.os=w.os
 tape:w'.tape=w.tape
 output:w'.output=w.output
 size:w.heap.size<=w'.heap.size
 block:∀k,k<w.heap.size->¬S k->w'.heap[k]?=w.heap[k]?
theorem zJ.refl(S:Nat->Prop)(w:World):zJ S w w:=⟨rfl,rfl,rfl,Nat.le_refl _,fun _ _ _=>rfl⟩
theorem zJ.trans{S:Nat->Prop}{a b c:World}(h:zJ S a b)(k:zJ S b c):zJ S a c:=
 ⟨k.os.trans h.os,k.tape.trans h.tape,k.output.trans h.output,Nat.le_trans h.size k.size,fun i hi hs=>(k.block i (Nat.lt_of_lt_of_le hi h.size) hs).trans (h.block i hi hs)⟩
theorem zJ.mono{S T:Nat->Prop}{a b:World}(h:zJ S a b)(aA:∀k,S k->T k):zJ T a b:=
 ⟨h.os,h.tape,h.output,h.size,fun i hi hs=>h.block i hi (fun x=>hs (aA i x))⟩
theorem zJ.zeH{S:Nat->Prop}{w w':World}(h:Below w.heap.size w w'):zJ S w w':=⟨h.os,h.tape,h.output,h.size,fun k hk _=>h.block k hk⟩
theorem zJ.zeF{S:Nat->Prop}{w w':World}(h:zJ S w w'){B:Nat}(hB:B<=w.heap.size)(hs:∀k,S k->B<=k):Below B w w':=
 ⟨h.os,h.tape,h.output,h.size,fun k hk=>h.block k (by omega) (fun x=>by have:=hs k x;omega)⟩
theorem zJ.setCell{S:Nat->Prop}{w w':World}(h:zJ S w w'){p:Addr}(hp:S p.block)(u:Value):zJ S w (w'.setCell p u):=
 h.trans ⟨rfl,rfl,rfl,by simp,fun k _ hs=>Below.heap_setCell _ _ _ _ (fun e=>hs (e▸hp))⟩
theorem zJ.put(w:World)(b o:Nat)(u:Value):zJ (fun k=>k=b) w (w.setCell ⟨b,o,none⟩ u):=
 (zJ.refl (fun k=>k=b) w).setCell (p:=⟨b,o,none⟩) rfl u
theorem zJ.cell{S:Nat->Prop}{w w':World}(h:zJ S w w'){b o:Nat}(hb:b<w.heap.size)(hs:¬S b):w'.cell? ⟨b,o,none⟩=w.cell? ⟨b,o,none⟩:=
 World.cell?_of_block (w:=w) (h.block b hb hs)
theorem zJ.frozen{S:Nat->Prop}{w w':World}(h:zJ S w w'){b o:Nat}(hb:b<w.heap.size)(hs:¬S b):w'.frozen? ⟨b,o,none⟩=w.frozen? ⟨b,o,none⟩:=
 World.frozen?_of_block (w:=w) (h.block b hb hs)
def zY(w:World)(b o:Nat)(v:Value):Prop:=w.cell? ⟨b,o,none⟩=some v/\w.frozen? ⟨b,o,none⟩=false
theorem zY.lt{w:World}{b o:Nat}{v:Value}(h:zY w b o v):b<w.heap.size:=zH h.1
theorem zY.zeG{S:Nat->Prop}{w w':World}{b o:Nat}{v:Value}(h:zY w b o v)(t:zJ S w w')(hs:¬S b):zY w' b o v:=
 ⟨(t.cell h.lt hs).trans h.1,(t.frozen h.lt hs).trans h.2⟩
theorem zY.zeF{w w':World}{b o:Nat}{v:Value}(h:zY w b o v)(t:Below w.heap.size w w'):zY w' b o v:=
 ⟨(t.cell h.lt).trans h.1,(t.frozen h.lt).trans h.2⟩
theorem zY.set{w:World}{b o:Nat}{v:Value}(h:zY w b o v)(u:Value):zY (w.setCell ⟨b,o,none⟩ u) b o u:=
 ⟨World.cell?_setCell_same' _ _ _ (by rw[h.1];rfl),by rw[World.frozen?_setCell];exact h.2⟩
theorem zY.other{w:World}{b o:Nat}{v:Value}(h:zY w b o v){b' o':Nat}(u:Value)(aA:b'≠b\/o'≠o):zY (w.setCell ⟨b',o',none⟩ u) b o v:=by
 refine⟨?_,by rw[World.frozen?_setCell];exact h.2⟩;rw[World.cell?_setCell_other]
 ·exact h.1
 ·intro e;simp only[Addr.mk.injEq]at e;rcases aA with h | h
  ·exact h e.1
  ·exact h e.2.1
def zZv(w:World)(b:Nat):Nat->List Value->World
 | _,[]=>w
 | o,u :: us=>zZv (w.setCell ⟨b,o,none⟩ u) b (o+1) us
theorem zNj{b j:Nat}{v:Value}:∀(us:List Value) (w:World) (o:Nat),zY w b j v->j<o\/o+us.length<=j->zY (zZv w b o us) b j v
 | [],_,_,h,_=>h
 | u :: us,w,o,h,hj=>by
  rw[List.length_cons]at hj;exact zNj us _ (o+1) (h.other u (Or.inr (by omega))) (by omega)
theorem zKG{b:Nat}{u v:Value}:∀(us:List Value) (w:World) (o i j:Nat),us[i]?=some u->o+i=j->zY w b j v->zY (zZv w b o us) b j u
 | [],_,_,_,_,h,_,_=>by simp at h
 | x :: us,w,o,0,j,h,e,hc=>by
  obtain rfl:x=u:=(by simpa using h);obtain rfl:o=j:=e;exact zNj us _ (o+1) (hc.set x) (Or.inl (by omega))
 | x :: us,w,o,i+1,j,h,e,hc=>zKG us _ (o+1) i j (by simpa using h) (by omega) (hc.other x (Or.inr (by omega)))
def zd8(w:World)(b:Nat)(a:Option Addr)(n cap:Nat):Prop:=n<cap->0<n/\a=some ⟨b,0,none⟩/\cap<=maxLen/\∃cur,w.heap[b]?=some (.cells cur 2 (0,0))/\cur.size=cap
def zDU(w:World)(b:Nat)(v:Value)(n:Nat)(f:Nat->Int):Prop:=
 n<=maxLen/\∃a cap,v = .slice a n cap/\n<=cap/\(0<n->∃off,a=some ⟨b,off,none⟩/\∀i,i<n->zY w b (off+i) (.int .i64 (f i)))/\zd8 w b a n cap
def zAY(w:World)(b:Nat)(v:Value)(n:Nat)(fs fb:Nat->Int):Prop:=
 n<=maxLen/\∃a cap,v = .slice a n cap/\n<=cap/\(0<n->∃off,a=some ⟨b,off,none⟩/\∀i,i<n->zY w b (off+i*2) (.int .i64 (fs i))/\zY w b (off+i*2+1) (.int .i64 (fb i)))
theorem zDU.at{w:World}{b:Nat}{v:Value}{n:Nat}{f:Nat->Int}(h:zDU w b v n f){lo hi:Nat}(hb:0<n->lo<=b/\b<hi):zCn w lo hi v n f:=by
 obtain⟨h0,a,cap,hv,aA,hc,hr⟩:=h;refine⟨h0,a,cap,hv,aA,fun hn=>?_⟩;obtain⟨off,ha,h3⟩:=hc hn;exact⟨b,off,ha,(hb hn).1,(hb hn).2,fun i hi=>(h3 i hi).1⟩
theorem zAY.at{w:World}{b:Nat}{v:Value}{n:Nat}{f g:Nat->Int}(h:zAY w b v n f g){lo hi:Nat}(hb:0<n->lo<=b/\b<hi):qn w lo hi v n f g:=by
 obtain⟨h0,a,cap,hv,aA,hc⟩:=h;refine⟨h0,a,cap,hv,aA,fun hn=>?_⟩;obtain⟨off,ha,h3⟩:=hc hn;exact⟨b,off,ha,(hb hn).1,(hb hn).2,fun i hi=>⟨(h3 i hi).1.1,(h3 i hi).2.1⟩⟩
theorem zDU.zeG{S:Nat->Prop}{w w':World}{b:Nat}{v:Value}{n:Nat}{f:Nat->Int}(h:zDU w b v n f)(t:zJ S w w')(hs:0<n->¬S b):zDU w' b v n f:=by
 obtain⟨h0,a,cap,hv,bA,hc,hr⟩:=h;refine⟨h0,a,cap,hv,bA,fun hn=>?_,fun cA=>?_⟩;rotate_left
 ·obtain⟨r0,r1,r2,aA,r3,r4⟩:=hr cA;exact⟨r0,r1,r2,aA,(t.block b (Array.getElem?_eq_some_iff.1 r3).1 (hs r0)).trans r3,r4⟩
 obtain⟨off,ha,h3⟩:=hc hn;exact⟨off,ha,fun i hi=>(h3 i hi).zeG t (hs hn)⟩
theorem zAY.zeG{S:Nat->Prop}{w w':World}{b:Nat}{v:Value}{n:Nat}{f g:Nat->Int}(h:zAY w b v n f g)(t:zJ S w w')(hs:0<n->¬S b):zAY w' b v n f g:=by
 obtain⟨h0,a,cap,hv,aA,hc⟩:=h;refine⟨h0,a,cap,hv,aA,fun hn=>?_⟩;obtain⟨off,ha,h3⟩:=hc hn;exact⟨off,ha,fun i hi=>⟨(h3 i hi).1.zeG t (hs hn),(h3 i hi).2.zeG t (hs hn)⟩⟩
theorem zAY.zeF{w w':World}{b:Nat}{v:Value}{n:Nat}{f g:Nat->Int}(h:zAY w b v n f g)(t:Below w.heap.size w w'):zAY w' b v n f g:=
 h.zeG (zJ.zeH (S:=fun _=>False) t) (fun _ h=>h)
theorem zDU.zeF{w w':World}{b:Nat}{v:Value}{n:Nat}{f:Nat->Int}(h:zDU w b v n f)(t:Below w.heap.size w w'):zDU w' b v n f:=
 h.zeG (zJ.zeH (S:=fun _=>False) t) (fun _ h=>h)
structure zE0 (w:World) (bs o kb:Nat) (kv:Value) (s:zN):Prop where
 birth:zY w bs o (.int .i64 s.birth)
 kidsv:zY w bs (o+1) kv
 data:zY w bs (o+2) (.string s.data)
 kids:zAY w kb kv s.kn s.ks s.kb
 zeP:s.data.size<=maxLen
 zeN:0<s.kn->kb≠bs
theorem zE0.zeG{S:Nat->Prop}{w w':World}{bs o kb:Nat}{kv:Value}{s:zN}(h:zE0 w bs o kb kv s)(t:zJ S w w')(h1:¬S bs)(h2:0<s.kn->¬S kb):zE0 w' bs o kb kv s:=
 ⟨h.birth.zeG t h1,h.kidsv.zeG t h1,h.data.zeG t h1,h.kids.zeG t h2,h.zeP,h.zeN⟩
theorem zE0.zeF{w w':World}{bs o kb:Nat}{kv:Value}{s:zN}(h:zE0 w bs o kb kv s)(t:Below w.heap.size w w'):zE0 w' bs o kb kv s:=
 h.zeG (zJ.zeH (S:=fun _=>False) t) (fun h=>h) (fun _ h=>h)
theorem zE0.at{w:World}{bs o kb:Nat}{kv:Value}{s:zN}(h:zE0 w bs o kb kv s){lo hi:Nat}(hb:0<s.kn->lo<=kb/\kb<hi):zCK w lo hi (.int .i64 s.birth) kv (.string s.data) s:=
 ⟨rfl,h.kids.at hb,rfl,h.zeP⟩
def zCL(w:World)(bs:Nat)(kb:Nat->Nat)(kv:Nat->Value)(v:Value)(n:Nat)(f:Nat->zN):Prop:=
 n<=maxLen/\∃a cap,v = .slice a n cap/\n<=cap/\(0<n->∃off,a=some ⟨bs,off,none⟩/\∀i,i<n->zE0 w bs (off+i*3) (kb i) (kv i) (f i))
def zGH(kb:Nat->Nat)(n:Nat)(f:Nat->zN):Prop:=∀i j,i<n->j<n->i≠j->0<(f i).kn->0<(f j).kn->kb i≠kb j
def zag(lo hi bs:Nat)(kb:Nat->Nat)(n:Nat)(f:Nat->zN):Prop:=0<n->(lo<=bs/\bs<hi)/\∀i,i<n->0<(f i).kn->lo<=kb i/\kb i<hi
theorem zCL.at{w:World}{bs:Nat}{kb:Nat->Nat}{kv:Nat->Value}{v:Value}{n:Nat}{f:Nat->zN}(h:zCL w bs kb kv v n f){lo hi:Nat}(hb:zag lo hi bs kb n f):zA3 w lo hi v n f:=by
 obtain⟨h0,a,cap,hv,aA,hc⟩:=h;refine⟨h0,a,cap,hv,aA,fun hn=>?_⟩;obtain⟨off,ha,h3⟩:=hc hn;refine⟨bs,off,ha,(hb hn).1.1,(hb hn).1.2,fun i hi=>?_⟩;exact⟨_,_,_,(h3 i hi).birth.1,(h3 i hi).kidsv.1,(h3 i hi).data.1,(h3 i hi).at ((hb hn).2 i hi)⟩
theorem zCL.zeF{w w':World}{bs:Nat}{kb:Nat->Nat}{kv:Nat->Value}{v:Value}{n:Nat}{f:Nat->zN}(h:zCL w bs kb kv v n f)(t:Below w.heap.size w w'):zCL w' bs kb kv v n f:=by
 obtain⟨h0,a,cap,hv,aA,hc⟩:=h;refine⟨h0,a,cap,hv,aA,fun hn=>?_⟩;obtain⟨off,ha,h3⟩:=hc hn;exact⟨off,ha,fun i hi=>(h3 i hi).zeF t⟩
theorem zCL.zeG{S:Nat->Prop}{w w':World}{bs:Nat}{kb:Nat->Nat}{kv:Nat->Value}{v:Value}{n:Nat}{f:Nat->zN}(h:zCL w bs kb kv v n f)(t:zJ S w w')
  (h1:0<n->¬S bs) (h2:∀i,i<n->0<(f i).kn->¬S (kb i)):zCL w' bs kb kv v n f:=by
 obtain⟨h0,a,cap,hv,aA,hc⟩:=h;refine⟨h0,a,cap,hv,aA,fun hn=>?_⟩;obtain⟨off,ha,h3⟩:=hc hn;exact⟨off,ha,fun i hi=>(h3 i hi).zeG t (h1 hn) (h2 i hi)⟩
def zAT(w:World)(b:Nat)(v0 v1:Value):Prop:=zY w b 0 v0/\zY w b 1 v1
theorem zAT.zeF{w w':World}{b:Nat}{v0 v1:Value}(h:zAT w b v0 v1)(t:Below w.heap.size w w'):zAT w' b v0 v1:=⟨h.1.zeF t,h.2.zeF t⟩
theorem zAT.zeG{S:Nat->Prop}{w w':World}{b:Nat}{v0 v1:Value}(h:zAT w b v0 v1)(t:zJ S w w')(hs:¬S b):zAT w' b v0 v1:=⟨h.1.zeG t hs,h.2.zeG t hs⟩
theorem zAT.new(w:World)(v0 v1:Value)(t:TypeId):zAT (w.alloc (.cells #[v0,v1] t)) w.heap.size v0 v1:=
 ⟨⟨by rw[World.cell?_alloc_at (hn:=rfl)];rfl,by rw[World.frozen?_alloc_at (hn:=rfl)]⟩,⟨by rw[World.cell?_alloc_at (hn:=rfl)];rfl,by rw[World.frozen?_alloc_at (hn:=rfl)]⟩⟩
def zEb(w:World)(b:Nat)(v0 v1 v2:Value):Prop:=zY w b 0 v0/\zY w b 1 v1/\zY w b 2 v2
theorem zEb.zeF{w w':World}{b:Nat}{v0 v1 v2:Value}(h:zEb w b v0 v1 v2)(t:Below w.heap.size w w'):zEb w' b v0 v1 v2:=⟨h.1.zeF t,h.2.1.zeF t,h.2.2.zeF t⟩
theorem zEb.new(w:World)(v0 v1 v2:Value)(t:TypeId):zEb (w.alloc (.cells #[v0,v1,v2] t)) w.heap.size v0 v1 v2:=
 ⟨⟨by rw[World.cell?_alloc_at (hn:=rfl)];rfl,by rw[World.frozen?_alloc_at (hn:=rfl)]⟩,⟨by rw[World.cell?_alloc_at (hn:=rfl)];rfl,by rw[World.frozen?_alloc_at (hn:=rfl)]⟩,⟨by rw[World.cell?_alloc_at (hn:=rfl)];rfl,by rw[World.frozen?_alloc_at (hn:=rfl)]⟩⟩
theorem zEb.put{w:World}{b:Nat}{v0 v1 v2:Value}(h:zEb w b v0 v1 v2)(u0 u1 u2:Value):zEb (((w.setCell ⟨b,0,none⟩ u0).setCell ⟨b,1,none⟩ u1).setCell ⟨b,2,none⟩ u2) b u0 u1 u2:=
 ⟨((h.1.set u0).other _ (Or.inr (by omega))).other _ (Or.inr (by omega)),((h.2.1.other _ (Or.inr (by omega))).set u1).other _ (Or.inr (by omega)),((h.2.2.other _ (Or.inr (by omega))).other _ (Or.inr (by omega))).set u2⟩
theorem zAT.put{w:World}{b:Nat}{v0 v1:Value}(h:zAT w b v0 v1)(u0 u1:Value):zAT ((w.setCell ⟨b,0,none⟩ u0).setCell ⟨b,1,none⟩ u1) b u0 u1:=
 ⟨(h.1.set u0).other _ (Or.inr (by omega)),(h.2.other _ (Or.inr (by omega))).set u1⟩
theorem zEb.other{w:World}{b:Nat}{v0 v1 v2:Value}(h:zEb w b v0 v1 v2){b' o':Nat}(u:Value)(aA:b'≠b):zEb (w.setCell ⟨b',o',none⟩ u) b v0 v1 v2:=
 ⟨h.1.other u (Or.inl aA),h.2.1.other u (Or.inl aA),h.2.2.other u (Or.inl aA)⟩
theorem zD(w:World)(o:Obj):Below w.heap.size w (w.alloc o):=(Below.refl _ _).alloc (Nat.le_refl _) o
theorem zK{w:World}{b i:Nat}{cs:Array Value}{t:TypeId}{v:Value}(h:w.heap[b]?=some (.cells cs t))(hi:cs[i]?=some v):zY w b i v:=by
 refine⟨?_,?_⟩
 ·simp[World.cell?,h,hi]
 ·simp[World.frozen?,h]
theorem zHM{w:World}{b o:Nat}{cs:Array Value}{t:TypeId}(v:Value)(h:w.heap[b]?=some (.cells cs t)):(w.setCell ⟨b,o,none⟩ v).heap[b]?=some (.cells (cs.setIfInBounds o v) t):=by
 simp[World.setCell,Array.getElem?_modify,h]
theorem zs{w:World}{base e size:Nat}{v:Value}{n:Nat}{xs:List Value}(h:w.ownsRow base e size v n xs):∃a cap,v = .slice a n cap/\n<=cap:=by
 obtain⟨_,⟨h,rfl⟩ | ⟨g,cap,bA,hv,_,_,aA,_⟩⟩:=h
 ·exact⟨none,0,h,Nat.le_refl _⟩
 ·exact⟨_,cap,hv,aA⟩
theorem zCm{w:World}{base e size:Nat}{v:Value}{n:Nat}{xs:List Value}(h:w.ownsRow base e size v n xs)(hn:0<n) :
  ∃g cap,v = .slice (some ⟨g,0,none⟩) n cap/\n<=cap/\base<=g/\g<w.heap.size/\∀j u,xs[j]?=some u->zY w g j u:=by
 obtain⟨_,⟨h,rfl⟩ | ⟨g,cap,bA,hv,hb,hg,h1,h2,h3,h4⟩⟩:=h
 ·omega
 ·refine⟨g,cap,hv,h1,hb,?_,fun j u hj=>?_⟩
  ·by_cases cA:g<w.heap.size
   ·exact cA
   ·rw[Array.getElem?_eq_none (by omega)]at hg;simp at hg
  ·refine⟨?_,?_⟩
   ·simp only[World.cell?,hg];have aA:(bA.toList.take (n*size))[j]?=some u:=(by rw[h4];exact hj);rw[List.getElem?_take]at aA;split at aA
    ·simpa using aA
    ·simp at aA
   ·simp only[World.frozen?,hg];simp
def zLk(s:zN):Prop:=zBW s.birth/\s.kn=0/\s.data.size=16
def zRG(s:zN):Prop:=zBW s.birth/\s.kn=8/\s.data.toList.isEmpty=true
theorem zGy(v0 v1 v2:Value)(lo hi:Nat)(s:zN)(w:World)(h1:zCK w lo hi v0 v1 v2 s) :
  Calls Tryz.prog 152 #[.agg #[v0,v1,v2]] w fun e w'=>zL (zAO s) e/\Below w.heap.size w w':=by
 obtain⟨rfl,⟨m1,a,c,rfl,_⟩,rfl,_⟩:=h1;unfold maxLen at m1;have aA:=(Below.refl w.heap.size w).alloc (Nat.le_refl _) (.cells #[.int .i64 s.birth,.slice a s.kn c,.string s.data] 101);by_cases h1:s.birth=0
 ·by_cases h2:s.kn=0
  ·by_cases h3:s.data.toList.isEmpty=true
   ·have H:Hid (zAO s):=⟨h1,h2,h3⟩;have e1:(s.birth == 0)=true:=(by simp[h1]);have e2:((s.kn:Int) == 0)=true:=(by simp[h2]);clear h1 h2;go_enter Tryz.func152,Tryz.ntmps152;go_wp2;go_ret;exact⟨zL.yes H.out,aA⟩
   ·have H:Hid (¬zAO s):=fun h=>h3 h.2.2
    have e1:(s.birth == 0)=true:=(by simp[h1]);have e2:((s.kn:Int) == 0)=true:=(by simp[h2]);have e3:s.data.toList.isEmpty=false:=(by simpa using h3);clear h1 h2 h3;go_enter Tryz.func152,Tryz.ntmps152;go_wp2;go_ret;exact⟨zL.no H.out,aA⟩
  ·have H:Hid (¬zAO s):=fun h=>h2 h.2.1
   have e1:(s.birth == 0)=true:=(by simp[h1]);have e2:((s.kn:Int) == 0)=false:=(by simp;omega);clear h1 h2;go_enter Tryz.func152,Tryz.ntmps152;go_wp2;go_ret;exact⟨zL.no H.out,aA⟩
 ·have H:Hid (¬zAO s):=fun h=>h1 h.1
  have e1:(s.birth == 0)=false:=(by simp[h1]);clear h1;go_enter Tryz.func152,Tryz.ntmps152;go_wp2;go_ret;exact⟨zL.no H.out,aA⟩
theorem zAm(n:Int)(w:World):Calls Tryz.prog 179 #[.int .i64 n] w fun e w'=>zL (zBW n) e/\w'=w:=by
 by_cases h1:1<=n
 ·by_cases h2:n<=1000000
  ·go_enter Tryz.func179,Tryz.ntmps179;go_wp2;go_ret;exact⟨zL.yes ⟨h1,h2⟩,rfl⟩
  ·go_enter Tryz.func179,Tryz.ntmps179;go_wp2;go_ret;exact⟨zL.no fun h=>by have:=h.2;omega,rfl⟩
 ·go_enter Tryz.func179,Tryz.ntmps179;go_wp2;go_ret;exact⟨zL.no fun h=>by have:=h.1;omega,rfl⟩
theorem zM1(v0 v1 v2:Value)(lo hi:Nat)(s:zN)(w:World)(h1:zCK w lo hi v0 v1 v2 s) :
  Calls Tryz.prog 153 #[.agg #[v0,v1,v2]] w fun e w'=>zL (zLk s) e/\Below w.heap.size w w':=by
 obtain⟨rfl,⟨m1,a,c,rfl,_⟩,rfl,m2⟩:=h1;unfold maxLen at m1 m2;have aA:=(Below.refl w.heap.size w).alloc (Nat.le_refl _) (.cells #[.int .i64 s.birth,.slice a s.kn c,.string s.data] 101);by_cases h1:zBW s.birth
 ·have HB:Hid (zBW s.birth):=h1;by_cases h2:s.kn=0
  ·by_cases h3:s.data.size=16
   ·have H:Hid (zLk s):=⟨h1,h2,h3⟩;have e2:((s.kn:Int) == 0)=true:=(by simp[h2]);have e3:((s.data.size:Int) == 16)=true:=(by simp[h3]);clear h1 h2 h3;go_enter Tryz.func153,Tryz.ntmps153;go_wp2_with (go_at_call 179;refine(zAm _ _).mono ?_;rintro e w' ⟨⟨t,rfl,ht⟩,rfl⟩;obtain rfl:t=true:=ht.2 HB.out;clear ht);go_ret;exact⟨zL.yes H.out,aA⟩
   ·have H:Hid (¬zLk s):=fun h=>h3 h.2.2
    have e2:((s.kn:Int) == 0)=true:=(by simp[h2]);have e3:((s.data.size:Int) == 16)=false:=(by simp;omega);clear h1 h2 h3;go_enter Tryz.func153,Tryz.ntmps153;go_wp2_with (go_at_call 179;refine(zAm _ _).mono ?_;rintro e w' ⟨⟨t,rfl,ht⟩,rfl⟩;obtain rfl:t=true:=ht.2 HB.out;clear ht);go_ret;exact⟨zL.no H.out,aA⟩
  ·have H:Hid (¬zLk s):=fun h=>h2 h.2.1
   have e2:((s.kn:Int) == 0)=false:=(by simp;omega);clear h1 h2;go_enter Tryz.func153,Tryz.ntmps153;go_wp2_with (go_at_call 179;refine(zAm _ _).mono ?_;rintro e w' ⟨⟨t,rfl,ht⟩,rfl⟩;obtain rfl:t=true:=ht.2 HB.out;clear ht);go_ret;exact⟨zL.no H.out,aA⟩
 ·have HB:Hid (¬zBW s.birth):=h1;clear h1;go_enter Tryz.func153,Tryz.ntmps153;go_wp2_with (go_at_call 179;refine(zAm _ _).mono ?_;rintro e w' ⟨⟨t,rfl,ht⟩,rfl⟩;obtain rfl:t=false:=qj ht HB.out;clear ht);go_ret;exact⟨zL.no fun h=>HB.out h.1,aA⟩
theorem zTr(v0 v1 v2:Value)(lo hi:Nat)(s:zN)(w:World)(h1:zCK w lo hi v0 v1 v2 s) :
  Calls Tryz.prog 154 #[.agg #[v0,v1,v2]] w fun e w'=>zL (zRG s) e/\Below w.heap.size w w':=by
 obtain⟨rfl,⟨m1,a,c,rfl,_⟩,rfl,m2⟩:=h1;unfold maxLen at m1 m2;have aA:=(Below.refl w.heap.size w).alloc (Nat.le_refl _) (.cells #[.int .i64 s.birth,.slice a s.kn c,.string s.data] 101);by_cases h1:zBW s.birth
 ·have HB:Hid (zBW s.birth):=h1;by_cases h2:s.kn=8
  ·by_cases h3:s.data.toList.isEmpty=true
   ·have H:Hid (zRG s):=⟨h1,h2,h3⟩;have e2:((s.kn:Int) == 8)=true:=(by simp[h2]);clear h1 h2;go_enter Tryz.func154,Tryz.ntmps154;go_wp2_with (go_at_call 179;refine(zAm _ _).mono ?_;rintro e w' ⟨⟨t,rfl,ht⟩,rfl⟩;obtain rfl:t=true:=ht.2 HB.out;clear ht);go_ret;exact⟨zL.yes H.out,aA⟩
   ·have H:Hid (¬zRG s):=fun h=>h3 h.2.2
    have e2:((s.kn:Int) == 8)=true:=(by simp[h2]);have e3:s.data.toList.isEmpty=false:=(by simpa using h3);clear h1 h2 h3;go_enter Tryz.func154,Tryz.ntmps154;go_wp2_with (go_at_call 179;refine(zAm _ _).mono ?_;rintro e w' ⟨⟨t,rfl,ht⟩,rfl⟩;obtain rfl:t=true:=ht.2 HB.out;clear ht);go_ret;exact⟨zL.no H.out,aA⟩
  ·have H:Hid (¬zRG s):=fun h=>h2 h.2.1
   have e2:((s.kn:Int) == 8)=false:=(by simp;omega);clear h1 h2;go_enter Tryz.func154,Tryz.ntmps154;go_wp2_with (go_at_call 179;refine(zAm _ _).mono ?_;rintro e w' ⟨⟨t,rfl,ht⟩,rfl⟩;obtain rfl:t=true:=ht.2 HB.out;clear ht);go_ret;exact⟨zL.no H.out,aA⟩
 ·have HB:Hid (¬zBW s.birth):=h1;clear h1;go_enter Tryz.func154,Tryz.ntmps154;go_wp2_with (go_at_call 179;refine(zAm _ _).mono ?_;rintro e w' ⟨⟨t,rfl,ht⟩,rfl⟩;obtain rfl:t=false:=qj ht HB.out;clear ht);go_ret;exact⟨zL.no fun h=>HB.out h.1,aA⟩
theorem zWi(v:Value)(n lo hi:Nat)(f:Nat->Int)(x:Int)(w:World)(h1:zCn w lo hi v n f) :
  Calls Tryz.prog 181 #[v,.int .i64 x] w fun e w'=>(∃r:Int,e = .returned (.int .i64 r)/\(0<=r↔Has n f x))/\w'=w:=by
 obtain⟨m1,a,c,rfl,mc,g1⟩:=h1;unfold maxLen at m1;have G1:Hid (0<n->∃b off,a=some ⟨b,off,none⟩/\lo<=b/\b<hi/\∀i,i<n->w.cell? ⟨b,off+i,none⟩=some (.int .i64 (f i))):=g1;clear g1;go_enter Tryz.func181,Tryz.ntmps181;go_wp2
 go_loop [8] (fun i=>∃k:Nat,k<=n/\i = .int .i64 k/\¬Has k f x) (fun i=>n - (intOf i).toNat)
 case atStart=>exact⟨0,Nat.zero_le _,rfl,fun ⟨j,hj,_⟩=>absurd hj (Nat.not_lt_zero _)⟩
 case round=>
  obtain⟨k,hk,rfl,dA⟩:=hrel;have aA:Hid (¬Has k f x):=dA;clear dA;by_cases cA:k<n
  ·have fA:(k:Int)<(n:Int):=(by omega);obtain⟨b,off,rfl,_,_,k1⟩:=G1.out (by omega);have gA:=k1 k cA;clear k1 G1;by_cases he:f k=x
   ·have H:Hid (Has n f x):=⟨k,cA,he⟩;have eA:(x == f k)=true:=(by simp[he]);clear he;go_wp2;go_ret;exact⟨⟨_,rfl,⟨fun _=>H.out,fun _=>Int.natCast_nonneg _⟩⟩,rfl⟩
   ·have H:Hid (¬f k=x):=he;have eA:(x == f k)=false:=(by simp;exact fun e=>he e.symm);clear he;go_wp2
    go_round
    case rel=>
     refine⟨k+1,by omega,by go_num,?_⟩;rintro⟨j,hj,bA⟩;by_cases e:j=k
     ·subst e;exact H.out bA
     ·exact aA.out ⟨j,by omega,bA⟩
    case measure=>simp[intOf];omega
  ·obtain rfl:k=n:=(by omega);go_wp2;go_ret;exact⟨⟨-1,rfl,⟨fun h=>absurd h (by omega),fun h=>absurd h aA.out⟩⟩,rfl⟩
theorem zE1(v:Value)(n lo hi:Nat)(f:Nat->Int)(x:Int)(w:World)(h1:zCn w lo hi v n f) :
  Calls Tryz.prog 157 #[v,.int .i64 x] w fun e w'=>zL (Has n f x) e/\w'=w:=by
 have Hi:Hid (zCn w lo hi v n f):=h1;obtain⟨m1,a,c,rfl,mc,g1⟩:=h1;clear g1;go_enter Tryz.func157,Tryz.ntmps157;go_wp2_with fail;refine(zWi _ n lo hi f x _ Hi.out).mono ?_;rintro e w' ⟨⟨r,rfl,hr⟩,rfl⟩;have Hr:Hid (0<=r↔Has n f x):=hr;clear hr;go_wp2;go_ret;exact⟨⟨_,rfl,by simpa using Hr.out⟩,rfl⟩
def zDq(n:Nat)(f:Nat->zN)(x ps pb:Int):Prop:=
 (0<=x/\x<n/\¬zAO (f x.toNat)/\ps=x/\pb=(f x.toNat).birth)\/(¬(0<=x/\x<n/\¬zAO (f x.toNat))/\ps=0/\pb=0)
theorem zIL(v:Value)(n lo hi:Nat)(f:Nat->zN)(x:Int)(w:World)(h1:zA3 w lo hi v n f) :
  Calls Tryz.prog 156 #[v,.int .i64 x] w fun e w'=>(∃ps pb,e = .returned (.agg #[.int .i64 ps,.int .i64 pb])/\zDq n f x ps pb)/\Below w.heap.size w w':=by
 have Hi:Hid (zA3 w lo hi v n f):=h1;obtain⟨m1,a,c,rfl,mc,g1⟩:=h1;unfold maxLen at m1;clear g1;have bA:Hid (Below w.heap.size w (w.alloc (.cells #[.int .i64 0,.int .i64 0] 38))):=zD _ _;by_cases h1:x<0
 ·have H:Hid (zDq n f x 0 0):=Or.inr ⟨fun h=>by omega,rfl,rfl⟩;go_enter Tryz.func156,Tryz.ntmps156;go_wp2;refine bodyPost_ret (v:=.agg #[.int .i64 0,.int .i64 0]) (by simp[results,Tryz.results156,go_sem]) rfl ⟨⟨0,0,rfl,H.out⟩,bA.out⟩
 ·by_cases h2:(n:Int)<=x
  ·have H:Hid (zDq n f x 0 0):=Or.inr ⟨fun h=>by omega,rfl,rfl⟩;go_enter Tryz.func156,Tryz.ntmps156;go_wp2;refine bodyPost_ret (v:=.agg #[.int .i64 0,.int .i64 0]) (by simp[results,Tryz.results156,go_sem]) rfl ⟨⟨0,0,rfl,H.out⟩,bA.out⟩
  ·obtain⟨k,rfl⟩:=Int.eq_ofNat_of_zero_le (show 0<=x by omega);have hk:k<n:=(by omega);have dA:(k:Int)<(n:Int):=(by omega);obtain⟨b,off,ka,kc,rfl,hs⟩:=Hi.out.cells hk;have Hs:Hid (zEA w b (off+k*3) lo hi ka kc (f k)):=hs;have eA:=zH hs.c0;obtain⟨q0,q1,q2,_⟩:=hs;by_cases hf:zAO (f k)
   ·have H:Hid (zDq n f k 0 0):=Or.inr ⟨fun h=>h.2.2 (by rw[Int.toNat_natCast];exact hf),rfl,rfl⟩;have HF:Hid (zAO (f k)):=hf;clear hf;go_enter Tryz.func156,Tryz.ntmps156;go_wp2_with fail;refine(zGy _ _ _ lo hi (f k) _ (Hs.out.slot.zeF bA.out)).mono ?_;rintro e w1 ⟨⟨t,rfl,hx⟩,aA⟩;obtain rfl:t=true:=hx.2 HF.out;clear hx;have HX:Hid (zAT w1 w.heap.size (.int .i64 0) (.int .i64 0)):=(zAT.new w _ _ _).zeF aA;have cA:=zA bA.out aA;clear aA q0 q1 q2;obtain⟨⟨y0,y1⟩,⟨y2,y3⟩⟩:=HX.out;go_wp2;have HY:=HX.out.put (.int .i64 0) (.int .i64 0);refine bodyPost_ret (v:=.agg #[.int .i64 0,.int .i64 0]) (by simp[results,Tryz.results156,go_sem,HY.1.1,HY.2.1]) rfl ⟨⟨0,0,rfl,H.out⟩,(cA.setCell (Nat.le_refl _) _).setCell (Nat.le_refl _) _⟩
   ·have H:Hid (zDq n f k k (f k).birth):=Or.inl ⟨by omega,dA,by rw[Int.toNat_natCast];exact hf,rfl,by rw[Int.toNat_natCast]⟩;have HF:Hid (¬zAO (f k)):=hf;clear hf;go_enter Tryz.func156,Tryz.ntmps156;go_wp2_with fail;refine(zGy _ _ _ lo hi (f k) _ (Hs.out.slot.zeF bA.out)).mono ?_;rintro e w1 ⟨⟨t,rfl,hx⟩,aA⟩;obtain rfl:t=false:=qj hx HF.out;clear hx;have HX:Hid (zAT w1 w.heap.size (.int .i64 0) (.int .i64 0)):=(zAT.new w _ _ _).zeF aA;have cA:=zA bA.out aA;have q5:=(Hs.out.zeF cA).c0;clear aA q0 q1 q2;obtain⟨⟨y0,y1⟩,⟨y2,y3⟩⟩:=HX.out;go_wp2;have HY:=HX.out.put (.int .i64 k) (.int .i64 (f k).birth);refine bodyPost_ret (v:=.agg #[.int .i64 k,.int .i64 (f k).birth]) (by simp[results,Tryz.results156,go_sem,HY.1.1,HY.2.1]) rfl ⟨⟨_,_,rfl,H.out⟩,(cA.setCell (Nat.le_refl _) _).setCell (Nat.le_refl _) _⟩
theorem zNo{P:Program}(w:World)(dT sT ty elem:TypeId)(size g o aA dA:Nat)(a:Addr)(bA gA:Nat)(cA:Array Value)(t:TypeId)(cs:List Value)
  (hu:P.underlying dT=some (.slice elem)) (hs:(P.info? elem).map (·.size)=some size)
  (hg:w.heap[g]?=some (.cells cA t (0,0))) (hn:cs.length=Nat.min bA aA*size)
  (fA:∀j v,cs[j]?=some v->w.cell? (a.add j)=some v) (eA:o+cs.length<=cA.size) (h1:∀v∈cs,v.oneCell'=true) :
  (Builtin.copy_ #[dT,sT] ty #[.slice (some ⟨g,o,none⟩) aA dA,.slice (some a) bA gA]).run P w =
   .ok (goInt (Nat.min bA aA)) (w.setRow g (cA.toList.take o ++ cs ++ cA.toList.drop (o+cs.length)).toArray):=by
 have hl:=run_loadCells_list (P:=P) w a cs fA;have iA:=run_storeCells_at P g o t cs 0 cA w hg (by simpa using eA) h1;cases hq:P.info? elem with
 | none=>simp[hq]at hs
 | some i=>
  have hi:i.size=size:=(by simpa[hq]using hs);have e:Nat.min bA aA*i.size=cs.length:=(by rw[hi,hn]);simp[Builtin.copy_,run_underlying hu,Builtin.lenOf,Builtin.firstCells,sizeOf,typeInfo,hq,e,hl,iA]
theorem zOW{P:Program}(w:World)(dT sT ty elem:TypeId)(size:Nat)(d a:Option Addr)(bA aA cA:Nat)
  (hu:P.underlying dT=some (.slice elem)) (hs:(P.info? elem).map (·.size)=some size) :
  (Builtin.copy_ #[dT,sT] ty #[.slice d bA aA,.slice a 0 cA]).run P w = .ok (goInt 0) w:=by
 cases hq:P.info? elem with
 | none=>simp[hq]at hs
 | some i=>
  cases a with
  | none=>cases d<;>simp[Builtin.copy_,run_underlying hu,Builtin.lenOf,Builtin.firstCells,sizeOf,typeInfo,hq,storeCells]
  | some a=>cases d<;>simp[Builtin.copy_,run_underlying hu,Builtin.lenOf,Builtin.firstCells,sizeOf,typeInfo,hq,storeCells,loadCells,loadCellsFrom]
def zj(s:zN)(j:Nat):Int:=if j / 2<s.kn then(if j % 2=0 then s.ks (j / 2)else s.kb (j / 2))else 0
def zAd(f:Nat->Int):Array Value:=((List.range 16).map fun j=>Value.int .i64 (f j)).toArray
def yh(s:zN):Array Value:=zAd (zj s)
theorem zAc(f:Nat->Int):(zAd f).size=16:=by simp[zAd]
theorem zDu(f:Nat->Int){j:Nat}(h:j<16):(zAd f)[j]?=some (.int .i64 (f j)):=by simp[zAd,h]
theorem zFB(f:Nat->Int):(zAd f).all (·.oneCell')=true:=by
 unfold zAd;rw[Array.all_eq_true_iff_forall_mem];intro v hv;simp at hv;obtain⟨j,_,rfl⟩:=hv;rfl
theorem zWN{f g:Nat->Int}(h:∀j,j<16->f j=g j):zAd f=zAd g:=by
 unfold zAd;congr 1;apply List.map_congr_left;intro j hj;rw[h j (by simpa using hj)]
theorem zJ0:(Tryz.prog.info? 194).map (·.size)=some 16:=by kernel_rfl
theorem zLP:(Tryz.prog.info? 38).map (·.size)=some 2:=by kernel_rfl
theorem zRS:Tryz.prog.underlying 194=some (.array 8 38):=by kernel_rfl
theorem zS3(w:World)(o1 o2 o3:Obj):(((w.alloc o1).alloc o2).alloc o3).heap[w.heap.size+1]?=some o2/\(((w.alloc o1).alloc o2).alloc o3).heap[w.heap.size+1+1]?=some o3/\w.heap.size+1+1<(((w.alloc o1).alloc o2).alloc o3).heap.size:=by
 refine⟨?_,?_,by simp⟩
 ·rw[Below.heap_alloc _ _ _ (by simp)];have:=heap_alloc_last (w.alloc o1) o2;rw[World.size_alloc]at this;exact this
 ·have:=heap_alloc_last ((w.alloc o1).alloc o2) o3;rw[World.size_alloc,World.size_alloc]at this;exact this
theorem zJ.setRow(w:World)(g:Nat)(cs:Array Value):zJ (fun k=>k=g) w (w.setRow g cs):=
 ⟨rfl,rfl,rfl,by simp[World.setRow],fun k _ hs=>setRow_other w g k cs hs⟩
theorem zNz{eA:Array Oper}{o:Oper}{a:Act}{w:World}{K:Act->World->Prop}{Q:Exit->Act->World->Prop}{E:Prop}(fA:o.guard=none)(d s:Operand)
  (ho:o.op = .call {callee:=.builtin .copy,args:=#[d,s],argTypes:=#[39,39]})
  (g:Nat) (ka:Option Addr) (kc:Nat) (sl:zN) (hd:a.eval d = .slice (some ⟨g,0,none⟩) 8 8) (hs:a.eval s = .slice ka sl.kn kc)
  (hg:w.heap[g]?=some (.cells (zAd fun _=>0) 194 (0,0))) (hk:sl.kn=0\/(sl.kn=8/\∃b off,ka=some ⟨b,off,none⟩/\∀i,i<sl.kn->w.cell? ⟨b,off+i*2,none⟩=some (.int .i64 (sl.ks i))/\w.cell? ⟨b,off+i*2+1,none⟩=some (.int .i64 (sl.kb i))))
  (h:∀w' v,Hid (w'.heap[g]?=some (.cells (yh sl) 194 (0,0)))->zJ (fun k=>k=g) w w'->K (a.put o.dst v) w') :
  if Region.wanted o (yielded eA a.tmps)=true then Oper.wp Tryz.prog o a w K Q else E:=by
 have hw:Region.wanted o (yielded eA a.tmps)=true:=by simp[Region.wanted,fA]
 rw[if_pos hw];have hu:Tryz.prog.underlying 39=some (.slice 38):=by kernel_rfl
 rcases hk with hk | ⟨hk,b,off,rfl,hc⟩
 ·rw[hk]at hs;have aA:=zOW (P:=Tryz.prog) w 39 39 o.type 38 2 (some ⟨g,0,none⟩) ka 8 8 kc hu zLP;unfold Oper.wp;simp[execOp,ho,resolve,invoke,builtin,hd,hs,aA,Result.andThen];refine h _ _ ?_ (zJ.refl _ _);show _=_;rw[hg];have:yh sl=zAd (fun _=>0):=zWN fun j _=>by unfold zj;rw[if_neg (by omega)]
  rw[this]
 ·rw[hk]at hs;have aA:=zNo (P:=Tryz.prog) w 39 39 o.type 38 2 g 0 8 8 ⟨b,off,none⟩ 8 kc (zAd fun _=>0) 194 (yh sl).toList hu zLP hg (by simp[yh,zAd]) (fun j v hj=>by
    have cA:j<16:=by
     have:=(List.getElem?_eq_some_iff.1 hj).1;simpa[yh,zAc]using this
    have e:(yh sl).toList[j]?=some (.int .i64 (zj sl j)):=(by rw[Array.getElem?_toList];exact zDu (zj sl) cA);rw[e]at hj;simp only[Option.some.injEq]at hj;subst hj;have bA:(⟨b,off,none⟩:Addr).add j=⟨b,off+j,none⟩:=(by unfold Addr.add;split<;>simp_all);rw[bA];unfold zj;rw[if_pos (by omega)];have dA:=hc (j / 2) (by omega);split
    ·rw[show off+j=off+j / 2*2 by omega];exact dA.1
    ·rw[show off+j=off+j / 2*2+1 by omega];exact dA.2) (by simp[yh,zAd]) (fun v hv=>(Array.all_eq_true_iff_forall_mem.1 (zFB _)) v (by simpa[yh]using hv))
  unfold Oper.wp;simp[execOp,ho,resolve,invoke,builtin,hd,hs,aA,Result.andThen];refine h _ _ ?_ (zJ.setRow _ _ _);show _=_;rw[setRow_heap w g _ _ 194 (0,0) hg];have e0:((zAd fun _=>0).toList.drop 16) = []:=List.drop_eq_nil_of_le (by simp[zAd]);simp[yh,zAc,e0]
theorem zJA(v0 v1 v2:Value)(lo hi:Nat)(s:zN)(w:World)(h1:zCK w lo hi v0 v1 v2 s)(hk:s.kn=0\/s.kn=8) :
  Calls Tryz.prog 176 #[.agg #[v0,v1,v2]] w fun e w'=>e = .returned (.agg (yh s))/\Below w.heap.size w w':=by
 obtain⟨rfl,⟨m1,a,c,rfl,mc,g1⟩,rfl,m2⟩:=h1;unfold maxLen at m1 m2;have G1:Hid (0<s.kn->∃b off,a=some ⟨b,off,none⟩/\lo<=b/\b<hi/\∀i,i<s.kn->w.cell? ⟨b,off+i*2,none⟩=some (.int .i64 (s.ks i))/\w.cell? ⟨b,off+i*2+1,none⟩=some (.int .i64 (s.kb i))):=g1;have Hk:Hid (s.kn=0\/s.kn=8):=hk;clear g1 hk;go_enter Tryz.func176,Tryz.ntmps176;go_wp2_with fail;obtain⟨W,hW⟩:∃W:World,W=((w.alloc (.cells #[.int .i64 s.birth,.slice a s.kn c,.string s.data] 101)).alloc (.cells #[Value.int .i64 0,Value.int .i64 0,Value.int .i64 0,Value.int .i64 0,Value.int .i64 0,Value.int .i64 0,Value.int .i64 0,Value.int .i64 0,Value.int .i64 0,Value.int .i64 0,Value.int .i64 0,Value.int .i64 0,Value.int .i64 0,Value.int .i64 0,Value.int .i64 0,Value.int .i64 0] 194)).alloc (.cells #[Value.int .i64 0,Value.int .i64 0,Value.int .i64 0,Value.int .i64 0,Value.int .i64 0,Value.int .i64 0,Value.int .i64 0,Value.int .i64 0,Value.int .i64 0,Value.int .i64 0,Value.int .i64 0,Value.int .i64 0,Value.int .i64 0,Value.int .i64 0,Value.int .i64 0,Value.int .i64 0] 194):=⟨_,rfl⟩;have jA:(#[Value.int .i64 0,Value.int .i64 0,Value.int .i64 0,Value.int .i64 0,Value.int .i64 0,Value.int .i64 0,Value.int .i64 0,Value.int .i64 0,Value.int .i64 0,Value.int .i64 0,Value.int .i64 0,Value.int .i64 0,Value.int .i64 0,Value.int .i64 0,Value.int .i64 0,Value.int .i64 0]:Array Value)=zAd (fun _=>0):=rfl;have hb:Below w.heap.size w W:=by rw[hW];exact zA (zA (zD _ _) (zD _ _)) (zD _ _)
 have Hx:Hid (zEb W w.heap.size (.int .i64 s.birth) (.slice a s.kn c) (.string s.data)):=by rw[hW];exact((zEb.new w _ _ _ _).zeF (zD _ _)).zeF (zD _ _)
 have bA:=zS3 w (.cells #[.int .i64 s.birth,.slice a s.kn c,.string s.data] 101) (.cells #[Value.int .i64 0,Value.int .i64 0,Value.int .i64 0,Value.int .i64 0,Value.int .i64 0,Value.int .i64 0,Value.int .i64 0,Value.int .i64 0,Value.int .i64 0,Value.int .i64 0,Value.int .i64 0,Value.int .i64 0,Value.int .i64 0,Value.int .i64 0,Value.int .i64 0,Value.int .i64 0] 194) (.cells #[Value.int .i64 0,Value.int .i64 0,Value.int .i64 0,Value.int .i64 0,Value.int .i64 0,Value.int .i64 0,Value.int .i64 0,Value.int .i64 0,Value.int .i64 0,Value.int .i64 0,Value.int .i64 0,Value.int .i64 0,Value.int .i64 0,Value.int .i64 0,Value.int .i64 0,Value.int .i64 0] 194);rw[<-hW]at bA;have HR:Hid (W.heap[w.heap.size+1]?=some (.cells (zAd fun _=>0) 194 (0,0))):=bA.1;have HG:Hid (W.heap[w.heap.size+1+1]?=some (.cells (zAd fun _=>0) 194 (0,0))):=bA.2.1;have kA:w.heap.size+1+1<W.heap.size:=bA.2.2;clear bA;have HC:Hid (s.kn=0\/(s.kn=8/\∃b off,a=some ⟨b,off,none⟩/\∀i,i<s.kn->W.cell? ⟨b,off+i*2,none⟩=some (.int .i64 (s.ks i))/\W.cell? ⟨b,off+i*2+1,none⟩=some (.int .i64 (s.kb i)))):=by
  rcases Hk.out with h | h
  ·exact Or.inl h
  ·obtain⟨b,off,ha,_,_,k1⟩:=G1.out (by omega);exact Or.inr ⟨h,b,off,ha,fun i hi=>⟨(hb.cell (zH (k1 i hi).1)).trans (k1 i hi).1,(hb.cell (zH (k1 i hi).2)).trans (k1 i hi).2⟩⟩
 rw[<-hW];clear hW jA;obtain⟨⟨x0,x1⟩,⟨x2,x3⟩,⟨x4,x5⟩⟩:=Hx.out
 go_region_law (refine zNz rfl (.tmp 4) (.tmp 6) rfl (w.heap.size+1+1) a c s (by simp[Act.eval]) (by simp[Act.eval]) HG.out HC.out ?_;intro w1 cv gA dA)
 have fA:w1.heap[w.heap.size+1]?=some (.cells (zAd fun _=>0) 194 (0,0)):=(dA.block _ (by show _<W.heap.size;omega) (by omega)).trans HR.out;have eA:Hid (w1.heap[w.heap.size+1]?=some (.cells (zAd fun _=>0) 194 (0,0))):=fA;have iA:Below w.heap.size w w1:=hb.drew.trans (dA.zeF (by show _<=W.heap.size;omega) (by intro k hk;omega));clear fA dA x0 x1 x2 x3 x4 x5;have cA:(Tryz.prog.info? 194).map (·.size)=some (yh s).size:=by rw[yh,zAc];exact zJ0
 have aA:Hid ((Tryz.prog.info? 194).map (·.size)=some (yh s).size):=cA;clear cA;go_wp2_with (first
  | (refine wpList_load_row rfl 194 (.tmp 3) rfl (w.heap.size+1+1) rfl 194 (yh s) (0,0) _ gA.out zRS rfl aA.out ?_)
  | (refine wpList_store_row rfl 194 (.tmp 2) (.tmp 8) rfl (w.heap.size+1) (yh s) rfl rfl 194 (zAd fun _=>0) eA.out aA.out (by rw[yh,zAc,zAc]) (zFB _) ?_))
 refine bodyPost_ret (v:=.agg (yh s)) (results_cell_row (P:=Tryz.prog) (ty:=194) Tryz.results176 _ _ (w.heap.size+1) 194 (yh s) (0,0) _ rfl (setRow_heap _ _ _ _ _ _ eA.out) zRS rfl aA.out) rfl ⟨rfl,?_⟩;exact below_setRow iA (by omega) _
def zCb(n:Nat)(f:Nat->zN)(b ks kb rs rb:Int):Prop:=
 ∃ps pb,zDq n f ks ps pb/\(((zMH ks kb 0 0\/b<pb)/\rs=0/\rb=0)\/(¬(zMH ks kb 0 0\/b<pb)/\rs=ps/\rb=pb))
theorem zQZ(v:Value)(n lo hi:Nat)(f:Nat->zN)(ks kb b:Int)(w:World)(h1:zA3 w lo hi v n f) :
  Calls Tryz.prog 180 #[v,.agg #[.int .i64 ks,.int .i64 kb],.int .i64 b] w fun e w'=>(∃rs rb,e = .returned (.agg #[.int .i64 rs,.int .i64 rb])/\zCb n f b ks kb rs rb)/\Below w.heap.size w w':=by
 have Hi:Hid (zA3 w lo hi v n f):=h1;obtain⟨m1,a,c,rfl,mc,g1⟩:=h1;clear g1;have eA:Hid (Below w.heap.size w ((w.alloc (.cells #[.int .i64 ks,.int .i64 kb] 38)).alloc (.cells #[.int .i64 0,.int .i64 0] 38))):=zA (zD _ _) (zD _ _);go_enter Tryz.func180,Tryz.ntmps180;go_wp2_with fail;refine(zIL _ n lo hi f _ _ (Hi.out.zeF eA.out)).mono ?_;rintro e w1 ⟨⟨ps,pb,rfl,hp⟩,bA⟩;have Hp:Hid (zDq n f ks ps pb):=hp;have HX:Hid (zAT w1 w.heap.size (.int .i64 ks) (.int .i64 kb)):=((zAT.new w _ _ _).zeF (zD _ _)).zeF bA;have HR:Hid (zAT w1 (w.heap.size+1) (.int .i64 0) (.int .i64 0)):=by
  have:=(zAT.new (w.alloc (.cells #[.int .i64 ks,.int .i64 kb] 38)) (.int .i64 0) (.int .i64 0) 38).zeF bA;rw[World.size_alloc]at this;exact this
 have gA:=zA eA.out bA;have hz:w.heap.size<w1.heap.size:=HX.out.1.lt;have iA:w.heap.size+1<w1.heap.size:=HR.out.1.lt;clear hp bA;obtain⟨⟨x0,x1⟩,⟨x2,x3⟩⟩:=HX.out;obtain⟨⟨y0,y1⟩,⟨y2,y3⟩⟩:=HR.out;have HY:=fun u0 u1=>(HR.out.put u0 u1).zeF (zD _ (.cells #[.int .i64 ps,.int .i64 pb] 38))
 have dA:Hid (∀u0 u1,zAT (((w1.setCell ⟨w.heap.size+1,0,none⟩ u0).setCell ⟨w.heap.size+1,1,none⟩ u1).alloc (.cells #[.int .i64 ps,.int .i64 pb] 38)) (w.heap.size+1) u0 u1):=HY;clear HY;have cA:Hid (∀u0 u1,Below w.heap.size w (((w1.setCell ⟨w.heap.size+1,0,none⟩ u0).setCell ⟨w.heap.size+1,1,none⟩ u1).alloc (.cells #[.int .i64 ps,.int .i64 pb] 38))):=fun u0 u1=>((gA.setCell (by show _<=w.heap.size+1;omega) _).setCell (by show _<=w.heap.size+1;omega) _).alloc (by simp;omega) _
 by_cases aA:zMH ks kb 0 0
 ·obtain⟨rfl,rfl⟩:=aA;have HK:Hid (zCb n f b 0 0 0 0):=⟨ps,pb,Hp.out,Or.inl ⟨Or.inl ⟨rfl,rfl⟩,rfl,rfl⟩⟩;go_wp2;have hy:=dA.out (.int .i64 0) (.int .i64 0);refine bodyPost_ret (v:=.agg #[.int .i64 0,.int .i64 0]) (by simp[results,Tryz.results180,go_sem,hy.1.1,hy.2.1]) rfl ⟨⟨_,_,rfl,HK.out⟩,cA.out _ _⟩
 ·have HN:Hid (¬zMH ks kb 0 0):=aA;have e0:(ks == 0)=false\/(ks == 0)=true/\(kb == 0)=false:=by
   by_cases h:ks=0
   ·right;refine⟨by simp[h],?_⟩;have:kb≠0:=fun h'=>aA ⟨h,h'⟩
    simp[this]
   ·left;simp[h]
  clear aA;by_cases fA:b<pb
  ·have HK:Hid (zCb n f b ks kb 0 0):=⟨ps,pb,Hp.out,Or.inl ⟨Or.inr fA,rfl,rfl⟩⟩;have hy:=dA.out (.int .i64 0) (.int .i64 0);have Hy:Hid (zAT (((w1.setCell ⟨w.heap.size+1,0,none⟩ (.int .i64 0)).setCell ⟨w.heap.size+1,1,none⟩ (.int .i64 0)).alloc (.cells #[.int .i64 ps,.int .i64 pb] 38)) (w.heap.size+1) (.int .i64 0) (.int .i64 0)):=hy;clear hy;rcases e0 with e0 | ⟨e0,e1⟩
   all_goals
    go_wp2;have hy:=Hy.out;refine bodyPost_ret (v:=.agg #[.int .i64 0,.int .i64 0]) (by simp[results,Tryz.results180,go_sem,hy.1.1,hy.2.1]) rfl ⟨⟨_,_,rfl,HK.out⟩,cA.out _ _⟩
  ·have HK:Hid (zCb n f b ks kb ps pb):=⟨ps,pb,Hp.out,Or.inr ⟨fun h=>by rcases h with h | h;exact HN.out h;exact fA h,rfl,rfl⟩⟩;rcases e0 with e0 | ⟨e0,e1⟩
   all_goals
    go_wp2;have hy:=dA.out (.int .i64 ps) (.int .i64 pb);refine bodyPost_ret (v:=.agg #[.int .i64 ps,.int .i64 pb]) (by simp[results,Tryz.results180,go_sem,hy.1.1,hy.2.1]) rfl ⟨⟨_,_,rfl,HK.out⟩,cA.out _ _⟩
end Go.Proofs.YtjganmlaooofoaaGreatDoor

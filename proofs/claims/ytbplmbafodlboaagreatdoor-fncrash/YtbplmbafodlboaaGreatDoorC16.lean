/- A part of the proof. -/
import Derived.Test.YtbplmbafodlboaaGreatDoorC14
import Derived.Test.YtbplmbafodlboaaGreatDoorC15
set_option linter.unusedVariables false
set_option maxRecDepth 20000
set_option maxHeartbeats 4000000
namespace Go.Proofs.YtbplmbafodlboaaGreatDoor
open Go.RowKit
set_option linter.unusedSimpArgs false
set_option maxRecDepth 20000
set_option maxHeartbeats 1600000
def setsE(fl:Fl)(s:Nat->zAV):Nat->Nat->Tr:=fun i c=>match c with
 | 0=>.v (.string (s i).name)
 | 1=>.v (.int .i64 (s i).origin)
 | 2=>.v (.int .i64 (s i).zc2)
 | 3=>.v (.int .i64 (s i).rs)
 | 4=>.v (.int .i64 (s i).rb)
 | 5=>.s fl 2 (s i).dn (ptrsT (s i).ds (s i).db)
 | _=>.v (.bool false)
def snapsE(fl:Fl)(s:Nat->zz):Nat->Nat->Tr:=fun i c=>match c with
 | 0=>.v (.int .i64 (s i).id)
 | 1=>.v (.string (s i).name)
 | 2=>.v (.string (s i).set)
 | 3=>.v (.int .i64 (s i).zc2)
 | 4=>.v (.int .i64 (s i).time)
 | 5=>.v (.int .i64 (s i).rs)
 | 6=>.v (.int .i64 (s i).rb)
 | 7=>.s fl 2 (s i).dn (ptrsT (s i).ds (s i).db)
 | _=>.v (.bool false)
section
variable {fl fl' : Fl} {s : Nat -> zAV} {t : Nat -> zz} {i k n : Nat}
theorem zAO:setsE fl s i 0 = .v (.string (s i).name):=rfl
theorem zAP:setsE fl s i 1 = .v (.int .i64 (s i).origin):=rfl
theorem zAQ:setsE fl s i 2 = .v (.int .i64 (s i).zc2):=rfl
theorem zAR:setsE fl s i 3 = .v (.int .i64 (s i).rs):=rfl
theorem zAS:setsE fl s i 4 = .v (.int .i64 (s i).rb):=rfl
theorem zAT:setsE fl s i 5 = .s fl 2 (s i).dn (ptrsT (s i).ds (s i).db):=rfl
theorem yV:snapsE fl t i 0 = .v (.int .i64 (t i).id):=rfl
theorem yW:snapsE fl t i 1 = .v (.string (t i).name):=rfl
theorem yX:snapsE fl t i 2 = .v (.string (t i).set):=rfl
theorem yY:snapsE fl t i 3 = .v (.int .i64 (t i).zc2):=rfl
theorem yZ:snapsE fl t i 4 = .v (.int .i64 (t i).time):=rfl
theorem yb:snapsE fl t i 5 = .v (.int .i64 (t i).rs):=rfl
theorem yd:snapsE fl t i 6 = .v (.int .i64 (t i).rb):=rfl
theorem ye:snapsE fl t i 7 = .s fl 2 (t i).dn (ptrsT (t i).ds (t i).db):=rfl
theorem qz:(Tr.s fl k n (setsE fl' s)).lend = .s .b k n (setsE .b s):=by
 simp only[Tr.lend];congr 1;funext i c
 match c with
 | 0 | 1 | 2 | 3 | 4=>rfl
 | 5=>exact ze
 | c+6=>rfl
theorem qV:(Tr.s fl k n (snapsE fl' t)).lend = .s .b k n (snapsE .b t):=by
 simp only[Tr.lend];congr 1;funext i c
 match c with
 | 0 | 1 | 2 | 3 | 4 | 5 | 6=>rfl
 | 7=>exact ze
 | c+8=>rfl
end
abbrev woL(W:zB):List Tr:=[.s .b 3 W.pool.n (zY .b W.pool.s),.s .b 1 W.pool.hn (qx W.pool.h),.v (.int .i64 W.time),.v (.int .i64 W.next),.s .b 6 W.sn (setsE .b W.zc1),.s .b 8 W.pn (snapsE .b W.zcy)]
abbrev woT(W:zB):Bool×List Tr:=(true,woL W)
abbrev woO(W:zB):Bool×List Tr:=(true,[.s .o 3 W.pool.n (zY .z W.pool.s),.s .o 1 W.pool.hn (qx W.pool.h),.v (.int .i64 W.time),.v (.int .i64 W.next),.s .o 6 W.sn (setsE .o W.zc1),.s .o 8 W.pn (snapsE .z W.zcy)])
def zbW(f:Nat->Tr):zAV:=⟨zDn (f 0),qd (f 1),qd (f 2),qd (f 3),qd (f 4),zFr (f 5),fun i=>qd (zCf (f 5) i 0),fun i=>qd (zCf (f 5) i 1)⟩
def zZb(f:Nat->Tr):zz:=⟨qd (f 0),zDn (f 1),zDn (f 2),qd (f 3),qd (f 4),qd (f 5),qd (f 6),zFr (f 7),fun i=>qd (zCf (f 7) i 0),fun i=>qd (zCf (f 7) i 1)⟩
def zCX(f:Nat->Tr):zB:=⟨zDm (f 0) (f 1),qd (f 2),qd (f 3),zFr (f 4),fun i=>zbW (zCf (f 4) i),zFr (f 5),fun i=>zZb (zCf (f 5) i)⟩
attribute [local go_sem] qX List.map_cons List.map_nil Tr.cv yp qD qs qq yo yn ym qp zAu zAw zAv zAr zAt zAs zCF zCH zCG qH zl qI zm qB qA qM yx zi zj qw qG tmpsOf zAf qv qF zAp yv yr yq yu stpP opds opd opdC kap zAG qC zh coreU bin zAb zB0 get put dlO fgt zA8 zA1 zA5 zA6 tyT yj yi Op.operands Call.operands evLoad evLen evStore evAlloc zAa and_true true_and List.append_nil List.nil_append List.cons_append Ret resCv zBs yQ cellM zBV zBw qY StW StR hpT hpO hpV hpA hpL hpC sg nin zB6 bdO tmW obW AvE CsE CvE Av.tup Av.ids Cv.ids inD ObE Ob.ids TrE.refl qE qt qu qJ qK qL zk ze zb yw zBc zB1 zAy evCall argL argOf qh outOb obO yL zy cvO tot Tr.own rid partsOf fillC zW zBU frz frz1 evBuildSlice zc trs Cv.tr evSlice Option.toArray_none Option.toArray_some evMakeSlice evAppend dstOf srcOf zBC zA7 zA4 zA2 zA3 ikT qn qm ql qk RetP RetN zBd qQ evLd evSt evStoreH zAX evAppendM evAppendT tlOf mvOf rowE shp evTake oOf evC evCallP evCallN evCallO unlast zAW zBB zAU argsF zB5 qy pmC varT vT evField evConv dB0 Option.bind_some Option.bind_none Option.map_some Option.map_none Option.isSome_some Option.isSome_none
attribute [local go_sem] yC zX zAg yI qe zAO zAP zAQ zAR zAS zAT yV yW yX yY yZ yb yd ye qz qV
noncomputable def zBn(n:Nat)(P:Nat->Prop):Int:=@dite _ (∃k,k<n/\P k/\∀j,j<k->¬P j) (Classical.propDecidable _) (fun h=>(h.choose:Int)) (fun _=>-1)
theorem zEQ{n k:Nat}{P:Nat->Prop}(h:k<n)(h1:P k)(h2:∀j,j<k->¬P j):zBn n P=k:=by
 have hx:∃k,k<n/\P k/\∀j,j<k->¬P j:=⟨k,h,h1,h2⟩;unfold zBn;rw[dif_pos hx];obtain⟨-,g1,g2⟩:=hx.choose_spec;rcases Nat.lt_trichotomy hx.choose k with e | e | e
 ·exact absurd g1 (h2 _ e)
 ·exact congrArg _ e
 ·exact absurd h1 (g2 _ e)
theorem zPP{n:Nat}{P:Nat->Prop}(h:∀k,k<n->¬P k):zBn n P = -1:=dif_neg fun ⟨k,h1,h2,_⟩=>h k h1 h2
theorem zEq(n:Nat)(P:Nat->Prop):zOz n P (zBn n P):=by
 by_cases hx:∃k,k<n/\P k/\∀j,j<k->¬P j
 ·obtain⟨k,h,h1,h2⟩:=hx;exact .inl ⟨k,h,h1,h2,zEQ h h1 h2⟩
 ·have hn:∀m,m<=n->∀j,j<m->¬P j:=fun m=>by
   induction m with
   | zero=>intro _ j hj;omega
   | succ m ih=>
    intro hm j hj hp;by_cases e:j<m
    ·exact ih (by omega) j e hp
    ·cases (show j=m by omega);exact hx ⟨m,by omega,hp,ih (by omega)⟩
  exact .inr ⟨hn n (Nat.le_refl _),zPP (hn n (Nat.le_refl _))⟩
noncomputable def za8:za:=qZ (fun q:zB×Int=>[woT q.1,iT q.2]) (fun q=>q.1.pn<=1000000) (fun q=>[iT (zBn q.1.pn fun k=>(q.1.zcy k).id=q.2)])
theorem zCB(W:zB)(x:Int):za8 [woT W,iT x]=some (W.pn<=1000000,[iT (zBn W.pn fun k=>(W.zcy k).id=x)]):=zO (fun l=>(zCX (nth l 0),qd (nth l 1 0))) (fun _=>rfl) (W,x)
theorem zC1:zp Tryz.prog 68 za8:=by
 refine zR zs GOk.nil zr Tryz.func68 rfl Tryz.ntmps68 Tryz.results68 6 ?_;rintro⟨W,x⟩ hn;replace hn:W.pn<=1000000:=hn;refine⟨by simp,?_⟩;simp[go_sem];refine yF (fun k:Nat=>⟨[(2,true,.m false [.p 2 0]),(1,true,.i x),(5,true,.i k)],[(2,.var ((woL W).map Tr.cv))]⟩) (fun k=>W.pn - k) (fun k=>k<=W.pn/\∀i,i<k->(W.zcy i).id≠x) 0 (by simp[go_sem]) (by simp) ?_;rintro k ⟨hk,aA⟩;simp[go_sem,qN (show k<=1000000000 by omega)];refine⟨fun hl=>⟨hl,fun h=>(zEQ hl h aA).symm,fun h=>⟨k+1,⟨by omega,yE hl aA h⟩,by omega,rfl⟩⟩,fun hl=>(zPP fun i hi=>aA i (by omega)).symm⟩
noncomputable def zcW:za:=qZ (fun q:zB×ByteArray=>[woT q.1,sT q.2]) (fun q=>q.1.sn<=1000000) (fun q=>[iT (zBn q.1.sn fun k=>(q.1.zc1 k).name=q.2)])
theorem zAY(W:zB)(x:ByteArray):zcW [woT W,sT x]=some (W.sn<=1000000,[iT (zBn W.sn fun k=>(W.zc1 k).name=x)]):=zO (fun l=>(zCX (nth l 0),zDn (nth l 1 0))) (fun _=>rfl) (W,x)
theorem zDD:zp Tryz.prog 66 zcW:=by
 refine zR zs GOk.nil zr Tryz.func66 rfl Tryz.ntmps66 Tryz.results66 6 ?_;rintro⟨W,x⟩ hn;replace hn:W.sn<=1000000:=hn;refine⟨by simp,?_⟩;simp[go_sem];refine yF (fun k:Nat=>⟨[(2,true,.m false [.p 2 0]),(1,true,.m false [.v (.string x)]),(5,true,.i k)],[(2,.var ((woL W).map Tr.cv))]⟩) (fun k=>W.sn - k) (fun k=>k<=W.sn/\∀i,i<k->(W.zc1 i).name≠x) 0 (by simp[go_sem]) (by simp) ?_;rintro k ⟨hk,aA⟩;simp[go_sem,qN (show k<=1000000000 by omega)];refine⟨fun hl=>⟨hl,fun h=>(zEQ hl (zCe h) aA).symm,fun h=>⟨k+1,⟨by omega,yE hl aA fun e=>h (congrArg ByteArray.toList e)⟩,by omega,rfl⟩⟩,fun hl=>(zPP fun i hi=>aA i (by omega)).symm⟩
noncomputable def zDf(W:zB)(x:Int):zz:=@ite _ (x=0) (Int.instDecidableEq x 0) zA9 (zI W x)
noncomputable def zXd:za:=qZ (fun q:zB×Int=>[woT q.1,iT q.2]) (fun q=>q.1.pn<=1000000) (fun q=>[pT (zDf q.1 q.2).rs (zDf q.1 q.2).rb,iT (zDf q.1 q.2).time])
theorem zD3(W:zB)(x:Int):zXd [woT W,iT x]=some (W.pn<=1000000,[pT (zDf W x).rs (zDf W x).rb,iT (zDf W x).time]):=zO (fun l=>(zCX (nth l 0),qd (nth l 1 0))) (fun _=>rfl) (W,x)
theorem zDV:zp Tryz.prog 98 zXd:=by
 refine zR zs (GOk.cons zC1 (zF Tryz.func68 rfl rfl) GOk.nil) zr Tryz.func98 rfl Tryz.ntmps98 Tryz.results98 7 ?_;rintro⟨W,x⟩ hn;replace hn:W.pn<=1000000:=hn;refine⟨by simp,?_⟩;simp[go_sem,zCB,hn];obtain⟨k,h1,h2,h3,h4⟩ | ⟨h1,h2⟩:=zEq W.pn fun k=>(W.zcy k).id=x
 ·rw[h4];have ha:zI W x=W.zcy k:=zBO ⟨h1,h2,h3⟩;refine⟨fun h=>?_,fun h0 _=>⟨⟨by omega,by omega⟩,by kernel_rfl,?_⟩⟩
  ·have h0:x=0:=(by omega);rw[show zDf W x=zA9 from if_pos h0];exact⟨⟨rfl,rfl⟩,rfl⟩
  ·rw[show zDf W x=zI W x from if_neg h0,ha];exact⟨⟨rfl,rfl⟩,rfl⟩
 ·rw[h2];refine⟨fun _=>?_,fun _ h=>absurd h (by decide)⟩;by_cases h0:x=0
  ·rw[show zDf W x=zA9 from if_pos h0];exact⟨⟨rfl,rfl⟩,rfl⟩
  ·rw[show zDf W x=zI W x from if_neg h0,zIS h1];exact⟨⟨rfl,rfl⟩,rfl⟩
def nwW(x:Int):zB:=if 0<=x/\x<=200 then⟨zEi x.toNat,1,1,0,fun _=>⟨⟨#[]⟩,0,0,0,0,0,fun _=>0,fun _=>0⟩,0,fun _=>zA9⟩else⟨zEi 0,0,0,0,fun _=>⟨⟨#[]⟩,0,0,0,0,0,fun _=>0,fun _=>0⟩,0,fun _=>zA9⟩
noncomputable def zbF:za:=qZ (fun x:Int=>[iT x]) (fun _=>True) (fun x=>[woO (nwW x)])
theorem zRW(x:Int):zbF [iT x]=some (True,[woO (nwW x)]):=zO (fun l=>qd (nth l 0 0)) (fun _=>rfl) x
theorem zKV:zp Tryz.prog 23 zbF:=by
 refine zR zs (GOk.cons zHJ (zF Tryz.func45 rfl rfl) (GOk.cons zSJ (zF Tryz.func46 rfl rfl) GOk.nil)) zr Tryz.func23 rfl Tryz.ntmps23 Tryz.results23 4 ?_;rintro x -;refine⟨by simp,?_⟩;simp[go_sem,zMi,zXq];refine⟨fun h=>?_,fun h1 h2=>?_⟩
 ·rw[show nwW x=_ from if_neg fun e=>absurd (h e.1) (by omega)];exact⟨rfl,rfl,rfl,rfl,rfl,rfl⟩
 ·rw[show nwW x=_ from if_pos ⟨h1,h2⟩,show zIE x=x.toNat from if_pos ⟨h1,h2⟩];exact⟨⟨TrE.refl _,zU⟩,⟨TrE.refl _,zd⟩,rfl,rfl,rfl,rfl⟩
structure zJv (w:World) (bs o kb:Nat) (kv:Value) (s:zAV):Prop where
 c0:zo w bs o (.string s.name)
 c1:zo w bs (o+1) (.int .i64 s.origin)
 c2:zo w bs (o+2) (.int .i64 s.zc2)
 c3:zo w bs (o+3) (.int .i64 s.rs)
 c4:zo w bs (o+4) (.int .i64 s.rb)
 c5:zo w bs (o+5) kv
 dead:zAc w kb kv s.dn s.ds s.db
 zc5:s.name.size<=maxLen
 zc7:0<s.dn->kb≠bs
theorem zJv.zcx{S:Nat->Prop}{w w':World}{bs o kb:Nat}{kv:Value}{s:zAV}(h:zJv w bs o kb kv s)(t:zJ S w w')(h1:¬S bs)(h2:0<s.dn->¬S kb):zJv w' bs o kb kv s:=
 ⟨h.c0.zcx t h1,h.c1.zcx t h1,h.c2.zcx t h1,h.c3.zcx t h1,h.c4.zcx t h1,h.c5.zcx t h1,h.dead.zcx t h2,h.zc5,h.zc7⟩
theorem zJv.cells{w:World}{bs o kb:Nat}{kv:Value}{s:zAV}(h:zJv w bs o kb kv s){lo hi:Nat}(hb:0<s.dn->lo<=kb/\kb<hi):zDd w bs o lo hi kv s:=
 ⟨h.c0.1,h.c1.1,h.c2.1,h.c3.1,h.c4.1,h.c5.1,h.dead.at hb,h.zc5⟩
def zEH(w:World)(bs:Nat)(kb:Nat->Nat)(kv:Nat->Value)(v:Value)(n:Nat)(f:Nat->zAV):Prop:=
 n<=maxLen/\∃a cap,v = .slice a n cap/\n<=cap/\(0<n->∃off,a=some ⟨bs,off,none⟩/\∀i,i<n->zJv w bs (off+i*6) (kb i) (kv i) (f i))
def zQM(bs:Nat)(kb:Nat->Nat)(n:Nat)(f:Nat->zAV)(k:Nat):Prop:=(0<n/\k=bs)\/∃i,i<n/\0<(f i).dn/\k=kb i
def zNv(kb:Nat->Nat)(n:Nat)(f:Nat->zAV):Prop:=∀i j,i<n->j<n->i≠j->0<(f i).dn->0<(f j).dn->kb i≠kb j
theorem zEH.zcx{S:Nat->Prop}{w w':World}{bs:Nat}{kb:Nat->Nat}{kv:Nat->Value}{v:Value}{n:Nat}{f:Nat->zAV}(h:zEH w bs kb kv v n f)(t:zJ S w w')(hs:∀k,zQM bs kb n f k->¬S k):zEH w' bs kb kv v n f:=by
 obtain⟨h0,a,cap,hv,aA,hc⟩:=h;refine⟨h0,a,cap,hv,aA,fun hn=>?_⟩;obtain⟨off,ha,h3⟩:=hc hn;exact⟨off,ha,fun i hi=>(h3 i hi).zcx t (hs _ (Or.inl ⟨hn,rfl⟩)) (fun h=>hs _ (Or.inr ⟨i,hi,h,rfl⟩))⟩
theorem zEH.zcw{w w':World}{bs:Nat}{kb:Nat->Nat}{kv:Nat->Value}{v:Value}{n:Nat}{f:Nat->zAV}(h:zEH w bs kb kv v n f)(t:Below w.heap.size w w'):zEH w' bs kb kv v n f:=
 h.zcx (zJ.of_below (S:=fun _=>False) t) (fun _ _ h=>h)
theorem zEH.at{w:World}{bs:Nat}{kb:Nat->Nat}{kv:Nat->Value}{v:Value}{n:Nat}{f:Nat->zAV}(h:zEH w bs kb kv v n f){lo hi:Nat}(hb:∀k,zQM bs kb n f k->lo<=k/\k<hi):zCl w lo hi v n f:=by
 obtain⟨h0,a,cap,hv,aA,hc⟩:=h;refine⟨h0,a,cap,hv,aA,fun hn=>?_⟩;obtain⟨off,ha,h3⟩:=hc hn;have hx:=hb _ (Or.inl ⟨hn,rfl⟩);exact⟨bs,off,ha,hx.1,hx.2,fun i hi=>⟨_,(h3 i hi).cells (fun h=>hb _ (Or.inr ⟨i,hi,h,rfl⟩))⟩⟩
theorem zQy:(Tryz.prog.info? 72).map (fun i=>(i.zero,i.size,i.bytes))=some (some (.agg #[.string ⟨#[]⟩,.int .i64 0,.int .i64 0,.int .i64 0,.int .i64 0,.slice none 0 0]),6,72):=by kernel_rfl
structure zHg (w:World) (bs o kb:Nat) (kv:Value) (s:zz):Prop where
 c0:zo w bs o (.int .i64 s.id)
 c1:zo w bs (o+1) (.string s.name)
 c2:zo w bs (o+2) (.string s.set)
 c3:zo w bs (o+3) (.int .i64 s.zc2)
 c4:zo w bs (o+4) (.int .i64 s.time)
 c5:zo w bs (o+5) (.int .i64 s.rs)
 c6:zo w bs (o+6) (.int .i64 s.rb)
 c7:zo w bs (o+7) kv
 dead:zAc w kb kv s.dn s.ds s.db
 zc5:s.name.size<=maxLen/\s.set.size<=maxLen
 zc7:0<s.dn->kb≠bs
theorem zHg.zcx{S:Nat->Prop}{w w':World}{bs o kb:Nat}{kv:Value}{s:zz}(h:zHg w bs o kb kv s)(t:zJ S w w')(h1:¬S bs)(h2:0<s.dn->¬S kb):zHg w' bs o kb kv s:=
 ⟨h.c0.zcx t h1,h.c1.zcx t h1,h.c2.zcx t h1,h.c3.zcx t h1,h.c4.zcx t h1,h.c5.zcx t h1,h.c6.zcx t h1,h.c7.zcx t h1,h.dead.zcx t h2,h.zc5,h.zc7⟩
theorem zHg.cells{w:World}{bs o kb:Nat}{kv:Value}{s:zz}(h:zHg w bs o kb kv s){lo hi:Nat}(hb:0<s.dn->lo<=kb/\kb<hi):zC7 w bs o lo hi kv s:=
 ⟨h.c0.1,h.c1.1,h.c2.1,h.c3.1,h.c4.1,h.c5.1,h.c6.1,h.c7.1,h.dead.at hb,h.zc5⟩
def zDI(w:World)(bs:Nat)(kb:Nat->Nat)(kv:Nat->Value)(v:Value)(n:Nat)(f:Nat->zz):Prop:=
 n<=maxLen/\∃a cap,v = .slice a n cap/\n<=cap/\(0<n->∃off,a=some ⟨bs,off,none⟩/\∀i,i<n->zHg w bs (off+i*8) (kb i) (kv i) (f i))
def zLf(bs:Nat)(kb:Nat->Nat)(n:Nat)(f:Nat->zz)(k:Nat):Prop:=(0<n/\k=bs)\/∃i,i<n/\0<(f i).dn/\k=kb i
def zLe(kb:Nat->Nat)(n:Nat)(f:Nat->zz):Prop:=∀i j,i<n->j<n->i≠j->0<(f i).dn->0<(f j).dn->kb i≠kb j
theorem zDI.zcx{S:Nat->Prop}{w w':World}{bs:Nat}{kb:Nat->Nat}{kv:Nat->Value}{v:Value}{n:Nat}{f:Nat->zz}(h:zDI w bs kb kv v n f)(t:zJ S w w')(hs:∀k,zLf bs kb n f k->¬S k):zDI w' bs kb kv v n f:=by
 obtain⟨h0,a,cap,hv,aA,hc⟩:=h;refine⟨h0,a,cap,hv,aA,fun hn=>?_⟩;obtain⟨off,ha,h3⟩:=hc hn;exact⟨off,ha,fun i hi=>(h3 i hi).zcx t (hs _ (Or.inl ⟨hn,rfl⟩)) (fun h=>hs _ (Or.inr ⟨i,hi,h,rfl⟩))⟩
theorem zDI.zcw{w w':World}{bs:Nat}{kb:Nat->Nat}{kv:Nat->Value}{v:Value}{n:Nat}{f:Nat->zz}(h:zDI w bs kb kv v n f)(t:Below w.heap.size w w'):zDI w' bs kb kv v n f:=
 h.zcx (zJ.of_below (S:=fun _=>False) t) (fun _ _ h=>h)
theorem zDI.at{w:World}{bs:Nat}{kb:Nat->Nat}{kv:Nat->Value}{v:Value}{n:Nat}{f:Nat->zz}(h:zDI w bs kb kv v n f){lo hi:Nat}(hb:∀k,zLf bs kb n f k->lo<=k/\k<hi):zBq w lo hi v n f:=by
 obtain⟨h0,a,cap,hv,aA,hc⟩:=h;refine⟨h0,a,cap,hv,aA,fun hn=>?_⟩;obtain⟨off,ha,h3⟩:=hc hn;have hx:=hb _ (Or.inl ⟨hn,rfl⟩);exact⟨bs,off,ha,hx.1,hx.2,fun i hi=>⟨_,(h3 i hi).cells (fun h=>hb _ (Or.inr ⟨i,hi,h,rfl⟩))⟩⟩
theorem zOO:(Tryz.prog.info? 75).map (fun i=>(i.zero,i.size,i.bytes))=some (some (.agg #[.int .i64 0,.string ⟨#[]⟩,.string ⟨#[]⟩,.int .i64 0,.int .i64 0,.int .i64 0,.int .i64 0,.slice none 0 0]),8,96):=by kernel_rfl
def zEd(w:World)(S:Nat->Prop)(v:Value)(n:Nat)(f:Nat->zAV):Prop:=∃(bs:Nat) (kb:Nat->Nat) (kv:Nat->Value),zEH w bs kb kv v n f/\zNv kb n f/\∀k,zQM bs kb n f k->S k
def zDN(w:World)(S:Nat->Prop)(v:Value)(n:Nat)(f:Nat->zz):Prop:=∃(bs:Nat) (kb:Nat->Nat) (kv:Nat->Value),zDI w bs kb kv v n f/\zLe kb n f/\∀k,zLf bs kb n f k->S k
theorem zEd.zcx{S T:Nat->Prop}{w w':World}{v:Value}{n:Nat}{f:Nat->zAV}(h:zEd w S v n f)(t:zJ T w w')(hs:∀k,S k->¬T k):zEd w' S v n f:=by
 obtain⟨bs,kb,kv,h1,h2,h3⟩:=h;exact⟨bs,kb,kv,h1.zcx t (fun k hk=>hs k (h3 k hk)),h2,h3⟩
theorem zDN.zcx{S T:Nat->Prop}{w w':World}{v:Value}{n:Nat}{f:Nat->zz}(h:zDN w S v n f)(t:zJ T w w')(hs:∀k,S k->¬T k):zDN w' S v n f:=by
 obtain⟨bs,kb,kv,h1,h2,h3⟩:=h;exact⟨bs,kb,kv,h1.zcx t (fun k hk=>hs k (h3 k hk)),h2,h3⟩
theorem zEd.zcw{S:Nat->Prop}{w w':World}{v:Value}{n:Nat}{f:Nat->zAV}(h:zEd w S v n f)(t:Below w.heap.size w w'):zEd w' S v n f:=by
 obtain⟨bs,kb,kv,h1,h2,h3⟩:=h;exact⟨bs,kb,kv,h1.zcw t,h2,h3⟩
theorem zDN.zcw{S:Nat->Prop}{w w':World}{v:Value}{n:Nat}{f:Nat->zz}(h:zDN w S v n f)(t:Below w.heap.size w w'):zDN w' S v n f:=by
 obtain⟨bs,kb,kv,h1,h2,h3⟩:=h;exact⟨bs,kb,kv,h1.zcw t,h2,h3⟩
theorem zEd.at{S:Nat->Prop}{w:World}{v:Value}{n:Nat}{f:Nat->zAV}(h:zEd w S v n f){lo hi:Nat}(hs:∀k,S k->lo<=k/\k<hi):zCl w lo hi v n f:=by
 obtain⟨bs,kb,kv,h1,h2,h3⟩:=h;exact h1.at (fun k hk=>hs k (h3 k hk))
theorem zDN.at{S:Nat->Prop}{w:World}{v:Value}{n:Nat}{f:Nat->zz}(h:zDN w S v n f){lo hi:Nat}(hs:∀k,S k->lo<=k/\k<hi):zBq w lo hi v n f:=by
 obtain⟨bs,kb,kv,h1,h2,h3⟩:=h;exact h1.at (fun k hk=>hs k (h3 k hk))
theorem zEd.zc4{S:Nat->Prop}{w:World}{v:Value}{n:Nat}{f:Nat->zAV}(h:zEd w S v n f):∃a c,v = .slice a n c/\n<=c:=by
 obtain⟨bs,kb,kv,⟨_,a,c,hv,hc,_⟩,h2,h3⟩:=h;exact⟨a,c,hv,hc⟩
theorem zDN.zc4{S:Nat->Prop}{w:World}{v:Value}{n:Nat}{f:Nat->zz}(h:zDN w S v n f):∃a c,v = .slice a n c/\n<=c:=by
 obtain⟨bs,kb,kv,⟨_,a,c,hv,hc,_⟩,h2,h3⟩:=h;exact⟨a,c,hv,hc⟩
theorem zCt.zc4{w:World}{S:Nat->Prop}{v0 v1:Value}{p:zE}(h:zCt w S v0 v1 p):∃a c a' c',v0 = .slice a p.n c/\v1 = .slice a' p.hn c':=by
 obtain⟨bs,hb,kb,kv,⟨_,a,c,h1,_⟩,h2,⟨_,a',c',h3,_,_⟩,h4,h5⟩:=h;exact⟨a,c,a',c',h1,h3⟩
structure zFZ (w:World) (P Q R:Nat->Prop) (v0 v1 v2 v3:Value) (W:zB):Prop where
 pool:zCt w P v0 v1 W.pool
 zc1:zEd w Q v2 W.sn W.zc1
 zcy:zDN w R v3 W.pn W.zcy
 pq:∀k,P k->¬Q k
 pr:∀k,P k->¬R k
 qr:∀k,Q k->¬R k
def zBN(w:World)(lo hi:Nat)(v0 v1 v2 v3:Value)(W:zB):Prop:=∃P Q R,zFZ w P Q R v0 v1 v2 v3 W/\∀k,P k\/Q k\/R k->lo<=k/\k<hi
theorem zBN.at{w:World}{lo hi:Nat}{v0 v1 v2 v3:Value}{W:zB}(h:zBN w lo hi v0 v1 v2 v3 W):zAF w lo hi v0 v1 v2 v3 W:=by
 obtain⟨P,Q,R,h,hl⟩:=h;exact⟨h.pool.at (fun k hk=>hl k (Or.inl hk)),h.zc1.at (fun k hk=>hl k (Or.inr (Or.inl hk))),h.zcy.at (fun k hk=>hl k (Or.inr (Or.inr hk)))⟩
theorem zFZ.zcw{P Q R:Nat->Prop}{w w':World}{v0 v1 v2 v3:Value}{W:zB}(h:zFZ w P Q R v0 v1 v2 v3 W)(t:Below w.heap.size w w'):zFZ w' P Q R v0 v1 v2 v3 W:=
 ⟨h.pool.zcw t,h.zc1.zcw t,h.zcy.zcw t,h.pq,h.pr,h.qr⟩
theorem zBN.zcw{w w':World}{lo hi:Nat}{v0 v1 v2 v3:Value}{W:zB}(h:zBN w lo hi v0 v1 v2 v3 W)(t:Below w.heap.size w w'):zBN w' lo hi v0 v1 v2 v3 W:=by
 obtain⟨P,Q,R,h,hl⟩:=h;exact⟨P,Q,R,h.zcw t,hl⟩
theorem zFZ.zcx{P Q R T:Nat->Prop}{w w':World}{v0 v1 v2 v3:Value}{W:zB}(h:zFZ w P Q R v0 v1 v2 v3 W)(t:zJ T w w')(hs:∀k,P k\/Q k\/R k->¬T k):zFZ w' P Q R v0 v1 v2 v3 W:=
 ⟨h.pool.zcx t (fun k hk=>hs k (Or.inl hk)),h.zc1.zcx t (fun k hk=>hs k (Or.inr (Or.inl hk))),h.zcy.zcx t (fun k hk=>hs k (Or.inr (Or.inr hk))),h.pq,h.pr,h.qr⟩
theorem zBN.zcx{S:Nat->Prop}{w w':World}{lo hi:Nat}{v0 v1 v2 v3:Value}{W:zB}(h:zBN w lo hi v0 v1 v2 v3 W)(t:zJ S w w')(hs:∀k,S k->k<lo\/hi<=k):zBN w' lo hi v0 v1 v2 v3 W:=by
 obtain⟨P,Q,R,h,hl⟩:=h;exact⟨P,Q,R,h.zcx t (fun k hk hx=>by have:=hl k hk;have:=hs k hx;omega),hl⟩
theorem zBN.wide{w:World}{lo hi bA aA:Nat}{v0 v1 v2 v3:Value}{W:zB}(h:zBN w lo hi v0 v1 v2 v3 W)(h1:bA<=lo)(h2:hi<=aA):zBN w bA aA v0 v1 v2 v3 W:=by
 obtain⟨P,Q,R,h,hl⟩:=h;exact⟨P,Q,R,h,fun k hk=>by have:=hl k hk;omega⟩
theorem zBN.zc4{w:World}{lo hi:Nat}{v0 v1 v2 v3:Value}{W:zB}(h:zBN w lo hi v0 v1 v2 v3 W):∃a0 c0 a1 c1 a2 c2 a3 c3,v0 = .slice a0 W.pool.n c0/\v1 = .slice a1 W.pool.hn c1/\v2 = .slice a2 W.sn c2/\v3 = .slice a3 W.pn c3:=by
 obtain⟨P,Q,R,h,hl⟩:=h;obtain⟨a0,c0,a1,c1,e0,e1⟩:=h.pool.zc4;obtain⟨a2,c2,e2,-⟩:=h.zc1.zc4;obtain⟨a3,c3,e3,-⟩:=h.zcy.zc4;exact⟨a0,c0,a1,c1,a2,c2,a3,c3,e0,e1,e2,e3⟩
theorem zAF.zc4{w:World}{lo hi:Nat}{v0 v1 v2 v3:Value}{W:zB}(h:zAF w lo hi v0 v1 v2 v3 W):∃a0 c0 a1 c1 a2 c2 a3 c3,v0 = .slice a0 W.pool.n c0/\v1 = .slice a1 W.pool.hn c1/\v2 = .slice a2 W.sn c2/\v3 = .slice a3 W.pn c3:=by
 obtain⟨a0,c0,a1,c1,e0,e1⟩:=h.pool.zc4;obtain⟨-,a2,c2,e2,-⟩:=h.zc1;obtain⟨-,a3,c3,e3,-⟩:=h.zcy;exact⟨a0,c0,a1,c1,a2,c2,a3,c3,e0,e1,e2,e3⟩
def zEN(W:zB)(w:World)(e:Ending)(w':World):Prop:=∃v0 v1 v2 v3,e = .returned (zB8 v0 v1 v2 v3 W)/\zBN w' w.heap.size w'.heap.size v0 v1 v2 v3 W/\Below w.heap.size w w'
structure zx where
 zc0:zB
 zcz:zB
abbrev zC4(v0 v1 v2 v3 u0 u1 u2 u3:Value)(S:zx):Value:=.agg #[v0,v1,.int .i64 S.zc0.time,.int .i64 S.zc0.next,v2,v3,u0,u1,.int .i64 S.zcz.time,.int .i64 S.zcz.next,u2,u3]
structure zBz (w:World) (lo hi:Nat) (v0 v1 v2 v3 u0 u1 u2 u3:Value) (S:zx):Prop where
 zc0:zAF w lo hi v0 v1 v2 v3 S.zc0
 zcz:zAF w lo hi u0 u1 u2 u3 S.zcz
theorem zBz.zcw{w w':World}{lo hi:Nat}{v0 v1 v2 v3 u0 u1 u2 u3:Value}{S:zx}(h:zBz w lo hi v0 v1 v2 v3 u0 u1 u2 u3 S)(t:Below w.heap.size w w'):zBz w' lo hi v0 v1 v2 v3 u0 u1 u2 u3 S:=⟨h.zc0.zcw t,h.zcz.zcw t⟩
theorem zCl.wide{w:World}{lo hi bA aA:Nat}{v:Value}{n:Nat}{f:Nat->zAV}(h:zCl w lo hi v n f)(h1:bA<=lo)(h2:hi<=aA)(hp:∀{v n f g},qo w lo hi v n f g->qo w bA aA v n f g):zCl w bA aA v n f:=by
 obtain⟨m,a,c,hv,hc,hx⟩:=h;refine⟨m,a,c,hv,hc,fun h0=>?_⟩;obtain⟨b,off,ha,l1,l2,h3⟩:=hx h0;refine⟨b,off,ha,by omega,by omega,fun i hi=>?_⟩;obtain⟨vd,hs⟩:=h3 i hi;exact⟨vd,hs.c0,hs.c1,hs.c2,hs.c3,hs.c4,hs.c5,hp hs.dead,hs.zc5⟩
theorem zBq.wide{w:World}{lo hi bA aA:Nat}{v:Value}{n:Nat}{f:Nat->zz}(h:zBq w lo hi v n f)(h1:bA<=lo)(h2:hi<=aA)(hp:∀{v n f g},qo w lo hi v n f g->qo w bA aA v n f g):zBq w bA aA v n f:=by
 obtain⟨m,a,c,hv,hc,hx⟩:=h;refine⟨m,a,c,hv,hc,fun h0=>?_⟩;obtain⟨b,off,ha,l1,l2,h3⟩:=hx h0;refine⟨b,off,ha,by omega,by omega,fun i hi=>?_⟩;obtain⟨vd,hs⟩:=h3 i hi;exact⟨vd,hs.c0,hs.c1,hs.c2,hs.c3,hs.c4,hs.c5,hs.c6,hs.c7,hp hs.dead,hs.zc5⟩
theorem zAi.wide{w:World}{lo hi bA aA:Nat}{v:Value}{n:Nat}{f:Nat->zM}(h:zAi w lo hi v n f)(h1:bA<=lo)(h2:hi<=aA):zAi w bA aA v n f:=by
 obtain⟨m,a,c,hv,hc,hx⟩:=h;refine⟨m,a,c,hv,hc,fun h0=>?_⟩;obtain⟨b,off,ha,l1,l2,h3⟩:=hx h0;refine⟨b,off,ha,by omega,by omega,fun i hi=>?_⟩;obtain⟨x0,x1,x2,c0,c1,c2,e0,hp,e2,hs⟩:=h3 i hi;exact⟨x0,x1,x2,c0,c1,c2,e0,hp.wide h1 h2,e2,hs⟩
theorem zAF.wide{w:World}{lo hi bA aA:Nat}{v0 v1 v2 v3:Value}{W:zB}(h:zAF w lo hi v0 v1 v2 v3 W)(h1:bA<=lo)(h2:hi<=aA):zAF w bA aA v0 v1 v2 v3 W:=
 ⟨⟨h.pool.1.wide h1 h2,h.pool.2.wide h1 h2⟩,h.zc1.wide h1 h2 (fun hp=>hp.wide h1 h2),h.zcy.wide h1 h2 (fun hp=>hp.wide h1 h2)⟩
def zEO(w:World)(lo hi:Nat)(v0 v1 v2 v3 u0 u1 u2 u3:Value)(S:zx):Prop:=∃l1 h1 l2 h2,zBN w l1 h1 v0 v1 v2 v3 S.zc0/\zBN w l2 h2 u0 u1 u2 u3 S.zcz/\lo<=l1/\h1<=hi/\lo<=l2/\h2<=hi/\(h1<=l2\/h2<=l1)
theorem zEO.at{w:World}{lo hi:Nat}{v0 v1 v2 v3 u0 u1 u2 u3:Value}{S:zx}(h:zEO w lo hi v0 v1 v2 v3 u0 u1 u2 u3 S):zBz w lo hi v0 v1 v2 v3 u0 u1 u2 u3 S:=by
 obtain⟨l1,h1,l2,h2,a,b,c1,c2,c3,c4,_⟩:=h;exact⟨a.at.wide c1 c2,b.at.wide c3 c4⟩
theorem zEO.zcx{T:Nat->Prop}{w w':World}{lo hi:Nat}{v0 v1 v2 v3 u0 u1 u2 u3:Value}{S:zx}(h:zEO w lo hi v0 v1 v2 v3 u0 u1 u2 u3 S)(t:zJ T w w')(hs:∀k,T k->k<lo\/hi<=k):zEO w' lo hi v0 v1 v2 v3 u0 u1 u2 u3 S:=by
 obtain⟨l1,h1,l2,h2,a,b,c⟩:=h;exact⟨l1,h1,l2,h2,a.zcx t (fun k hk=>by have:=hs k hk;omega),b.zcx t (fun k hk=>by have:=hs k hk;omega),c⟩
section
variable {w : World} {g : Nat -> Bs} {fl : Fl}
theorem zHY{k n:Nat}{f:Nat->Nat->Tr}{u:Value}(hs:Sh w g (.s fl k n f) u):∃a c,u = .slice a n c/\n<=c/\(0<n->∃b o,a=some ⟨b,o,none⟩/\0<=b/\b<w.heap.size/\∀i,i<n->∀j,j<k->∃u,w.cell? ⟨b,o+i*k+j,none⟩=some u/\Sh w g (f i j) u):=by
 obtain⟨a,c,rfl,hc,hx⟩:=hs;refine⟨a,c,rfl,hc,fun h0=>?_⟩;obtain⟨b,o,ha,hb,-,aA⟩:=hx h0;refine⟨b,o,ha,Nat.zero_le _,hb,fun i hi j hj=>?_⟩;rw[Nat.add_assoc];exact aA i j hi hj
theorem zZT{n:Nat}{h:Nat->Int}{u:Value}(hs:Sh w g (.s fl 1 n (qx h)) u)(hn:n<=maxLen):zCE w 0 w.heap.size u n h:=by
 obtain⟨a,c,rfl,hc,hx⟩:=zHY hs;refine⟨hn,a,c,rfl,hc,fun h0=>?_⟩;obtain⟨b,o,ha,h1,h2,aA⟩:=hx h0;refine⟨b,o,ha,h1,h2,fun i hi=>?_⟩;obtain⟨u,hu,e⟩:=aA i hi 0 (by omega);rw[Nat.mul_one,Nat.add_zero]at hu;rw[hu,e.1]
theorem zPG{n:Nat}{f h:Nat->Int}{u:Value}(hs:Sh w g (.s fl 2 n (ptrsT f h)) u)(hn:n<=maxLen):qo w 0 w.heap.size u n f h:=by
 obtain⟨a,c,rfl,hc,hx⟩:=zHY hs;refine⟨hn,a,c,rfl,hc,fun h0=>?_⟩;obtain⟨b,o,ha,h1,h2,aA⟩:=hx h0;refine⟨b,o,ha,h1,h2,fun i hi=>?_⟩;obtain⟨u,hu,e⟩:=aA i hi 0 (by omega);obtain⟨u',bA,e'⟩:=aA i hi 1 (by omega);rw[Nat.add_zero]at hu;exact⟨by rw[hu,e.1],by rw[bA,e'.1]⟩
theorem zWu{n:Nat}{s:Nat->zM}{u:Value}(hs:Sh w g (.s fl 3 n (zY fl s)) u)(hn:n<=maxLen)(hk:∀i,i<n->(s i).kn<=maxLen/\(s i).data.size<=maxLen):zAi w 0 w.heap.size u n s:=by
 obtain⟨a,c,rfl,hc,hx⟩:=zHY hs;refine⟨hn,a,c,rfl,hc,fun h0=>?_⟩;obtain⟨b,o,ha,h1,h2,aA⟩:=hx h0;refine⟨b,o,ha,h1,h2,fun i hi=>?_⟩;obtain⟨u,hu,e⟩:=aA i hi 0 (by omega);obtain⟨u',bA,e'⟩:=aA i hi 1 (by omega);obtain⟨u2,cA,e2⟩:=aA i hi 2 (by omega);rw[Nat.add_zero]at hu;exact⟨u,u',u2,hu,bA,cA,e.1,zPG e' (hk i hi).1,e2.1,(hk i hi).2⟩
theorem zZU{n:Nat}{s:Nat->zAV}{u:Value}(hs:Sh w g (.s fl 6 n (setsE fl s)) u)(hn:n<=maxLen)(hk:∀i,i<n->(s i).dn<=maxLen/\(s i).name.size<=maxLen):zCl w 0 w.heap.size u n s:=by
 obtain⟨a,c,rfl,hc,hx⟩:=zHY hs;refine⟨hn,a,c,rfl,hc,fun h0=>?_⟩;obtain⟨b,o,ha,h1,h2,aA⟩:=hx h0;refine⟨b,o,ha,h1,h2,fun i hi=>?_⟩;obtain⟨u0,bA,e0⟩:=aA i hi 0 (by omega);obtain⟨u1,cA,e1⟩:=aA i hi 1 (by omega);obtain⟨u2,dA,e2⟩:=aA i hi 2 (by omega);obtain⟨u3,eA,e3⟩:=aA i hi 3 (by omega);obtain⟨u4,fA,e4⟩:=aA i hi 4 (by omega);obtain⟨u5,gA,e5⟩:=aA i hi 5 (by omega);rw[Nat.add_zero]at bA;exact⟨u5,by rw[bA,e0.1],by rw[cA,e1.1],by rw[dA,e2.1],by rw[eA,e3.1],by rw[fA,e4.1],gA,zPG e5 (hk i hi).1,(hk i hi).2⟩
theorem zWv{n:Nat}{s:Nat->zz}{u:Value}(hs:Sh w g (.s fl 8 n (snapsE fl s)) u)(hn:n<=maxLen)(hk:∀i,i<n->(s i).dn<=maxLen/\(s i).name.size<=maxLen/\(s i).set.size<=maxLen):zBq w 0 w.heap.size u n s:=by
 obtain⟨a,c,rfl,hc,hx⟩:=zHY hs;refine⟨hn,a,c,rfl,hc,fun h0=>?_⟩;obtain⟨b,o,ha,h1,h2,aA⟩:=hx h0;refine⟨b,o,ha,h1,h2,fun i hi=>?_⟩;obtain⟨u0,bA,e0⟩:=aA i hi 0 (by omega);obtain⟨u1,cA,e1⟩:=aA i hi 1 (by omega);obtain⟨u2,dA,e2⟩:=aA i hi 2 (by omega);obtain⟨u3,eA,e3⟩:=aA i hi 3 (by omega);obtain⟨u4,fA,e4⟩:=aA i hi 4 (by omega);obtain⟨u5,gA,e5⟩:=aA i hi 5 (by omega);obtain⟨u6,iA,e6⟩:=aA i hi 6 (by omega);obtain⟨u7,jA,e7⟩:=aA i hi 7 (by omega);rw[Nat.add_zero]at bA;exact⟨u7,by rw[bA,e0.1],by rw[cA,e1.1],by rw[dA,e2.1],by rw[eA,e3.1],by rw[fA,e4.1],by rw[gA,e5.1],by rw[iA,e6.1],jA,zPG e7 (hk i hi).1,(hk i hi).2⟩
end
def zQG(w:World)(g:Nat->Bs)(lo:Nat):Prop:=∀b,lo<=b->b<w.heap.size->g b = .fz none
section
variable {w : World} {g : Nat -> Bs} {lo hi : Nat}
theorem zQG.ok(h:zQG w g lo){b e:Nat}(h1:lo<=b)(h2:b<w.heap.size):(g b).ok .z e:=by
 rw[h b h1 h2];exact .inr fun l e=>by cases e
theorem zJB{b j:Nat}{v:Value}(h:w.cell? ⟨b,j,none⟩=some v):b<w.heap.size:=zH h
theorem zUm(hk:zQG w g lo){v:Value}{n:Nat}{f:Nat->Int}(h:zCE w lo hi v n f):Sh w g (.s .z 1 n (qx f)) v:=by
 obtain⟨h0,a,cap,rfl,hc,hx⟩:=h;refine⟨a,cap,rfl,hc,fun hn=>?_⟩;obtain⟨b,o,ha,h1,h2,h3⟩:=hx hn;have hb:=zJB (h3 0 hn);refine⟨b,o,ha,hb,hk.ok h1 hb,fun i j hi hj=>?_⟩;cases (show j=0 by omega);exact⟨_,by rw[Nat.mul_one,Nat.add_zero];exact h3 i hi,rfl,rfl⟩
theorem zPr(hk:zQG w g lo){v:Value}{n:Nat}{f f':Nat->Int}(h:qo w lo hi v n f f'):Sh w g (.s .z 2 n (ptrsT f f')) v:=by
 obtain⟨h0,a,cap,rfl,hc,hx⟩:=h;refine⟨a,cap,rfl,hc,fun hn=>?_⟩;obtain⟨b,o,ha,h1,h2,h3⟩:=hx hn;have hb:=zJB (h3 0 hn).1;refine⟨b,o,ha,hb,hk.ok h1 hb,fun i j hi hj=>?_⟩
 match j,hj with
 | 0,_=>exact⟨_,(h3 i hi).1,rfl,rfl⟩
 | 1,_=>exact⟨_,(h3 i hi).2,rfl,rfl⟩
theorem zRe(hk:zQG w g lo){v:Value}{n:Nat}{f:Nat->zM}(h:zAi w lo hi v n f):Sh w g (.s .z 3 n (zY .z f)) v:=by
 obtain⟨h0,a,cap,rfl,hc,hx⟩:=h;refine⟨a,cap,rfl,hc,fun hn=>?_⟩;obtain⟨b,o,ha,h1,h2,h3⟩:=hx hn;have hb:b<w.heap.size:=by obtain⟨_,_,_,h,_⟩:=h3 0 hn;exact zJB h
 refine⟨b,o,ha,hb,hk.ok h1 hb,fun i j hi hj=>?_⟩;obtain⟨v0,v1,v2,c0,c1,c2,e0,e1,e2,e3⟩:=h3 i hi
 match j,hj with
 | 0,_=>exact⟨_,c0,e0,rfl⟩
 | 1,_=>exact⟨_,c1,zPr hk e1⟩
 | 2,_=>exact⟨_,c2,e2,rfl⟩
theorem zUn(hk:zQG w g lo){v:Value}{n:Nat}{f:Nat->zAV}(h:zCl w lo hi v n f):Sh w g (.s .z 6 n (setsE .z f)) v:=by
 obtain⟨h0,a,cap,rfl,hc,hx⟩:=h;refine⟨a,cap,rfl,hc,fun hn=>?_⟩;obtain⟨b,o,ha,h1,h2,h3⟩:=hx hn;have hb:b<w.heap.size:=by obtain⟨_,h⟩:=h3 0 hn;exact zJB h.c0
 refine⟨b,o,ha,hb,hk.ok h1 hb,fun i j hi hj=>?_⟩;obtain⟨vd,h⟩:=h3 i hi
 match j,hj with
 | 0,_=>exact⟨_,h.c0,rfl,rfl⟩
 | 1,_=>exact⟨_,h.c1,rfl,rfl⟩
 | 2,_=>exact⟨_,h.c2,rfl,rfl⟩
 | 3,_=>exact⟨_,h.c3,rfl,rfl⟩
 | 4,_=>exact⟨_,h.c4,rfl,rfl⟩
 | 5,_=>exact⟨_,h.c5,zPr hk h.dead⟩
theorem zRf(hk:zQG w g lo){v:Value}{n:Nat}{f:Nat->zz}(h:zBq w lo hi v n f):Sh w g (.s .z 8 n (snapsE .z f)) v:=by
 obtain⟨h0,a,cap,rfl,hc,hx⟩:=h;refine⟨a,cap,rfl,hc,fun hn=>?_⟩;obtain⟨b,o,ha,h1,h2,h3⟩:=hx hn;have hb:b<w.heap.size:=by obtain⟨_,h⟩:=h3 0 hn;exact zJB h.c0
 refine⟨b,o,ha,hb,hk.ok h1 hb,fun i j hi hj=>?_⟩;obtain⟨vd,h⟩:=h3 i hi
 match j,hj with
 | 0,_=>exact⟨_,h.c0,rfl,rfl⟩
 | 1,_=>exact⟨_,h.c1,rfl,rfl⟩
 | 2,_=>exact⟨_,h.c2,rfl,rfl⟩
 | 3,_=>exact⟨_,h.c3,rfl,rfl⟩
 | 4,_=>exact⟨_,h.c4,rfl,rfl⟩
 | 5,_=>exact⟨_,h.c5,rfl,rfl⟩
 | 6,_=>exact⟨_,h.c6,rfl,rfl⟩
 | 7,_=>exact⟨_,h.c7,zPr hk h.dead⟩
end
set_option linter.unusedSimpArgs false
set_option maxRecDepth 20000
set_option maxHeartbeats 3200000
structure zAK where
 bn:Nat
 bf:Nat->Int
 pos:Nat
 mix:Int
 size:Int
def zFC(h:Nat->Int):Nat->Nat->Tr:=fun i _=>.v (.int .u8 (h i))
theorem zCj{h:Nat->Int}{i j:Nat}:zFC h i j = .v (.int .u8 (h i)):=rfl
abbrev srV(s:zAK):List Tr:=[.s .z 1 s.bn (zFC s.bf),.v (.int .i64 s.pos),.v (.int .u64 s.mix),.v (.int .i64 s.size)]
def zHB(f:Nat->Tr):zAK:=⟨zFr (f 0),fun i=>match zCf (f 0) i 0 with | .v (.int _ x)=>x | _=>0,(qd (f 1)).toNat,match f 2 with | .v (.int _ x)=>x | _=>0,qd (f 3)⟩
def zZF(a b:Int):Int:=IntKind.u64.wrap ((BitVec.ofInt IntKind.u64.bits a ^^^ BitVec.ofInt IntKind.u64.bits b).toNat)
def zby(a b:Int):Int:=IntKind.u64.wrap (a*2 ^ (min b.toNat IntKind.u64.bits))
def zYu(a b:Int):Int:=a.fdiv (2 ^ (min b.toNat IntKind.u64.bits))
theorem zKf{a b:Int}:zAb .xor .u64 a .u64 b=some (True,.int .u64 (zZF a b)):=rfl
theorem zKd{a b:Int}:zAb .shl .u64 a .u64 b=some (0<=b,.int .u64 (zby a b)):=rfl
theorem zKe{a b:Int}:zAb .shr .u64 a .u64 b=some (0<=b,.int .u64 (zYu a b)):=rfl
theorem zG6{a b:Int}:zAb .add .u64 a .u64 b=some (True,.int .u64 (IntKind.u64.wrap (a+b))):=rfl
theorem zG7{a b:Int}:zAb .mul .u64 a .u64 b=some (True,.int .u64 (IntKind.u64.wrap (a*b))):=rfl
theorem zG8{a b:Int}:zAb .rem .u64 a .u64 b=some (b≠0,.int .u64 (a.tmod b)):=rfl
theorem zKY{a b:Int}:zAb .add .i64 a .i64 b=some (True,.int .i64 (IntKind.i64.wrap (a+b))):=rfl
theorem zKc{k:IntKind}{a b:Int}:zAb .lss k a k b=some (True,.bool (decide (a<b))):=by simp[zAb]
theorem zKb{k:IntKind}{a b:Int}:zAb .leq k a k b=some (True,.bool (decide (a<=b))):=by simp[zAb]
theorem zKa{k:IntKind}{a b:Int}:zAb .gtr k a k b=some (True,.bool (decide (a>b))):=by simp[zAb]
theorem zKZ{k:IntKind}{a b:Int}:zAb .eql k a k b=some (True,.bool (a == b)):=by simp[zAb]
theorem zw{n:Nat}{h:Nat->Int}:(Tr.s .z 1 n (zFC h)).kept:=⟨by simp,fun _ _ _ _=>trivial⟩
theorem zbL{x:Int}(h0:0<=x)(h1:x<=1000000000000000000):IntKind.u64.wrap x=x:=by
 simp[IntKind.wrap,IntKind.bits];omega
def zbk(m:Int):Int:=zZF m (zby m 13)
def zbl(m:Int):Int:=zZF m (zYu m 7)
def zbm(m:Int):Int:=zZF m (zby m 17)
def zV3(m:Int):Int:=zbm (zbl (zbk m))
def nS(s:zAK)(most:Int):zAK:=if most<=1 then s else {s with pos:=if s.pos<s.bn then s.pos+1 else s.pos,mix:=zV3 s.mix}
def nV(s:zAK)(most:Int):Int:=if most<=1 then 0 else IntKind.i64.wrap ((IntKind.u64.wrap ((if s.pos<s.bn then s.bf s.pos else 0)+zYu (zV3 s.mix) 20)).tmod most)
structure qi (s:zAK):Prop where
 bn:s.bn<=2000000
 pos:s.pos<=s.bn
 byte:∀i,i<s.bn->0<=s.bf i/\s.bf i<256
 size:0<=s.size/\s.size<=12
theorem zAI{s:zAK}(h:qi s)(m:Int):qi (nS s m):=by
 unfold nS;split
 ·exact h
 ·refine⟨h.bn,?_,h.byte,h.size⟩;have:=h.pos;dsimp only;split<;>omega
attribute [local go_sem] qX List.map_cons List.map_nil Tr.cv yp qD qs qq yo yn ym qp zAu zAw zAv zAr zAt zAs zCF zCH zCG qH zl qI zm qB qA qM yx zi zj qw qG tmpsOf zAf qv qF zAp yv yr yq yu stpP opds opd opdC kap zAG qC zh coreU bin zAb zB0 get put dlO fgt zA8 zA1 zA5 zA6 tyT yj yi Op.operands Call.operands evLoad evLen evStore evAlloc zAa and_true true_and List.append_nil List.nil_append List.cons_append Ret resCv zBs yQ cellM zBV zBw qY StW StR hpT hpO hpV hpA hpL hpC sg nin zB6 bdO tmW obW AvE CsE CvE Av.tup Av.ids Cv.ids inD ObE Ob.ids TrE.refl qE qt qu qJ qK qL zk ze zb yw zBc zB1 zAy evCall argL argOf qh outOb obO yL zy cvO tot Tr.own rid partsOf fillC zW zBU frz frz1 evBuildSlice zc trs Cv.tr evSlice Option.toArray_none Option.toArray_some evMakeSlice evAppend dstOf srcOf zBC zA7 zA4 zA2 zA3 ikT qn qm ql qk RetP RetN zBd qQ evLd evSt evStoreH zAX evAppendM evAppendT tlOf mvOf rowE shp evTake oOf evC evCallP evCallN evCallO unlast zAW zBB zAU argsF zB5 qy pmC varT vT evField evConv dB0 Option.bind_some Option.bind_none Option.map_some Option.map_none Option.isSome_some Option.isSome_none
attribute [-go_sem] zAb
attribute [local go_sem] zKf zKd zKe zG6 zG7 zG8 zKY zKc zKb zKa zKZ zCj
noncomputable def mN:za:=qZ (fun q:zAK×Int=>(true,srV q.1) :: [iT q.2]) (fun q=>qi q.1/\q.2<=1000000000000000000) (fun q=>[(true,srV (nS q.1 q.2)),iT (nV q.1 q.2)])
theorem zCq(s:zAK)(m:Int):mN ((true,srV s) :: [iT m])=some (qi s/\m<=1000000000000000000,[(true,srV (nS s m)),iT (nV s m)]):=zO (fun l=>(zHB (nth l 0),qd (nth l 1 0))) (fun _=>rfl) (s,m)
theorem zPm:zBr Tryz.prog 47 mN:=by
 refine zBa zs GOk.nil zr Tryz.func47 rfl Tryz.ntmps47 Tryz.results47 6 ?_;rintro⟨s,m⟩ hs;obtain⟨hs,hm⟩:qi s/\m<=1000000000000000000:=hs;have hb:=hs.bn;have hp:=hs.pos;refine⟨by simp,?_⟩;simp[go_sem,qN (show s.pos<=1000000000 by omega)];refine⟨fun h=>?_,fun h=>?_⟩
 ·rw[show nS s m=s from if_pos h];exact⟨⟨⟨TrE.refl _,zw⟩,rfl,rfl,rfl⟩,(if_pos h).symm⟩
 have h':¬m<=1:=by omega
 have hw:IntKind.u64.wrap m=m:=zbL (by omega) (by omega);have aA:m≠0:=by omega
 rw[hw];rw[show nS s m=_ from if_neg h',show nV s m=_ from if_neg h'];refine⟨by kernel_rfl,fun h1=>⟨h1,by kernel_rfl,by kernel_rfl,by kernel_rfl,by kernel_rfl,aA,⟨⟨TrE.refl _,zw⟩,?_,rfl,rfl⟩,?_⟩,fun h1=>⟨by kernel_rfl,by kernel_rfl,by kernel_rfl,aA,⟨⟨TrE.refl _,zw⟩,?_,rfl,rfl⟩,?_⟩⟩
 ·simp[h1]
 ·simp[h1,zV3,zbk,zbl,zbm,zbL (hs.byte _ h1).1 (by have:=(hs.byte _ h1).2;omega)]
 ·simp[Nat.not_lt.2 h1]
 ·simp[Nat.not_lt.2 h1,zV3,zbk,zbl,zbm]
set_option maxRecDepth 20000
set_option maxHeartbeats 3200000
theorem zQE(x:Int):0<=IntKind.u64.wrap x:=by
 simp[IntKind.wrap,IntKind.bits,IntKind.signed];omega
theorem zCh{x:Int}(h:-1000000000000000000<=x)(h':x<=1000000000000000000):IntKind.i64.wrap x=x:=by
 simp[IntKind.wrap,IntKind.bits,IntKind.signed];omega
theorem zGA(s:zAK){m:Int}(h:1<m)(h':m<=1000000000000000000):0<=nV s m/\nV s m<m:=by
 unfold nV;rw[if_neg (by omega)];have h0:=Int.tmod_nonneg m (zQE ((if s.pos<s.bn then s.bf s.pos else 0)+zYu (zV3 s.mix) 20));have h1:=Int.tmod_lt_of_pos (IntKind.u64.wrap ((if s.pos<s.bn then s.bf s.pos else 0)+zYu (zV3 s.mix) 20)) (show 0<m by omega);rw[zCh (by omega) (by omega)];exact⟨h0,h1⟩
theorem zJc(s:zAK){m:Int}(h':m<=1000000000000000000):0<=nV s m/\(nV s m<m\/nV s m=0):=by
 by_cases h:1<m
 ·exact⟨(zGA s h h').1,.inl (zGA s h h').2⟩
 ·have:nV s m=0:=if_pos (by omega);omega
attribute [local go_sem] qX List.map_cons List.map_nil Tr.cv yp qD qs qq yo yn ym qp zAu zAw zAv zAr zAt zAs zCF zCH zCG qH zl qI zm qB qA qM yx zi zj qw qG tmpsOf zAf qv qF zAp yv yr yq yu stpP opds opd opdC kap zAG qC zh coreU bin zAb zB0 get put dlO fgt zA8 zA1 zA5 zA6 tyT yj yi Op.operands Call.operands evLoad evLen evStore evAlloc zAa and_true true_and List.append_nil List.nil_append List.cons_append Ret resCv zBs yQ cellM zBV zBw qY StW StR hpT hpO hpV hpA hpL hpC sg nin zB6 bdO tmW obW AvE CsE CvE Av.tup Av.ids Cv.ids inD ObE Ob.ids TrE.refl qE qt qu qJ qK qL zk ze zb yw zBc zB1 zAy evCall argL argOf qh outOb obO yL zy cvO tot Tr.own rid partsOf fillC zW zBU frz frz1 evBuildSlice zc trs Cv.tr evSlice Option.toArray_none Option.toArray_some evMakeSlice evAppend dstOf srcOf zBC zA7 zA4 zA2 zA3 ikT qn qm ql qk RetP RetN zBd qQ evLd evSt evStoreH zAX evAppendM evAppendT tlOf mvOf rowE shp evTake oOf evC evCallP evCallN evCallO unlast zAW zBB zAU argsF zB5 qy pmC varT vT evField evConv dB0 Option.bind_some Option.bind_none Option.map_some Option.map_none Option.isSome_some Option.isSome_none
attribute [-go_sem] zAb
attribute [local go_sem] zKf zKd zKe zG6 zG7 zG8 zKY zKc zKb zKa zKZ zCj
noncomputable def zcR:za:=qZ (fun q:zAK×Int=>(true,srV q.1) :: [iT q.2]) (fun q=>qi q.1/\q.2<=1000000000000000000) (fun q=>(true,srV (nS q.1 q.2)) :: bR (nV q.1 q.2=0))
theorem zBH(s:zAK)(m:Int):zcR ((true,srV s) :: [iT m])=some (qi s/\m<=1000000000000000000,(true,srV (nS s m)) :: bR (nV s m=0)):=zO (fun l=>(zHB (nth l 0),qd (nth l 1 0))) (fun _=>rfl) (s,m)
theorem zPt:zBr Tryz.prog 41 zcR:=by
 refine zBa zs (GOk.ptr zPm (zF Tryz.func47 rfl rfl) GOk.nil) zr Tryz.func41 rfl Tryz.ntmps41 Tryz.results41 5 ?_;rintro⟨s,m⟩ hs;obtain⟨hs,hm⟩:qi s/\m<=1000000000000000000:=hs;refine⟨by simp,?_⟩;simp[go_sem,zCq,hs,hm,zw]
noncomputable def zcN:za:=qZ (fun q:Int×Int=>[iT q.1,iT q.2]) (fun _=>True) (fun q=>[iT (max q.1 q.2)])
theorem zZu(a b:Int):zcN [iT a,iT b]=some (True,[iT (max a b)]):=zO (fun l=>(qd (nth l 0 0),qd (nth l 1 0))) (fun _=>rfl) (a,b)
theorem zVi:zp Tryz.prog 69 zcN:=by
 refine zR zs GOk.nil zr Tryz.func69 rfl Tryz.ntmps69 Tryz.results69 5 ?_;rintro⟨a,b⟩ -;refine⟨by simp,?_⟩;simp[go_sem];omega
abbrev sT'(d:ByteArray):Bool×List Tr:=(false,[.v (.string d)])
def zaf:List Int:=[0,1,-1,2,1000,1001,2147483648,2147483647,-2147483648,4611686018427387904,9223372036854775807,-9223372036854775808,1000000,1000001]
def zQg(s:zAK):Int:=zaf.getD (nV s 14).toNat 0
noncomputable def zaq:za:=qZ (fun s:zAK=>[(true,srV s)]) (fun s=>qi s) (fun s=>[(true,srV (nS s 14)),iT (zQg s)])
theorem zHN(s:zAK):zaq [(true,srV s)]=some (qi s,[(true,srV (nS s 14)),iT (zQg s)]):=zO (fun l=>zHB (nth l 0)) (fun _=>rfl) s
theorem zTt:zBr Tryz.prog 83 zaq:=by
 refine zBa (A:=fun _=>[]) zs (GOk.ptr zPm (zF Tryz.func47 rfl rfl) GOk.nil) zr Tryz.func83 rfl Tryz.ntmps83 Tryz.results83 3 ?_;rintro s hs;replace hs:qi s:=hs;have hv:=zGA s (m:=14) (by omega) (by omega);refine⟨by simp,?_⟩;rcases(show nV s 14=0\/nV s 14=1\/nV s 14=2\/nV s 14=3\/nV s 14=4\/nV s 14=5\/nV s 14=6\/nV s 14=7\/nV s 14=8\/nV s 14=9\/nV s 14=10\/nV s 14=11\/nV s 14=12\/nV s 14=13 by omega)with h | h | h | h | h | h | h | h | h | h | h | h | h | h<;>simp[go_sem,zCq,hs,h,zQg,zaf,zw]
def zLG(s:zAK):zAK:=if nV s 20=0 then nS (nS (nS s 20) 14) 4 else nS (nS s 20) 7
def zRc(s:zAK):Int:=if nV s 20=0 then [-1,63,64,zQg (nS s 20)].getD (nV (nS (nS s 20) 14) 4).toNat 0 else [0,1,2,7,8,9,63].getD (nV (nS s 20) 7).toNat 0
theorem zPo{s:zAK}(h:qi s):qi (zLG s):=by
 unfold zLG;split
 ·exact zAI (zAI (zAI h _) _) _
 ·exact zAI (zAI h _) _
noncomputable def zcP:za:=qZ (fun s:zAK=>[(true,srV s)]) (fun s=>qi s) (fun s=>[(true,srV (zLG s)),iT (zRc s)])
theorem zZv(s:zAK):zcP [(true,srV s)]=some (qi s,[(true,srV (zLG s)),iT (zRc s)]):=zO (fun l=>zHB (nth l 0)) (fun _=>rfl) s
theorem zSW:zBr Tryz.prog 72 zcP:=by
 refine zBa (A:=fun _=>[]) zs (GOk.ptr zPm (zF Tryz.func47 rfl rfl) (GOk.ptr zPt (zF Tryz.func41 rfl rfl) (GOk.ptr zTt (zF Tryz.func83 rfl rfl) GOk.nil))) zr Tryz.func72 rfl Tryz.ntmps72 Tryz.results72 3 ?_;rintro s hs;replace hs:qi s:=hs;have h1:=zAI hs 20;have h2:=zAI h1 14;refine⟨by simp,?_⟩;by_cases h0:nV s 20=0
 ·have hv:=zGA (nS (nS s 20) 14) (m:=4) (by omega) (by omega);rcases(show nV (nS (nS s 20) 14) 4=0\/nV (nS (nS s 20) 14) 4=1\/nV (nS (nS s 20) 14) 4=2\/nV (nS (nS s 20) 14) 4=3 by omega)with h | h | h | h<;>simp[go_sem,zCq,zBH,zHN,hs,h1,h2,h0,h,zLG,zRc,zw]
 ·have hv:=zGA (nS s 20) (m:=7) (by omega) (by omega);rcases(show nV (nS s 20) 7=0\/nV (nS s 20) 7=1\/nV (nS s 20) 7=2\/nV (nS s 20) 7=3\/nV (nS s 20) 7=4\/nV (nS s 20) 7=5\/nV (nS s 20) 7=6 by omega)with h | h | h | h | h | h | h<;>simp[go_sem,zCq,zBH,zHN,hs,h1,h2,h0,h,zLG,zRc,zw]
noncomputable def zRN:za:=qZ (fun q:zAK×Nat×(Nat->Nat->Tr)=>(true,srV q.1) :: [(false,[.s .b 1 q.2.1 q.2.2])]) (fun q=>qi q.1/\(0<q.2.1/\q.2.1<=1000000)/\∀i,i<q.2.1->∃t,q.2.2 i 0 = .v (.string t)) (fun q=>[(true,srV (nS q.1 q.2.1)),sT' (zDn (q.2.2 (nV q.1 q.2.1).toNat 0))])
theorem zXs(s:zAK)(n:Nat)(F:Nat->Nat->Tr):zRN ((true,srV s) :: [(false,[.s .b 1 n F])])=some (qi s/\(0<n/\n<=1000000)/\∀i,i<n->∃t,F i 0 = .v (.string t),[(true,srV (nS s n)),sT' (zDn (F (nV s n).toNat 0))]):=zO (fun l=>(zHB (nth l 0),zFr (nth l 1 0),zCf (nth l 1 0))) (fun _=>rfl) (s,n,F)
theorem zUu:zBr Tryz.prog 74 zRN:=by
 refine zBa zs (GOk.ptr zPm (zF Tryz.func47 rfl rfl) GOk.nil) zr Tryz.func74 rfl Tryz.ntmps74 Tryz.results74 5 ?_;rintro⟨s,n,F⟩ hs;obtain⟨hs,⟨hn,aA⟩,hF⟩:qi s/\(0<n/\n<=1000000)/\∀i,i<n->∃t,F i 0 = .v (.string t):=hs;have hv:=zJc s (m:=n) (by omega);obtain⟨t,ht⟩:=hF (nV s n).toNat (by omega);refine⟨by simp,?_⟩;simp[go_sem,zCq,hs,ht,zw,zDn];omega
set_option maxRecDepth 20000
set_option maxHeartbeats 3200000
theorem zb8{a b:Int}:zAb .quo .i64 a .i64 b=some (b≠0,.int .i64 (IntKind.i64.wrap (a.tdiv b))):=rfl
def zGw(l:List ByteArray):Nat->Nat->Tr:=fun p q=>(l.map fun t=>Tr.v (.string t))[p+q]?.getD (.v (.bool false))
theorem zR3{l:List ByteArray}{i:Nat}(h:i<l.length):zGw l i 0 = .v (.string (l.getD i ⟨#[]⟩)):=by
 unfold zGw;simp[h]
theorem zOY{fl:Fl}{n:Nat}(l:List ByteArray):(Tr.s fl 1 n (zGw l)).lend = .s .b 1 n (zGw l):=by
 show Tr.s .b 1 n (fun p q=>(zGw l p q).lend)=_;congr 1;funext p q;unfold zGw;rw[List.getElem?_map];cases l[p+q]?<;>rfl
theorem zHo{fl:Fl}{a b c:ByteArray}:(Tr.s fl 1 3 fun p q=>([.v (.string a),.v (.string b),.v (.string c)]:List Tr)[p+q]?.getD (.v (.bool false))).lend = .s .b 1 3 (zGw [a,b,c]):=zOY [a,b,c]
theorem zHp{fl:Fl}{a b c d e:ByteArray}:(Tr.s fl 1 5 fun p q=>([.v (.string a),.v (.string b),.v (.string c),.v (.string d),.v (.string e)]:List Tr)[p+q]?.getD (.v (.bool false))).lend = .s .b 1 5 (zGw [a,b,c,d,e]):=zOY [a,b,c,d,e]
theorem zMl(s:zAK)(l:List ByteArray)(h:0<l.length/\l.length<=1000000):zRN ((true,srV s) :: [(false,[.s .b 1 l.length (zGw l)])])=some (qi s,[(true,srV (nS s l.length)),sT' (l.getD (nV s l.length).toNat ⟨#[]⟩)]):=by
 have hv:=zJc s (m:=l.length) (by omega);rw[zXs,zR3 (by omega)];have e:(qi s/\(0<l.length/\l.length<=1000000)/\∀i,i<l.length->∃t,zGw l i 0 = .v (.string t))=qi s:=by
  refine propext ⟨fun h=>h.1,fun hs=>⟨hs,h,fun i hi=>⟨_,zR3 hi⟩⟩⟩
 rw[e];rfl
theorem zVw(s:zAK)(a b c:ByteArray):zRN ((true,srV s) :: [(false,[.s .b 1 3 (zGw [a,b,c])])])=some (qi s,[(true,srV (nS s 3)),sT' ([a,b,c].getD (nV s 3).toNat ⟨#[]⟩)]):=zMl s [a,b,c] ⟨by simp,by simp⟩
theorem zVx(s:zAK)(a b c d e:ByteArray):zRN ((true,srV s) :: [(false,[.s .b 1 5 (zGw [a,b,c,d,e])])])=some (qi s,[(true,srV (nS s 5)),sT' ([a,b,c,d,e].getD (nV s 5).toNat ⟨#[]⟩)]):=zMl s [a,b,c,d,e] ⟨by simp,by simp⟩
attribute [local go_sem] qX List.map_cons List.map_nil Tr.cv yp qD qs qq yo yn ym qp zAu zAw zAv zAr zAt zAs zCF zCH zCG qH zl qI zm qB qA qM yx zi zj qw qG tmpsOf zAf qv qF zAp yv yr yq yu stpP opds opd opdC kap zAG qC zh coreU bin zAb zB0 get put dlO fgt zA8 zA1 zA5 zA6 tyT yj yi Op.operands Call.operands evLoad evLen evStore evAlloc zAa and_true true_and List.append_nil List.nil_append List.cons_append Ret resCv zBs yQ cellM zBV zBw qY StW StR hpT hpO hpV hpA hpL hpC sg nin zB6 bdO tmW obW AvE CsE CvE Av.tup Av.ids Cv.ids inD ObE Ob.ids TrE.refl qE qt qu qJ qK qL zk ze zb yw zBc zB1 zAy evCall argL argOf qh outOb obO yL zy cvO tot Tr.own rid partsOf fillC zW zBU frz frz1 evBuildSlice zc trs Cv.tr evSlice Option.toArray_none Option.toArray_some evMakeSlice evAppend dstOf srcOf zBC zA7 zA4 zA2 zA3 ikT qn qm ql qk RetP RetN zBd qQ evLd evSt evStoreH zAX evAppendM evAppendT tlOf mvOf rowE shp evTake oOf evC evCallP evCallN evCallO unlast zAW zBB zAU argsF zB5 qy pmC varT vT evField evConv dB0 Option.bind_some Option.bind_none Option.map_some Option.map_none Option.isSome_some Option.isSome_none
attribute [local go_sem] zHo zHp
attribute [-go_sem] zAb
attribute [local go_sem] zKf zKd zKe zG6 zG7 zG8 zKY zKc zKb zKa zKZ zb8 zCj
def zbG:List ByteArray:=[⟨#[97]⟩,⟨#[97]⟩,⟨#[98]⟩,⟨#[99]⟩,⟨#[100]⟩]
def zRZ(s:zAK):ByteArray:=zbG.getD (nV s 5).toNat ⟨#[]⟩
noncomputable def zXm:za:=qZ (fun s:zAK=>[(true,srV s)]) (fun s=>qi s) (fun s=>[(true,srV (nS s 5)),sT' (zRZ s)])
theorem zVu(s:zAK):zXm [(true,srV s)]=some (qi s,[(true,srV (nS s 5)),sT' (zRZ s)]):=zO (fun l=>zHB (nth l 0)) (fun _=>rfl) s
theorem zSz:zBr Tryz.prog 70 zXm:=by
 refine zBa (A:=fun _=>[]) zs (GOk.ptr zUu (zF Tryz.func74 rfl rfl) GOk.nil) zr Tryz.func70 rfl Tryz.ntmps70 Tryz.results70 3 ?_;rintro s hs;replace hs:qi s:=hs;refine⟨by simp,?_⟩;simp[go_sem,zVx,hs,zRZ,zbG,zw]
def zW2(a b:Int):Nat->Nat->Tr:=yK (yK (fun _ q=>Tr.v ([Value.int IntKind.u8 0][q]?.getD (Value.bool false))) 0 0 [.v (.int .u8 (IntKind.u8.wrap a))]) 15 0 [.v (.int .u8 (IntKind.u8.wrap (IntKind.i64.wrap (97+b))))]
theorem zW3(a b:Int)(p:Nat):∃x,zW2 a b p 0 = .v (.int .u8 x):=by
 unfold zW2 yK;by_cases h1:p=15
 ·exact⟨IntKind.u8.wrap (IntKind.i64.wrap (97+b)),by simp[h1]⟩
 ·by_cases h2:p=0
  ·exact⟨IntKind.u8.wrap a,by simp[h2]⟩
  ·exact⟨0,by simp[h1,h2]⟩
def zTq(s:zAK):zAK:=nS (nS s 256) 3
def zTr(s:zAK):ByteArray:=zU7 16 (zW2 (nV s 256) (nV (nS s 256) 3))
noncomputable def zan:za:=qZ (fun s:zAK=>[(true,srV s)]) (fun s=>qi s) (fun s=>[(true,srV (zTq s)),sT' (zTr s)])
theorem zXi(s:zAK):zan [(true,srV s)]=some (qi s,[(true,srV (zTq s)),sT' (zTr s)]):=zO (fun l=>zHB (nth l 0)) (fun _=>rfl) s
theorem zSr:zBr Tryz.prog 81 zan:=by
 refine zBa (A:=fun _=>[]) zs (GOk.ptr zPm (zF Tryz.func47 rfl rfl) GOk.nil) zr Tryz.func81 rfl Tryz.ntmps81 Tryz.results81 4 ?_;rintro s hs;replace hs:qi s:=hs;have h1:=zAI hs 256;refine⟨by simp,?_⟩;simp[go_sem,zCq,hs,h1,zw];exact⟨fun p _=>zW3 _ _ p,⟨TrE.refl _,rfl,rfl,rfl⟩,rfl⟩
def zUV(f:Nat->Int):Nat->Int
 | 0=>88172645463325252
 | k+1=>IntKind.u64.wrap (zZF (zUV f k) (IntKind.u64.wrap (f k))*1099511628211)
def zKI(n:Nat)(f:Nat->Int):zAK:=⟨n,f,0,zUV f (min n 64),min ((n / 20:Nat):Int) 12⟩
noncomputable def zUR:za:=qZ (fun q:Nat×(Nat->Int)=>[(false,[.s .z 1 q.1 (zFC q.2)])]) (fun q=>q.1<=2000000) (fun q=>[(true,srV (zKI q.1 q.2))])
theorem zMn(n:Nat)(f:Nat->Int):zUR [(false,[.s .z 1 n (zFC f)])]=some (n<=2000000,[(true,srV (zKI n f))]):=zO (fun l=>(zFr (nth l 0 0),fun i=>match zCf (nth l 0 0) i 0 with | .v (.int _ x)=>x | _=>0)) (fun _=>rfl) (n,f)
theorem zJU:zO9 Tryz.prog 24 zUR:=by
 refine zWS zs GOk.nil zr Tryz.func24 rfl Tryz.ntmps24 Tryz.results24 5 ?_;rintro⟨n,f⟩ hn;replace hn:n<=2000000:=hn;refine⟨by simp,?_⟩;simp[go_sem];refine yF (fun k:Nat=>⟨[(4,true,.i k),(3,true,.m false [.p 7 0]),(0,true,.m false [.s .z 1 n (zFC f)])],[(7,.var [.s .z 1 n (zFC f),.v i0,.v (.int .u64 (zUV f k)),.v i0])]⟩) (fun k=>n - k) (fun k=>k<=n/\k<=64) 0 (by simp[go_sem,zUV]) (by simp) ?_;rintro k ⟨hk,aA⟩;simp[go_sem,qN (show k<=1000000000 by omega)];refine⟨fun h1 h2=>⟨h1,by kernel_rfl,k+1,by omega,by omega,rfl,rfl⟩,fun h=>?_⟩;have hm:min n 64=k:=by omega
 rw[zCh (x:=(n:Int) / 20) (by omega) (by omega)];refine⟨fun h1=>⟨⟨TrE.refl _,zw⟩,rfl,by rw[<-hm];rfl,?_⟩,fun h1=>⟨⟨TrE.refl _,zw⟩,rfl,by rw[<-hm];rfl,?_⟩⟩
 ·show(12:Int)=min ((n / 20:Nat):Int) 12;omega
 ·show(n:Int) / 20=min ((n / 20:Nat):Int) 12;omega
theorem zKJ{n:Nat}{f:Nat->Int}(h:n<=2000000)(hf:∀i,i<n->0<=f i/\f i<256):qi (zKI n f):=⟨h,Nat.zero_le _,hf,by show 0<=min ((n / 20:Nat):Int) 12/\min ((n / 20:Nat):Int) 12<=12;omega⟩
end Go.Proofs.YtbplmbafodlboaaGreatDoor

/- A list of what is held is appended to (no law is proved here). -/
import Derived.ArgAppend
import Derived.Test.YtmgeglgboadfiaaGreatDoorT32
set_option linter.unusedVariables false
set_option maxRecDepth 20000
set_option maxHeartbeats 4000000
namespace Go.Proofs.YtmgeglgboadfiaaGreatDoor
open Go.RowKit
theorem qj.row{w:World}{b n c:Nat}{a:Option Addr}{f:Nat->Int}(h:qj w b(.slice a n c) n f)(aA:n<c):w.ownsRow b 2 1(.slice a n c) n(ic f n)/\a=some ⟨b,0,none⟩/\0<n:=by
 obtain⟨hm,a0,c0,hv,hcc,hc,hr⟩:=h;simp only [Value.slice.injEq,true_and] at hv;obtain⟨rfl,rfl⟩:=hv;obtain⟨h0,rfl,hcm,cur,hcur,hsz⟩:=hr aA;obtain⟨off,ha,hcell⟩:=hc h0;simp only [Option.some.injEq,Addr.mk.injEq,true_and,and_true] at ha;subst ha;refine⟨⟨zBe _ _,.inr ⟨b,c,cur,rfl,Nat.le_refl _,hcur,hcc,hcm,by simpa using hsz,?_⟩⟩,rfl,h0⟩;apply List.ext_getElem?;intro j;by_cases hj:j<n
 ·have e:=(hcell j hj).1;rw [Nat.zero_add,cell_of_row w b j cur _(0,0) hcur] at e;rw [List.getElem?_take,if_pos(by omega),zMD f n j hj];simpa using e
 ·rw [List.getElem?_eq_none(by simp;omega),List.getElem?_eq_none(by rw [zBe];omega)]
theorem qj.block{w:World}{b n:Nat}{v:Value}{f:Nat->Int}(h:qj w b v n f)(h0:0<n):v.ownBlock=some b:=by
 obtain⟨_,a,c,rfl,_,hc,_⟩:=h;obtain⟨off,rfl,_⟩:=hc h0;rfl
theorem zKd:Tryz.prog.underlying 23=some(.slice 2):=by kernel_rfl
theorem zOZ{w:World}{b n B:Nat}{v:Value}{f:Nat->Int}{x:Int}(h:qj w b v n f)(hn:n<=1000)(bA:w.cell? ⟨B,0,none⟩=some(.int .i64 x))(ty:TypeId) :
  ∃base g aA w',(Builtin.append_ #[23,23] ty #[v,.slice(some ⟨B,0,none⟩) 1 1]).run Tryz.prog w = .ok(.slice(some ⟨g,0,none⟩)(n+1) aA) w'/\w'.ownsRow base 2 1(.slice(some ⟨g,0,none⟩)(n+1) aA)(n+1)(ic f n ++ [.int .i64 x])/\zF(fun k=>0<n/\v.ownBlock=some k) w w'/\((0<n/\v.ownBlock=some g)\/w.heap.size<=g)/\g<w'.heap.size:=by
 obtain⟨i0,hi0,hzz⟩:=Option.map_eq_some_iff.1 zDM;simp only [Prod.mk.injEq] at hzz;obtain⟨hz,hs,hby⟩:=hzz;obtain⟨a,c,rfl⟩:∃a c,v = .slice a n c:=by obtain⟨_,a,c,e,_⟩:=h;exact⟨a,c,e⟩
 by_cases gA:n<c
 ·obtain⟨cA,rfl,h0⟩:=h.row gA;obtain⟨g,aA,w',hr,h2,h3,h4,h5⟩:=run_append_lies(P:=Tryz.prog) w 23 ty b 2 i0 _ 1 8 zKd hi0 hz hs hby rfl(by decide) _ n(ic f n) cA ⟨B,0,none⟩ 1 1 [.int .i64 x] rfl(zF7 bA)(zQO x)(by omega)(by unfold maxLen;omega)(by omega)(by have:=cA.lt b rfl;omega) w.heap.size rfl;refine⟨b,g,aA,w',hr,h2,?_,?_,h5⟩
  ·refine⟨h3.os,h3.tape,h3.output,h3.size,fun k hk fA=>h3.block k hk(fun e=>fA ⟨h0,e.symm⟩)⟩
  ·exact h4.imp(fun h=>⟨h0,h⟩)(fun h=>by omega)
 ·obtain⟨hm,a0,c0,hv,hcc,hcell,-⟩:=h;simp only [Value.slice.injEq,true_and] at hv;obtain⟨rfl,rfl⟩:=hv;obtain rfl:c=n:=(by omega);by_cases h0:0<c
  ·obtain⟨off,rfl,hcs⟩:=hcell h0;obtain⟨v',w',hr,h1,h2⟩:=run_append_arg_grows(P:=Tryz.prog) w 23 ty 2 i0 _ 1 8 zKd hi0 hz hs hby rfl(by decide) ⟨b,off,none⟩ c c(ic f c)(by rw [zBe])(fun j u hj=>by
     have eA:j<c:=by
      have:=(List.getElem?_eq_some_iff.1 hj).1;rw [zBe] at this;omega
     have dA:=zMD f c j eA;rw [hj] at dA;injection dA with dA;subst dA;have e:(⟨b,off,none⟩:Addr).add j=⟨b,off+j,none⟩:=by
      unfold Addr.add;split
      ·simp_all
      ·simp
     rw [e];exact(hcs j eA).1) ⟨B,0,none⟩ 1 1 [.int .i64 x] rfl(zF7 bA)(by omega)(by unfold maxLen;omega)(by omega)
   obtain⟨g,aA,rfl,hcap,hbg,hgl,-⟩:=qf h1(by omega);exact⟨_,g,aA,w',hr,h1,⟨h2.os,h2.tape,h2.output,h2.size,fun k hk _=>h2.block k hk(by simp)⟩,Or.inr hbg,hgl⟩
  ·obtain rfl:c=0:=(by omega);obtain⟨g,aA,w',hr,h2,h3,h4,h5⟩:=run_append_lies(P:=Tryz.prog) w 23 ty w.heap.size 2 i0 _ 1 8 zKd hi0 hz hs hby rfl(by decide)(.slice none 0 0) 0 [] ⟨by simp,Or.inl ⟨rfl,rfl⟩⟩ ⟨B,0,none⟩ 1 1 [.int .i64 x] rfl(zF7 bA)(zQO x)(by omega)(by unfold maxLen;omega)(by omega)(Nat.le_refl _) w.heap.size rfl;refine⟨_,g,aA,w',?_,h2,⟨h3.os,h3.tape,h3.output,h3.size,fun k hk _=>h3.block k hk(by simp [Value.ownBlock])⟩,Or.inr ?_,h5⟩
   ·rw [zDr 23 ty 2 i0 a ⟨B,0,none⟩ 1 1 zKd hi0(by omega)(by rw [hby];omega)];exact hr
   ·rcases h4 with h4 | h4
    ·cases h4
    ·omega
structure zQ0(p:Prop):Prop where
 out:p
theorem zJd{A B:Prop}(f:zQ0 A->B)(h:A):B:=f ⟨h⟩
theorem zIl{wa wb:World}{S:Nat->Prop}{X g cA base:Nat}{v0 v1:Value}{q:zJ}{x:Int}(ho:qZ wa S v0 v1 q)(t:zF(fun k=>0<q.hn/\v1.ownBlock=some k) wa wb)
  (aA:wb.ownsRow base 2 1(.slice(some ⟨g,0,none⟩)(q.hn+1) cA)(q.hn+1)(ic q.h q.hn ++ [.int .i64 x]))(gA:(0<q.hn/\v1.ownBlock=some g)\/¬S g)(hX:¬S X)(fA:g≠X)(hm:q.hn+1<=maxLen) :
  qZ(wb.setCell ⟨X,1,none⟩(.slice(some ⟨g,0,none⟩)(q.hn+1) cA))(fun k=>S k\/k=g) v0(.slice(some ⟨g,0,none⟩)(q.hn+1) cA)(zAK q x):=by
 obtain⟨bs,hb,kb,kv,h1,h2,h3,h4,h5⟩:=ho;have tX:=zF.put wb X 1(.slice(some ⟨g,0,none⟩)(q.hn+1) cA);have dA:∀k,yk bs kb q.n q.s k->¬(0<q.hn/\v1.ownBlock=some k):=fun k hk hx=>by
  rw [h3.block hx.1] at hx;simp only [Option.some.injEq] at hx;exact h4 hx.1(hx.2▸hk)
 have eA:∀k,yk bs kb q.n q.s k->¬k=X:=fun k hk e=>hX(e▸h5 k(Or.inl hk))
 have s1:=(h1.zRR t(fun h0=>dA _(Or.inl ⟨h0,rfl⟩))(fun i hi h=>dA _(Or.inr ⟨i,hi,h,rfl⟩))).zRR tX(fun h0=>eA _(Or.inl ⟨h0,rfl⟩))(fun i hi h=>eA _(Or.inr ⟨i,hi,h,rfl⟩));rw [<-zNW] at aA;have bA:=aA.kept(zB5 tX)(Or.inr(by simp [Value.ownBlock];exact fA));obtain⟨gb,hi2,hg2⟩:=zEv(f:=(zAK q x).h) hm bA(fun e=>absurd e(Nat.succ_ne_zero _));obtain rfl:g=gb:=by have:=hg2(Nat.succ_pos _);simpa [Value.ownBlock] using this
 refine⟨bs,g,kb,kv,s1,h2,hi2,fun _ hx=>?_,fun k hk=>?_⟩
 ·rcases gA with⟨h0,he⟩ | he
  ·exact dA g hx ⟨h0,he⟩
  ·exact he(h5 g(Or.inl hx))
 ·rcases hk with hk | ⟨_,rfl⟩
  ·exact Or.inl(h5 k(Or.inl hk))
  ·exact Or.inr rfl
theorem zLn(V lo hi:Nat)(P:Nat->Prop)(z0 z1 z2 z3 v:Value)(tm nx:Int)(p:zJ)(l:List(Int×Int))(w:World)(hV:zi w V z0 z1(.int .i64 tm)(.int .i64 nx) z2 z3)(hP:qZ w P z0 z1 p)(eA:∀j,P j->j<V)(hv:zR w lo hi v l.length(zf l)(zh l))(mB:V<lo)(nB:hi<=w.heap.size)(hl:l.length<=200)(kB:p.hn<=400) :
  Calls Tryz.prog 54 #[.pointer(some ⟨V,0,none⟩),v] w fun e w'=>e = .returned(.int .i64(l.length:Int))/\∃y1,zi w' V z0 y1(.int .i64 tm)(.int .i64 nx) z2 z3/\qZ w'(fun j=>P j\/(w.heap.size<=j/\j<w'.heap.size)) z0 y1(zx p l)/\zF(fun j=>j=V\/P j\/w.heap.size<=j) w w':=by
 have jB:=hV.1.lt;obtain⟨-,a,c,rfl,-,hx⟩:=hv;have HX:=zB hx;have HV:=zB hV;have HP:=zB hP;clear hV hP hx;go_enter Tryz.func54,Tryz.ntmps54;go_wp2_with fail
 go_loopw [5](fun i wr=>∃(k:Nat)(y1:Value),k<=l.length/\i = .int .i64 k/\zi wr V z0 y1(.int .i64 tm)(.int .i64 nx) z2 z3/\qZ wr(fun j=>P j\/(w.heap.size<=j/\j<wr.heap.size)) z0 y1(zx p(l.take k))/\zF(fun j=>j=V\/P j\/w.heap.size<=j) w wr)(fun i _=>l.length - (intOf i).toNat)
 case atStart=>exact⟨0,_,Nat.zero_le _,rfl,HV.out,HP.out.mono(fun j h=>Or.inl h),zF.refl _ _⟩
 case round=>
  obtain⟨k,y1,hk,rfl,hVk,hPk,hTk⟩:=hrel;have pA:=zB hVk;have gA:=zB hPk;have kA:=zB hTk;have iB:=hTk.size;clear hVk hPk hTk;by_cases mA:k<l.length
  ·have bB:(k:Int)<(l.length:Int):=(by omega);obtain⟨b,off,rfl,hb1,hb2,hcell⟩:=HX.out(by omega);have q0:=(kA.out.cell(o:=off+k*2)(show b<w.heap.size by omega)(fun h=>by
    rcases h with h | h | h
    ·omega
    ·have:=eA b h;omega
    ·omega)).trans(hcell k mA).1
   have tA:(zx p(l.take k)).hn<=1000:=by
    rw [(zJS(l.take k) p).2.2,List.length_take];omega
   obtain⟨bs,hbk,kb,kv,i1,i2,i3,i4,i5⟩:=id gA.out;obtain⟨a1,c1,rfl⟩:∃a1 c1,y1 = .slice a1(zx p(l.take k)).hn c1:=(by obtain⟨_,a1,c1,e,_⟩:=i3;exact⟨a1,c1,e⟩);have lA:Below wr.heap.size wr wr.drew:=(Below.refl _ _).drew;have jA:=zC wr.drew(.cells #[.int .i64(zf l k)] 2);have bA:Below wr.heap.size wr(wr.drew.alloc(.cells #[.int .i64(zf l k)] 2)):=zA lA jA;obtain⟨base,g,cap,w5,hr5,hrow5,hT5,hg5,hgz5⟩:=zOZ(B:=wr.drew.heap.size)(x:=zf l k)(i3.zRJ bA) tA(World.cell?_alloc_at _ _ _ _ rfl) 23;have fB:(wr.drew.alloc(.cells #[.int .i64(zf l k)] 2)).heap.size>=wr.heap.size+1:=(by rw [World.size_alloc];exact Nat.le_refl _);have oB:wr.heap.size+1<=w5.heap.size:=(by have:=hT5.size;omega);have dA:∀j,0<(zx p(l.take k)).hn/\(Value.slice a1(zx p(l.take k)).hn c1).ownBlock=some j->P j\/(w.heap.size<=j/\j<wr.heap.size):=fun j h=>by
    have e:=i3.block h.1;rw [h.2] at e;injection e with e;rw [e];exact i5 hbk(Or.inr ⟨h.1,rfl⟩)
   have fA:∀j,0<(zx p(l.take k)).hn/\(Value.slice a1(zx p(l.take k)).hn c1).ownBlock=some j->j≠V/\j≠b:=fun j h=>by
    rcases dA j h with h' | h'
    ·have:=eA j h';exact⟨by omega,by omega⟩
    ·exact⟨by omega,by omega⟩
   have gB:g≠V:=by
    rcases hg5 with h | h
    ·exact(fA g h).1
    ·omega
   have nA:=(pA.out.zRJ bA).zRR hT5(fun h=>(fA V h).1 rfl);have aA:=zB(show ∀w',Below wr.drew.heap.size wr.drew w'->(fun w':World=>w'.cell? ⟨b,off+k*2,none⟩=some(.int .i64(zf l k))) w' from fun w' hb=>(hb.cell(p:=⟨b,off+k*2,none⟩)(show b<wr.heap.size by omega)).trans q0);have oA:=zB(show(fun w':World=>w'.cell? ⟨b,off+k*2,none⟩=some(.int .i64(zf l k))) w5 from(hT5.cell(o:=off+k*2)(show b<_ by omega)(fun h=>(fA b h).2 rfl)).trans((bA.cell(p:=⟨b,off+k*2,none⟩)(show b<wr.heap.size by omega)).trans q0));have rA:=zF.put w5 V 1(.slice(some ⟨g,0,none⟩)((zx p(l.take k)).hn+1) cap);have sA:=zB(show(fun w':World=>w'.cell? ⟨b,off+k*2,none⟩=some(.int .i64(zf l k)))(w5.setCell ⟨V,1,none⟩(.slice(some ⟨g,0,none⟩)((zx p(l.take k)).hn+1) cap))from(rA.cell(o:=off+k*2)(show b<w5.heap.size by omega)(fun h=>by omega)).trans oA.out);have eB:=zB(zIl(X:=V)(gA.out.zRJ bA) hT5 hrow5(hg5.imp id(fun h hx=>by
    rcases hx with hx | hx
    ·have:=eA g hx;omega
    ·omega))(fun hx=>by
    rcases hx with hx | hx
    ·have:=eA V hx;omega
    ·omega) gB(by unfold maxLen;omega))
   have vA:=zB(show zF(fun j=>j=V\/P j\/w.heap.size<=j) w(w5.setCell ⟨V,1,none⟩(.slice(some ⟨g,0,none⟩)((zx p(l.take k)).hn+1) cap))from(kA.out.trans((zF.zRM bA).trans(hT5.mono(fun j h=>by
    rcases dA j h with h' | h'
    ·exact Or.inr(Or.inl h')
    ·exact Or.inr(Or.inr h'.1))))).trans(rA.mono(fun j e=>Or.inl e)))
   have HR:=zB hr5;have iA:=zB jA;have HG:=zB(show(0<(zx p(l.take k)).hn/\(Value.slice a1(zx p(l.take k)).hn c1).ownBlock=some g)\/wr.heap.size<=g from hg5.imp id(fun h=>by omega));have aB:=zB dA;obtain⟨x4,-⟩:=(pA.out.zRJ lA).2.1;have X5:=zB((jA.cell(zD x4)).trans x4);obtain⟨y4,y4'⟩:=nA.2.1;have cA:=zB nA;clear hr5 hrow5 hT5 hg5 nA jA bA hcell i1 i2 i3 i4 i5 dA fA fB q0;go_wp2_with fail;refine wp_region_held_drew(S:=(fun w':World=>w'.cell? ⟨b,off+k*2,none⟩=some(.int .i64(zf l k))))(by kernel_rfl)(aA.out _(Below.refl _ _))(fun hHeld=>?_);generalize wr.drew=q0 at hHeld aA HR iA x4 X5 lA ⊢
   refine' zJd(fun hfin=>_) _
   rotate_left
   ·skip;refine tk 0(h:=tk 1(h:=tk 2(h:=tk 3(h:=tk 4(h:=tk 6(h:=tk 7(h:=tk 8(h:=tk 9(h:=tk 10(h:=?_))))))))));refine rd [5,11](rc(fun K hK=>?_)(rc(fun K hK=>?_) .nil))
    ·go_simp
     (try go_wp2_with fail)
     refine hK.out _ _(aA.out _(Below.refl _ _)) ?_;clear hK K;intro hHeld
     try simp only [Act.put,s1,s2,s3]
     refine rd [11](rc(fun K hK=>?_) .nil);go_simp
     (try go_wp2_with fail)
     refine hK.out _ _(aA.out _ iA.out) ?_;clear hK K;intro hHeld
     try simp only [Act.put,s1,s2,s3]
     refine rd [12](rc(fun K hK=>?_) .nil);refine yv rfl(.tmp 17)(.tmp 23) 23 rfl _ _ _ rfl rfl HR.out ?_
     (try go_wp2_with fail)
     refine hK.out _ _(oA.out) ?_;clear hK K;intro hHeld
     try simp only [Act.put,s1,s2,s3]
     refine tk 13(h:=tk 14(h:=tk 15(h:=?_)));refine rd [16](rc(fun K hK=>?_) .nil);go_simp
     (try go_wp2_with fail)
     refine hK.out _ _(sA.out) ?_;clear hK K;intro hHeld
     try simp only [Act.put,s1,s2,s3]
     refine wpAnyH_done(by kernel_rfl) ?_ _;exact hfin.out
    ·go_simp
     (try go_wp2_with fail)
     refine hK.out _ _(aA.out _ iA.out) ?_;clear hK K;intro hHeld
     try simp only [Act.put,s1,s2,s3]
     refine rd [5](rc(fun K hK=>?_) .nil);have cB:=X5.out;go_simp
     (try go_wp2_with fail)
     refine hK.out _ _(aA.out _ iA.out) ?_;clear hK K;intro hHeld
     try simp only [Act.put,s1,s2,s3]
     clear cB;refine rd [12](rc(fun K hK=>?_) .nil);refine yv rfl(.tmp 17)(.tmp 23) 23 rfl _ _ _ rfl rfl HR.out ?_
     (try go_wp2_with fail)
     refine hK.out _ _(oA.out) ?_;clear hK K;intro hHeld
     try simp only [Act.put,s1,s2,s3]
     refine tk 13(h:=tk 14(h:=tk 15(h:=?_)));refine rd [16](rc(fun K hK=>?_) .nil);go_simp
     (try go_wp2_with fail)
     refine hK.out _ _(sA.out) ?_;clear hK K;intro hHeld
     try simp only [Act.put,s1,s2,s3]
     refine wpAnyH_done(by kernel_rfl) ?_ _;exact hfin.out
   go_wp2_with fail;go_roundw
   case rel=>
    have dB:zi(w5.setCell ⟨V,1,none⟩(.slice(some ⟨g,0,none⟩)((zx p(l.take k)).hn+1) cap)) V z0(.slice(some ⟨g,0,none⟩)((zx p(l.take k)).hn+1) cap)(.int .i64 tm)(.int .i64 nx) z2 z3:=⟨cA.out.1.zRK _(Or.inr(by decide)),cA.out.2.1.set _,cA.out.2.2.1.zRK _(Or.inr(by decide)),cA.out.2.2.2.1.zRK _(Or.inr(by decide)),cA.out.2.2.2.2.1.zRK _(Or.inr(by decide)),cA.out.2.2.2.2.2.zRK _(Or.inr(by decide))⟩;have he:zx p(l.take(k+1))=zAK(zx p(l.take k))(zf l k):=by
     rw [List.take_succ_eq_append_getElem mA,zDn];congr 1;unfold zf;rw [List.getD_eq_getElem?_getD,List.getElem?_eq_getElem mA];rfl
    refine⟨k+1,_,by omega,by go_num,dB,?_,vA.out⟩;rw [he];refine eB.out.mono(fun j hj=>?_);have lB:=rA.size;rcases hj with(h | h) | rfl
    ·exact Or.inl h
    ·exact Or.inr ⟨h.1,by omega⟩
    ·rcases HG.out with h | h
     ·rcases aB.out j h with h' | h'
      ·exact Or.inl h'
      ·exact Or.inr ⟨h'.1,by omega⟩
     ·exact Or.inr ⟨by omega,by omega⟩
   case measure=>simp [intOf];omega
  ·obtain rfl:k=l.length:=(by omega);go_wp2_with fail;rw [List.take_length] at gA;go_ret;exact⟨rfl,y1,pA.out,gA.out,kA.out⟩
theorem zDU(c:Int)(w:World):Calls Tryz.prog 25 #[.int .i64 c] w fun e w'=>e = .returned(.agg #[.slice none 0 0,.slice none 0 0,.int .i64 0,.int .i64 0,.slice none 0 0,.slice none 0 0,.int .i64 0,.int .i64 0,.int .i64 c])/\Below w.heap.size w w':=by
 have ha:=zC w(.cells #[.slice none 0 0,.slice none 0 0,.int .i64 0,.int .i64 0,.slice none 0 0,.slice none 0 0,.int .i64 0,.int .i64 0,.int .i64 c] 39);have aA:=yq.zRL w(.slice none 0 0)(.slice none 0 0)(.int .i64 0)(.int .i64 0)(.slice none 0 0)(.slice none 0 0)(.int .i64 0)(.int .i64 0)(.int .i64 c) 39;go_enter Tryz.func25,Tryz.ntmps25;go_wp2_with fail;refine bodyPost_ret(v:=.agg #[.slice none 0 0,.slice none 0 0,.int .i64 0,.int .i64 0,.slice none 0 0,.slice none 0 0,.int .i64 0,.int .i64 0,.int .i64 c])(by simp [results,Tryz.results25,go_sem,aA.1.1,aA.2.1.1,aA.2.2.1.1,aA.2.2.2.1.1,aA.2.2.2.2.1.1,aA.2.2.2.2.2.1.1,aA.2.2.2.2.2.2.1.1,aA.2.2.2.2.2.2.2.1.1,aA.2.2.2.2.2.2.2.2.1]) rfl ?_;exact⟨rfl,ha⟩
theorem zJl{w:World}{k:Nat}{v:Value}{kv:Nat->Value}{dn:Nat->Nat}(hk:yh w 61 2 v(dn k))(h:∀i,i<k->yh w 61 2(kv i)(dn i))(a:Addr)(u:Value):∀i,i<k+1->yh(w.setCell a u) 61 2((fun j=>if j=k then v else kv j) i)(dn i):=fun i hi=>by
 by_cases e:i=k
 ·subst e;simp only [if_true];exact hk.set a u
 ·simp only [if_neg e];exact(h i(by omega)).set a u
theorem zEE(w:World)(lo hi:Nat)(a:Option Addr)(n c:Nat)(f g:Nat->Int)(h:zR w lo hi(.slice a n c) n f g)(hn:n<=1048576)(ty:TypeId):∃a' c' kb w1,
  (Builtin.append_ #[62,62] ty #[.slice(some ⟨w.heap.size,0,none⟩) 0 0,.slice a n c]).run Tryz.prog(w.alloc(.cells #[] 61)) = .ok(.slice a' n c') w1/\zj w1 kb(.slice a' n c') n f g/\(0<n->w.heap.size<=kb/\kb<w1.heap.size)/\Below w.heap.size w w1/\yh w1 61 2(.slice a' n c') n:=by
 obtain⟨m1,a0,c0,hv,mc,g1⟩:=h;simp only [Value.slice.injEq,true_and] at hv;obtain⟨rfl,rfl⟩:=hv;obtain⟨i0,hi0,hzz⟩:=Option.map_eq_some_iff.1 zCR;simp only [Prod.mk.injEq] at hzz;obtain⟨hz,hs,hby⟩:=hzz;have ht:Tryz.prog.underlying 62=some(.slice 61):=by kernel_rfl
 have aA:(w.alloc(.cells #[] 61)).ownsRow w.heap.size 61 2(.slice(some ⟨w.heap.size,0,none⟩) 0 0) 0 []:=World.ownsRow_made w #[] 0(Nat.le_refl _)(Nat.zero_le _)(by simp);have dA:=zC w(.cells #[] 61);by_cases h0:0<n
 ·obtain⟨b,off,rfl,_,_,hc⟩:=g1 h0;have cA:∀j,(⟨b,off,none⟩:Addr).add j=⟨b,off+j,none⟩:=fun j=>by unfold Addr.add;split<;>simp_all
  obtain⟨v',w1,hr,r1,r2,_⟩:=run_append_own(P:=Tryz.prog)(w.alloc(.cells #[] 61)) w.heap.size 62 ty 61 i0(.agg #[.int .i64 0,.int .i64 0]) 2 16 ht hi0 hz hs hby rfl(by decide) _ 0 [] aA ⟨b,off,none⟩ n c(kc f g n)(zEH f g n)(fun j u hj=>by
    have:=zFu hc j u hj;rw [cA] at this ⊢;exact(dA.cell(zD this)).trans this)(zKF f g n)(by unfold maxLen;omega)(by omega)(by simp)
  have bA:w1.ownsRow w.heap.size 61 2 v' n(kc f g n):=(by simpa using r1);obtain⟨kb,hp,hk⟩:=zCG m1 bA;obtain⟨_,a',c',rfl,_⟩:=id hp;have eA:Below w.heap.size w w1:=dA.grown r2(by simp)(fun q hq=>by have:=aA.lt q hq;omega);exact⟨a',c',kb,w1,hr,hp,hk,eA,yC bA(fun e=>by omega)⟩
 ·obtain rfl:n=0:=(by omega);have hr:=zA3(P:=Tryz.prog)(w:=w.alloc(.cells #[] 61)) w.heap.size 62 ty 61 i0 2 c a ht hi0 _ 0 [] aA;exact⟨_,0,0,_,hr,⟨Nat.zero_le _,_,0,rfl,Nat.le_refl _,fun h=>absurd h(Nat.lt_irrefl _)⟩,fun h=>absurd h(Nat.lt_irrefl _),dA,Or.inl ⟨rfl,_,rfl⟩⟩
end Go.Proofs.YtmgeglgboadfiaaGreatDoor

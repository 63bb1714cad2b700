/- A part of the proof. -/
import Derived.Test.YtgabgheflgjgiaaGreatDoorU20
set_option linter.unusedVariables false
set_option maxRecDepth 20000
set_option maxHeartbeats 4000000
namespace Go.Proofs.YtgabgheflgjgiaaGreatDoor
open Go.RowKit
theorem yy.row{w:World}{b n c:Nat}{a:Option Addr}{f:Nat->Int}(h:yy w b (.slice a n c) n f)(fA:n<c):w.ownsRow b 2 1 (.slice a n c) n (ic f n)/\a=some ⟨b,0,none⟩/\0<n:=by
 obtain⟨hm,a0,c0,hv,dA,hc,hr⟩:=h;simp only[Value.slice.injEq,true_and]at hv;obtain⟨rfl,rfl⟩:=hv;obtain⟨h0,rfl,eA,cA,bA,gA⟩:=hr fA;obtain⟨off,ha,aA⟩:=hc h0;simp only[Option.some.injEq,Addr.mk.injEq,true_and,and_true]at ha;subst ha;refine⟨⟨zC9 _ _,.inr ⟨b,c,cA,rfl,Nat.le_refl _,bA,dA,eA,by simpa using gA,?_⟩⟩,rfl,h0⟩;apply List.ext_getElem?;intro j;by_cases hj:j<n
 ·have e:=(aA j hj).1;rw[Nat.zero_add,cell_of_row w b j cA _ (0,0) bA]at e;rw[List.getElem?_take,if_pos (by omega),zKy f n j hj];simpa using e
 ·rw[List.getElem?_eq_none (by simp;omega),List.getElem?_eq_none (by rw[zC9];omega)]
theorem yy.block{w:World}{b n:Nat}{v:Value}{f:Nat->Int}(h:yy w b v n f)(h0:0<n):v.ownBlock=some b:=by
 obtain⟨_,a,c,rfl,_,hc,_⟩:=h;obtain⟨off,rfl,_⟩:=hc h0;rfl
theorem zIZ:Tryz.prog.underlying 34=some (.slice 2):=by kernel_rfl
theorem zLs{w:World}{b n B:Nat}{v:Value}{f:Nat->Int}{x:Int}(h:yy w b v n f)(hn:n<=1000)(aA:w.cell? ⟨B,0,none⟩=some (.int .i64 x))(ty:TypeId) :
  ∃base g cap w',(Builtin.append_ #[34,34] ty #[v,.slice (some ⟨B,0,none⟩) 1 1]).run Tryz.prog w = .ok (.slice (some ⟨g,0,none⟩) (n+1) cap) w'/\w'.ownsRow base 2 1 (.slice (some ⟨g,0,none⟩) (n+1) cap) (n+1) (ic f n ++ [.int .i64 x])/\zE (fun k=>0<n/\v.ownBlock=some k) w w'/\((0<n/\v.ownBlock=some g)\/w.heap.size<=g)/\g<w'.heap.size:=by
 obtain⟨i0,eA,iA⟩:=Option.map_eq_some_iff.1 zHv;simp only[Prod.mk.injEq]at iA;obtain⟨hz,hs,dA⟩:=iA;obtain⟨a,c,rfl⟩:∃a c,v = .slice a n c:=by obtain⟨_,a,c,e,_⟩:=h;exact⟨a,c,e⟩
 by_cases nA:n<c
 ·obtain⟨cA,rfl,h0⟩:=h.row nA;obtain⟨g,cap,w',hr,h2,h3,h4,h5⟩:=run_append_lies (P:=Tryz.prog) w 34 ty b 2 i0 _ 1 8 zIZ eA hz hs dA rfl (by decide) _ n (ic f n) cA ⟨B,0,none⟩ 1 1 [.int .i64 x] rfl (zGx aA) (zOb x) (by omega) (by unfold maxLen;omega) (by omega) (by have:=cA.lt b rfl;omega) w.heap.size rfl;refine⟨b,g,cap,w',hr,h2,?_,?_,h5⟩
  ·refine⟨h3.os,h3.tape,h3.output,h3.size,fun k hk oA=>h3.block k hk (fun e=>oA ⟨h0,e.symm⟩)⟩
  ·exact h4.imp (fun h=>⟨h0,h⟩) (fun h=>by omega)
 ·obtain⟨hm,a0,c0,hv,pA,bA,-⟩:=h;simp only[Value.slice.injEq,true_and]at hv;obtain⟨rfl,rfl⟩:=hv;obtain rfl:c=n:=(by omega);by_cases h0:0<c
  ·obtain⟨off,rfl,lA⟩:=bA h0;obtain⟨v',w',hr,h1,h2⟩:=run_append_arg_grows (P:=Tryz.prog) w 34 ty 2 i0 _ 1 8 zIZ eA hz hs dA rfl (by decide) ⟨b,off,none⟩ c c (ic f c) (by rw[zC9]) (fun j u hj=>by
     have gA:j<c:=by
      have:=(List.getElem?_eq_some_iff.1 hj).1;rw[zC9]at this;omega
     have fA:=zKy f c j gA;rw[hj]at fA;injection fA with fA;subst fA;have e:(⟨b,off,none⟩:Addr).add j=⟨b,off+j,none⟩:=by
      unfold Addr.add;split
      ·simp_all
      ·simp
     rw[e];exact(lA j gA).1) ⟨B,0,none⟩ 1 1 [.int .i64 x] rfl (zGx aA) (by omega) (by unfold maxLen;omega) (by omega)
   obtain⟨g,cap,rfl,kA,jA,mA,-⟩:=qp h1 (by omega);exact⟨_,g,cap,w',hr,h1,⟨h2.os,h2.tape,h2.output,h2.size,fun k hk _=>h2.block k hk (by simp)⟩,Or.inr jA,mA⟩
  ·obtain rfl:c=0:=(by omega);obtain⟨g,cap,w',hr,h2,h3,h4,h5⟩:=run_append_lies (P:=Tryz.prog) w 34 ty w.heap.size 2 i0 _ 1 8 zIZ eA hz hs dA rfl (by decide) (.slice none 0 0) 0 [] ⟨by simp,Or.inl ⟨rfl,rfl⟩⟩ ⟨B,0,none⟩ 1 1 [.int .i64 x] rfl (zGx aA) (zOb x) (by omega) (by unfold maxLen;omega) (by omega) (Nat.le_refl _) w.heap.size rfl;refine⟨_,g,cap,w',?_,h2,⟨h3.os,h3.tape,h3.output,h3.size,fun k hk _=>h3.block k hk (by simp[Value.ownBlock])⟩,Or.inr ?_,h5⟩
   ·rw[zDM 34 ty 2 i0 a ⟨B,0,none⟩ 1 1 zIZ eA (by omega) (by rw[dA];omega)];exact hr
   ·rcases h4 with h4 | h4
    ·cases h4
    ·omega
structure zOM (p:Prop):Prop where
 out:p
theorem zCu{A B:Prop}(f:zOM A->B)(h:A):B:=f ⟨h⟩
theorem zHZ{wa wb:World}{S:Nat->Prop}{X g cap base:Nat}{v0 v1:Value}{q:zI}{x:Int}(ho:qN wa S v0 v1 q)(t:zE (fun k=>0<q.hn/\v1.ownBlock=some k) wa wb)
  (aA:wb.ownsRow base 2 1 (.slice (some ⟨g,0,none⟩) (q.hn+1) cap) (q.hn+1) (ic q.h q.hn ++ [.int .i64 x])) (fA:(0<q.hn/\v1.ownBlock=some g)\/¬S g) (hX:¬S X) (eA:g≠X) (hm:q.hn+1<=maxLen) :
  qN (wb.setCell ⟨X,1,none⟩ (.slice (some ⟨g,0,none⟩) (q.hn+1) cap)) (fun k=>S k\/k=g) v0 (.slice (some ⟨g,0,none⟩) (q.hn+1) cap) (zBs q x):=by
 obtain⟨bs,hb,kb,kv,h1,h2,h3,h4,h5⟩:=ho;have tX:=zE.put wb X 1 (.slice (some ⟨g,0,none⟩) (q.hn+1) cap);have cA:∀k,zBS bs kb q.n q.s k->¬(0<q.hn/\v1.ownBlock=some k):=fun k hk hx=>by
  rw[h3.block hx.1]at hx;simp only[Option.some.injEq]at hx;exact h4 hx.1 (hx.2▸hk)
 have dA:∀k,zBS bs kb q.n q.s k->¬k=X:=fun k hk e=>hX (e▸h5 k (Or.inl hk))
 have s1:=(h1.zOr t (fun h0=>cA _ (Or.inl ⟨h0,rfl⟩)) (fun i hi h=>cA _ (Or.inr ⟨i,hi,h,rfl⟩))).zOr tX (fun h0=>dA _ (Or.inl ⟨h0,rfl⟩)) (fun i hi h=>dA _ (Or.inr ⟨i,hi,h,rfl⟩));rw[<-zNb]at aA;have bA:=aA.kept (zF7 tX) (Or.inr (by simp[Value.ownBlock];exact eA));obtain⟨gb,iA,gA⟩:=zEG (f:=(zBs q x).h) hm bA (fun e=>absurd e (Nat.succ_ne_zero _));obtain rfl:g=gb:=by have:=gA (Nat.succ_pos _);simpa[Value.ownBlock]using this
 refine⟨bs,g,kb,kv,s1,h2,iA,fun _ hx=>?_,fun k hk=>?_⟩
 ·rcases fA with⟨h0,he⟩ | he
  ·exact cA g hx ⟨h0,he⟩
  ·exact he (h5 g (Or.inl hx))
 ·rcases hk with hk | ⟨_,rfl⟩
  ·exact Or.inl (h5 k (Or.inl hk))
  ·exact Or.inr rfl
theorem zBl(V lo hi:Nat)(P:Nat->Prop)(z0 z1 z2 z3 v:Value)(tm nx:Int)(p:zI)(l:List (Int×Int))(w:World)(hV:za w V z0 z1 (.int .i64 tm) (.int .i64 nx) z2 z3)(hP:qN w P z0 z1 p)(jA:∀j,P j->j<V)(hv:zp w lo hi v l.length (zg l) (zj l))(cC:V<lo)(bC:hi<=w.heap.size)(hl:l.length<=200)(dC:p.hn<=400) :
  Calls Tryz.prog 56 #[.pointer (some ⟨V,0,none⟩),v] w fun e w'=>e = .returned (.int .i64 (l.length:Int))/\∃y1,za w' V z0 y1 (.int .i64 tm) (.int .i64 nx) z2 z3/\qN w' (fun j=>P j\/(w.heap.size<=j/\j<w'.heap.size)) z0 y1 (zW p l)/\zE (fun j=>j=V\/P j\/w.heap.size<=j) w w':=by
 have tB:=hV.1.lt;obtain⟨-,a,c,rfl,-,hx⟩:=hv;have HX:=zB hx;have HV:=zB hV;have HP:=zB hP;clear hV hP hx;go_enter Tryz.func56,Tryz.ntmps56;go_wp2_with fail
 go_loopw [5] (fun i wr=>∃(k:Nat) (y1:Value),k<=l.length/\i = .int .i64 k/\za wr V z0 y1 (.int .i64 tm) (.int .i64 nx) z2 z3/\qN wr (fun j=>P j\/(w.heap.size<=j/\j<wr.heap.size)) z0 y1 (zW p (l.take k))/\zE (fun j=>j=V\/P j\/w.heap.size<=j) w wr) (fun i _=>l.length - (intOf i).toNat)
 case atStart=>exact⟨0,_,Nat.zero_le _,rfl,HV.out,HP.out.mono (fun j h=>Or.inl h),zE.refl _ _⟩
 case round=>
  obtain⟨k,y1,hk,rfl,eB,dB,tA⟩:=hrel;have rA:=zB eB;have iA:=zB dB;have pA:=zB tA;have gC:=tA.size;clear eB dB tA;by_cases bB:k<l.length
  ·have pB:(k:Int)<(l.length:Int):=(by omega);obtain⟨b,off,rfl,vB,aC,aA⟩:=HX.out (by omega);have q0:=(pA.out.cell (o:=off+k*2) (show b<w.heap.size by omega) (fun h=>by
    rcases h with h | h | h
    ·omega
    ·have:=jA b h;omega
    ·omega)).trans (aA k bB).1
   have oB:(zW p (l.take k)).hn<=1000:=by
    rw[(zHs (l.take k) p).2.2,List.length_take];omega
   obtain⟨bs,lB,kb,kv,i1,i2,i3,i4,i5⟩:=id iA.out;obtain⟨a1,c1,rfl⟩:∃a1 c1,y1 = .slice a1 (zW p (l.take k)).hn c1:=(by obtain⟨_,a1,c1,e,_⟩:=i3;exact⟨a1,c1,e⟩);have aB:Below wr.heap.size wr wr.drew:=(Below.refl _ _).drew;have lA:=zC wr.drew (.cells #[.int .i64 (zg l k)] 2);have fA:Below wr.heap.size wr (wr.drew.alloc (.cells #[.int .i64 (zg l k)] 2)):=zA aB lA;obtain⟨base,g,cap,w5,fB,bA,eA,mA,nB⟩:=zLs (B:=wr.drew.heap.size) (x:=zg l k) (i3.zOp fA) oB (World.cell?_alloc_at _ _ _ _ rfl) 34;have rB:(wr.drew.alloc (.cells #[.int .i64 (zg l k)] 2)).heap.size>=wr.heap.size+1:=(by rw[World.size_alloc];exact Nat.le_refl _);have fC:wr.heap.size+1<=w5.heap.size:=(by have:=eA.size;omega);have nA:∀j,0<(zW p (l.take k)).hn/\(Value.slice a1 (zW p (l.take k)).hn c1).ownBlock=some j->P j\/(w.heap.size<=j/\j<wr.heap.size):=fun j h=>by
    have e:=i3.block h.1;rw[h.2]at e;injection e with e;rw[e];exact i5 lB (Or.inr ⟨h.1,rfl⟩)
   have kA:∀j,0<(zW p (l.take k)).hn/\(Value.slice a1 (zW p (l.take k)).hn c1).ownBlock=some j->j≠V/\j≠b:=fun j h=>by
    rcases nA j h with h' | h'
    ·have:=jA j h';exact⟨by omega,by omega⟩
    ·exact⟨by omega,by omega⟩
   have mB:g≠V:=by
    rcases mA with h | h
    ·exact(kA g h).1
    ·omega
   have vA:=(rA.out.zOp fA).zOr eA (fun h=>(kA V h).1 rfl);have cA:=zB (show ∀w',Below wr.drew.heap.size wr.drew w'->(fun w':World=>w'.cell? ⟨b,off+k*2,none⟩=some (.int .i64 (zg l k))) w' from fun w' hb=>(hb.cell (p:=⟨b,off+k*2,none⟩) (show b<wr.heap.size by omega)).trans q0);have oA:=zB (show(fun w':World=>w'.cell? ⟨b,off+k*2,none⟩=some (.int .i64 (zg l k))) w5 from(eA.cell (o:=off+k*2) (show b<_ by omega) (fun h=>(kA b h).2 rfl)).trans ((fA.cell (p:=⟨b,off+k*2,none⟩) (show b<wr.heap.size by omega)).trans q0));have sA:=zE.put w5 V 1 (.slice (some ⟨g,0,none⟩) ((zW p (l.take k)).hn+1) cap);have cB:=zB (show(fun w':World=>w'.cell? ⟨b,off+k*2,none⟩=some (.int .i64 (zg l k))) (w5.setCell ⟨V,1,none⟩ (.slice (some ⟨g,0,none⟩) ((zW p (l.take k)).hn+1) cap))from(sA.cell (o:=off+k*2) (show b<w5.heap.size by omega) (fun h=>by omega)).trans oA.out);have gB:=zB (zHZ (X:=V) (iA.out.zOp fA) eA bA (mA.imp id (fun h hx=>by
    rcases hx with hx | hx
    ·have:=jA g hx;omega
    ·omega)) (fun hx=>by
    rcases hx with hx | hx
    ·have:=jA V hx;omega
    ·omega) mB (by unfold maxLen;omega))
   have iB:=zB (show zE (fun j=>j=V\/P j\/w.heap.size<=j) w (w5.setCell ⟨V,1,none⟩ (.slice (some ⟨g,0,none⟩) ((zW p (l.take k)).hn+1) cap))from(pA.out.trans ((zE.zOs fA).trans (eA.mono (fun j h=>by
    rcases nA j h with h' | h'
    ·exact Or.inr (Or.inl h')
    ·exact Or.inr (Or.inr h'.1))))).trans (sA.mono (fun j e=>Or.inl e)))
   have HR:=zB fB;have gA:=zB lA;have HG:=zB (show(0<(zW p (l.take k)).hn/\(Value.slice a1 (zW p (l.take k)).hn c1).ownBlock=some g)\/wr.heap.size<=g from mA.imp id (fun h=>by omega));have jB:=zB nA;obtain⟨x4,-⟩:=(rA.out.zOp aB).2.1;have X5:=zB ((lA.cell (zD x4)).trans x4);obtain⟨y4,iC⟩:=vA.2.1;have dA:=zB vA;clear fB bA eA mA vA lA fA aA i1 i2 i3 i4 i5 nA kA rB q0;go_wp2_with fail;refine wp_region_held_drew (S:=(fun w':World=>w'.cell? ⟨b,off+k*2,none⟩=some (.int .i64 (zg l k)))) (by kernel_rfl) (cA.out _ (Below.refl _ _)) (fun hHeld=>?_);generalize wr.drew=q0 at hHeld cA HR gA x4 X5 aB ⊢
   refine' zCu (fun hfin=>_) _
   rotate_left
   ·skip;refine tk 0 (h:=tk 1 (h:=tk 2 (h:=tk 3 (h:=tk 4 (h:=tk 6 (h:=tk 7 (h:=tk 8 (h:=tk 9 (h:=tk 10 (h:=?_))))))))));refine rd [5,11] (rc (fun K hK=>?_) (rc (fun K hK=>?_) .nil))
    ·go_simp
     (try go_wp2_with fail)
     refine hK.out _ _ (cA.out _ (Below.refl _ _)) ?_;clear hK K;intro hHeld
     try simp only[Act.put,s1,s2,s3]
     refine rd [11] (rc (fun K hK=>?_) .nil);go_simp
     (try go_wp2_with fail)
     refine hK.out _ _ (cA.out _ gA.out) ?_;clear hK K;intro hHeld
     try simp only[Act.put,s1,s2,s3]
     refine rd [12] (rc (fun K hK=>?_) .nil);refine zM rfl (.tmp 17) (.tmp 23) 34 rfl _ _ _ rfl rfl HR.out ?_
     (try go_wp2_with fail)
     refine hK.out _ _ (oA.out) ?_;clear hK K;intro hHeld
     try simp only[Act.put,s1,s2,s3]
     refine tk 13 (h:=tk 14 (h:=tk 15 (h:=?_)));refine rd [16] (rc (fun K hK=>?_) .nil);go_simp
     (try go_wp2_with fail)
     refine hK.out _ _ (cB.out) ?_;clear hK K;intro hHeld
     try simp only[Act.put,s1,s2,s3]
     refine wpAnyH_done (by kernel_rfl) ?_ _;exact hfin.out
    ·go_simp
     (try go_wp2_with fail)
     refine hK.out _ _ (cA.out _ gA.out) ?_;clear hK K;intro hHeld
     try simp only[Act.put,s1,s2,s3]
     refine rd [5] (rc (fun K hK=>?_) .nil);have sB:=X5.out;go_simp
     (try go_wp2_with fail)
     refine hK.out _ _ (cA.out _ gA.out) ?_;clear hK K;intro hHeld
     try simp only[Act.put,s1,s2,s3]
     clear sB;refine rd [12] (rc (fun K hK=>?_) .nil);refine zM rfl (.tmp 17) (.tmp 23) 34 rfl _ _ _ rfl rfl HR.out ?_
     (try go_wp2_with fail)
     refine hK.out _ _ (oA.out) ?_;clear hK K;intro hHeld
     try simp only[Act.put,s1,s2,s3]
     refine tk 13 (h:=tk 14 (h:=tk 15 (h:=?_)));refine rd [16] (rc (fun K hK=>?_) .nil);go_simp
     (try go_wp2_with fail)
     refine hK.out _ _ (cB.out) ?_;clear hK K;intro hHeld
     try simp only[Act.put,s1,s2,s3]
     refine wpAnyH_done (by kernel_rfl) ?_ _;exact hfin.out
   go_wp2_with fail;go_roundw
   case rel=>
    have kB:za (w5.setCell ⟨V,1,none⟩ (.slice (some ⟨g,0,none⟩) ((zW p (l.take k)).hn+1) cap)) V z0 (.slice (some ⟨g,0,none⟩) ((zW p (l.take k)).hn+1) cap) (.int .i64 tm) (.int .i64 nx) z2 z3:=⟨dA.out.1.zOq _ (Or.inr (by decide)),dA.out.2.1.set _,dA.out.2.2.1.zOq _ (Or.inr (by decide)),dA.out.2.2.2.1.zOq _ (Or.inr (by decide)),dA.out.2.2.2.2.1.zOq _ (Or.inr (by decide)),dA.out.2.2.2.2.2.zOq _ (Or.inr (by decide))⟩;have he:zW p (l.take (k+1))=zBs (zW p (l.take k)) (zg l k):=by
     rw[List.take_succ_eq_append_getElem bB,zEv];congr 1;unfold zg;rw[List.getD_eq_getElem?_getD,List.getElem?_eq_getElem bB];rfl
    refine⟨k+1,_,by omega,by go_num,kB,?_,iB.out⟩;rw[he];refine gB.out.mono (fun j hj=>?_);have eC:=sA.size;rcases hj with(h | h) | rfl
    ·exact Or.inl h
    ·exact Or.inr ⟨h.1,by omega⟩
    ·rcases HG.out with h | h
     ·rcases jB.out j h with h' | h'
      ·exact Or.inl h'
      ·exact Or.inr ⟨h'.1,by omega⟩
     ·exact Or.inr ⟨by omega,by omega⟩
   case measure=>simp[intOf];omega
  ·obtain rfl:k=l.length:=(by omega);go_wp2_with fail;rw[List.take_length]at iA;go_ret;exact⟨rfl,y1,rA.out,iA.out,pA.out⟩
open Go.Maps
theorem zBD(v:Value)(n lo hi:Nat)(f g:Nat->Int)(t:Int)(w:World)(h1:zp w lo hi v n f g)(hn:n<=200) :
  Calls Tryz.prog 55 #[v,.int .i64 t] w fun e w'=>∃vy vo,e = .returned (.tuple #[vy,vo])/\zL6 (yh f g t n) (zDm f g t n) w w' vy vo:=by
 have Hp:=yC h1;obtain⟨m1,a,c,rfl,mc,_⟩:=id h1;clear h1;unfold maxLen at m1;obtain⟨i0,oA,mA⟩:=Option.map_eq_some_iff.1 zCt;simp only[Prod.mk.injEq]at mA;have HI:=yC (And.intro oA mA);clear oA mA;have ha:=zC w (.cells #[] 99);have kA:=zC (w.alloc (.cells #[] 99)) (.cells #[] 99);have hA:=yC (zA ha kA);have l1:qH (w.alloc (.cells #[] 99)) w.heap.size (.slice (some ⟨w.heap.size,0,none⟩) 0 0) []:=World.ownsRow_lit (e:=99) (size:=2) w #[] 0 (Nat.le_refl _) (by unfold maxLen;omega) rfl;have l2:qH ((w.alloc (.cells #[] 99)).alloc (.cells #[] 99)) w.heap.size (.slice (some ⟨w.heap.size+1,0,none⟩) 0 0) []:=by
  have:=World.ownsRow_lit (e:=99) (size:=2) (base:=w.heap.size) (w.alloc (.cells #[] 99)) #[] 0 (by rw[World.size_alloc];omega) (by unfold maxLen;omega) rfl;rw[World.size_alloc]at this;exact this
 have L1:=yC (l1.zOp kA);have L2:=yC l2;clear ha kA l1 l2;go_enter Tryz.func55,Tryz.ntmps55;go_wp2
 go_loopw [6,7,8] (fun vy vo i wr=>∃k:Nat,k<=n/\i = .int .i64 k/\zL6 (yh f g t k) (zDm f g t k) w wr vy vo) (fun _ _ i _=>n - (intOf i).toNat)
 case atStart=>exact⟨0,Nat.zero_le _,rfl,L1.out,L2.out,fun q hq e=>by simp[Value.ownBlock]at hq e;omega,hA.out⟩
 case round=>
  obtain⟨k,hk,rfl,hy,ho,nA,hb⟩:=hrel;have Hy:=yC hy;have Ho:=yC ho;have fA:=yC nA;have pA:=zAX f g t k;clear hy ho nA L1 L2 hA;by_cases rA:k<n
  ·have sA:(k:Int)<(n:Int):=(by omega);obtain⟨b,off,rfl,x0,x2⟩:=(Hp.out.zOp hb).cellsD rA;have eA:=zC wr (.cells #[.int .i64 (f k),.int .i64 (g k)] 99);have iA:=yC (Hy.out.zOp eA);have gA:=yC (Ho.out.zOp eA);have dA:=zA hb eA;have tA:=hb.size;have vA:(wr.alloc (.cells #[.int .i64 (f k),.int .i64 (g k)] 99)).heap.size=wr.heap.size+1:=World.size_alloc _ _;have HN:=yC (World.news_of_block (heap_alloc_last wr (.cells #[.int .i64 (f k),.int .i64 (g k)] 99)));clear eA;by_cases hq:t<g k
   ·have ey:yh f g t (k+1)=yh f g t k ++ [(f k,g k)]:=if_pos hq;have eo:zDm f g t (k+1)=zDm f g t k:=if_pos hq;go_wp2_with (first
     | (at_builtin;refine wpList_append_lies _ rfl _ _ 100 rfl w.heap.size 99 i0 (.agg #[.int .i64 0,.int .i64 0]) 2 16 (by kernel_rfl) HI.out.1 HI.out.2.1 HI.out.2.2.1 HI.out.2.2.2 rfl (by decide) _ _ _ rfl iA.out ⟨wr.heap.size,0,none⟩ 1 1 [.int .i64 (f k),.int .i64 (g k)] rfl rfl HN.out (by simp[Value.oneCell']) (by decide) (by unfold maxLen;omega) (by omega) (by omega) _ rfl ?_;intro g' jA w4 bA aA cA lA)
     | go_in)
    go_roundw
    case rel=>
     obtain⟨r1,r2,r3⟩:=zJw gA.out fA.out bA aA cA;exact⟨k+1,by omega,by go_num,by rw[ey];exact r1,by rw[eo];exact r2,r3,dA.grown aA dA.size (fun q hq=>(iA.out.lt hq).1)⟩
    case measure=>simp[intOf];omega
   ·have ey:yh f g t (k+1)=yh f g t k:=if_neg hq;have eo:zDm f g t (k+1)=zDm f g t k ++ [(f k,g k)]:=if_neg hq;go_wp2_with (first
     | (at_builtin;refine wpList_append_lies _ rfl _ _ 100 rfl w.heap.size 99 i0 (.agg #[.int .i64 0,.int .i64 0]) 2 16 (by kernel_rfl) HI.out.1 HI.out.2.1 HI.out.2.2.1 HI.out.2.2.2 rfl (by decide) _ _ _ rfl gA.out ⟨wr.heap.size,0,none⟩ 1 1 [.int .i64 (f k),.int .i64 (g k)] rfl rfl HN.out (by simp[Value.oneCell']) (by decide) (by unfold maxLen;omega) (by omega) (by omega) _ rfl ?_;intro g' jA w4 bA aA cA lA)
     | go_in)
    go_roundw
    case rel=>
     obtain⟨r1,r2,r3⟩:=zJw iA.out (fun q h h'=>fA.out q h' h) bA aA cA;exact⟨k+1,by omega,by go_num,by rw[ey];exact r2,by rw[eo];exact r1,fun q h h'=>r3 q h' h,dA.grown aA dA.size (fun q hq=>(gA.out.lt hq).1)⟩
    case measure=>simp[intOf];omega
  ·obtain rfl:k=n:=(by omega);go_wp2
   go_ret2
   exact⟨_,_,rfl,Hy.out,Ho.out,fA.out,hb⟩
theorem zGX{W:zH}{x s b t:Int}(h:zIM W x s b t)(h0:¬∃k,qo W 0 k):t=(zN W x).time:=by
 rcases h with⟨k,_,hk,_,_,rfl⟩ | ⟨hx,_,_,rfl⟩
 ·rw[qX hk]
 ·have e:zN W x=qu:=by
   unfold zN;rw[dif_neg];rintro⟨k,hk⟩;rcases hx with rfl | hx
   ·exact h0 ⟨k,hk⟩
   ·exact hx k hk.1 hk.2.1
  rw[e];rfl
end Go.Proofs.YtgabgheflgjgiaaGreatDoor

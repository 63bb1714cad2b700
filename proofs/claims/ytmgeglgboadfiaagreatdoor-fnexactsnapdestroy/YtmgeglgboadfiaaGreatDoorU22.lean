/- A part of the proof. -/
import Derived.Test.YtmgeglgboadfiaaGreatDoorU21
set_option linter.unusedVariables false
set_option maxRecDepth 20000
set_option maxHeartbeats 4000000
namespace Go.Proofs.YtmgeglgboadfiaaGreatDoor
open Go.RowKit
theorem qd.row{w:World}{b n c:Nat}{a:Option Addr}{f:Nat->Int}(h:qd w b (.slice a n c) n f)(fA:n<c):w.ownsRow b 2 1 (.slice a n c) n (ic f n)/\a=some ⟨b,0,none⟩/\0<n:=by
 obtain⟨hm,a0,c0,hv,dA,hc,hr⟩:=h;simp only[Value.slice.injEq,true_and]at hv;obtain⟨rfl,rfl⟩:=hv;obtain⟨h0,rfl,eA,cA,bA,gA⟩:=hr fA;obtain⟨off,ha,aA⟩:=hc h0;simp only[Option.some.injEq,Addr.mk.injEq,true_and,and_true]at ha;subst ha;refine⟨⟨zBD _ _,.inr ⟨b,c,cA,rfl,Nat.le_refl _,bA,dA,eA,by simpa using gA,?_⟩⟩,rfl,h0⟩;apply List.ext_getElem?;intro j;by_cases hj:j<n
 ·have e:=(aA j hj).1;rw[Nat.zero_add,cell_of_row w b j cA _ (0,0) bA]at e;rw[List.getElem?_take,if_pos (by omega),zJs f n j hj];simpa using e
 ·rw[List.getElem?_eq_none (by simp;omega),List.getElem?_eq_none (by rw[zBD];omega)]
theorem qd.block{w:World}{b n:Nat}{v:Value}{f:Nat->Int}(h:qd w b v n f)(h0:0<n):v.ownBlock=some b:=by
 obtain⟨_,a,c,rfl,_,hc,_⟩:=h;obtain⟨off,rfl,_⟩:=hc h0;rfl
theorem zIt:Tryz.prog.underlying 23=some (.slice 2):=by kernel_rfl
theorem zMi{w:World}{b n B:Nat}{v:Value}{f:Nat->Int}{x:Int}(h:qd w b v n f)(hn:n<=1000)(aA:w.cell? ⟨B,0,none⟩=some (.int .i64 x))(ty:TypeId) :
  ∃base g cap w',(Builtin.append_ #[23,23] ty #[v,.slice (some ⟨B,0,none⟩) 1 1]).run Tryz.prog w = .ok (.slice (some ⟨g,0,none⟩) (n+1) cap) w'/\w'.ownsRow base 2 1 (.slice (some ⟨g,0,none⟩) (n+1) cap) (n+1) (ic f n ++ [.int .i64 x])/\zF (fun k=>0<n/\v.ownBlock=some k) w w'/\((0<n/\v.ownBlock=some g)\/w.heap.size<=g)/\g<w'.heap.size:=by
 obtain⟨i0,eA,iA⟩:=Option.map_eq_some_iff.1 zCd;simp only[Prod.mk.injEq]at iA;obtain⟨hz,hs,dA⟩:=iA;obtain⟨a,c,rfl⟩:∃a c,v = .slice a n c:=by obtain⟨_,a,c,e,_⟩:=h;exact⟨a,c,e⟩
 by_cases nA:n<c
 ·obtain⟨cA,rfl,h0⟩:=h.row nA;obtain⟨g,cap,w',hr,h2,h3,h4,h5⟩:=run_append_lies (P:=Tryz.prog) w 23 ty b 2 i0 _ 1 8 zIt eA hz hs dA rfl (by decide) _ n (ic f n) cA ⟨B,0,none⟩ 1 1 [.int .i64 x] rfl (zE6 aA) (zOB x) (by omega) (by unfold maxLen;omega) (by omega) (by have:=cA.lt b rfl;omega) w.heap.size rfl;refine⟨b,g,cap,w',hr,h2,?_,?_,h5⟩
  ·refine⟨h3.os,h3.tape,h3.output,h3.size,fun k hk oA=>h3.block k hk (fun e=>oA ⟨h0,e.symm⟩)⟩
  ·exact h4.imp (fun h=>⟨h0,h⟩) (fun h=>by omega)
 ·obtain⟨hm,a0,c0,hv,pA,bA,-⟩:=h;simp only[Value.slice.injEq,true_and]at hv;obtain⟨rfl,rfl⟩:=hv;obtain rfl:c=n:=(by omega);by_cases h0:0<c
  ·obtain⟨off,rfl,lA⟩:=bA h0;obtain⟨v',w',hr,h1,h2⟩:=run_append_arg_grows (P:=Tryz.prog) w 23 ty 2 i0 _ 1 8 zIt eA hz hs dA rfl (by decide) ⟨b,off,none⟩ c c (ic f c) (by rw[zBD]) (fun j u hj=>by
     have gA:j<c:=by
      have:=(List.getElem?_eq_some_iff.1 hj).1;rw[zBD]at this;omega
     have fA:=zJs f c j gA;rw[hj]at fA;injection fA with fA;subst fA;have e:(⟨b,off,none⟩:Addr).add j=⟨b,off+j,none⟩:=by
      unfold Addr.add;split
      ·simp_all
      ·simp
     rw[e];exact(lA j gA).1) ⟨B,0,none⟩ 1 1 [.int .i64 x] rfl (zE6 aA) (by omega) (by unfold maxLen;omega) (by omega)
   obtain⟨g,cap,rfl,kA,jA,mA,-⟩:=yK h1 (by omega);exact⟨_,g,cap,w',hr,h1,⟨h2.os,h2.tape,h2.output,h2.size,fun k hk _=>h2.block k hk (by simp)⟩,Or.inr jA,mA⟩
  ·obtain rfl:c=0:=(by omega);obtain⟨g,cap,w',hr,h2,h3,h4,h5⟩:=run_append_lies (P:=Tryz.prog) w 23 ty w.heap.size 2 i0 _ 1 8 zIt eA hz hs dA rfl (by decide) (.slice none 0 0) 0 [] ⟨by simp,Or.inl ⟨rfl,rfl⟩⟩ ⟨B,0,none⟩ 1 1 [.int .i64 x] rfl (zE6 aA) (zOB x) (by omega) (by unfold maxLen;omega) (by omega) (Nat.le_refl _) w.heap.size rfl;refine⟨_,g,cap,w',?_,h2,⟨h3.os,h3.tape,h3.output,h3.size,fun k hk _=>h3.block k hk (by simp[Value.ownBlock])⟩,Or.inr ?_,h5⟩
   ·rw[zC9 23 ty 2 i0 a ⟨B,0,none⟩ 1 1 zIt eA (by omega) (by rw[dA];omega)];exact hr
   ·rcases h4 with h4 | h4
    ·cases h4
    ·omega
structure zOp (p:Prop):Prop where
 out:p
theorem zIA{A B:Prop}(f:zOp A->B)(h:A):B:=f ⟨h⟩
theorem zHS{wa wb:World}{S:Nat->Prop}{X g cap base:Nat}{v0 v1:Value}{q:zN}{x:Int}(ho:qi wa S v0 v1 q)(t:zF (fun k=>0<q.hn/\v1.ownBlock=some k) wa wb)
  (aA:wb.ownsRow base 2 1 (.slice (some ⟨g,0,none⟩) (q.hn+1) cap) (q.hn+1) (ic q.h q.hn ++ [.int .i64 x])) (fA:(0<q.hn/\v1.ownBlock=some g)\/¬S g) (hX:¬S X) (eA:g≠X) (hm:q.hn+1<=maxLen) :
  qi (wb.setCell ⟨X,1,none⟩ (.slice (some ⟨g,0,none⟩) (q.hn+1) cap)) (fun k=>S k\/k=g) v0 (.slice (some ⟨g,0,none⟩) (q.hn+1) cap) (yr q x):=by
 obtain⟨bs,hb,kb,kv,h1,h2,h3,h4,h5⟩:=ho;have tX:=zF.put wb X 1 (.slice (some ⟨g,0,none⟩) (q.hn+1) cap);have cA:∀k,yV bs kb q.n q.s k->¬(0<q.hn/\v1.ownBlock=some k):=fun k hk hx=>by
  rw[h3.block hx.1]at hx;simp only[Option.some.injEq]at hx;exact h4 hx.1 (hx.2▸hk)
 have dA:∀k,yV bs kb q.n q.s k->¬k=X:=fun k hk e=>hX (e▸h5 k (Or.inl hk))
 have s1:=(h1.zPF t (fun h0=>cA _ (Or.inl ⟨h0,rfl⟩)) (fun i hi h=>cA _ (Or.inr ⟨i,hi,h,rfl⟩))).zPF tX (fun h0=>dA _ (Or.inl ⟨h0,rfl⟩)) (fun i hi h=>dA _ (Or.inr ⟨i,hi,h,rfl⟩));rw[<-zLn]at aA;have bA:=aA.kept (zF2 tX) (Or.inr (by simp[Value.ownBlock];exact eA));obtain⟨gb,iA,gA⟩:=zD9 (f:=(yr q x).h) hm bA (fun e=>absurd e (Nat.succ_ne_zero _));obtain rfl:g=gb:=by have:=gA (Nat.succ_pos _);simpa[Value.ownBlock]using this
 refine⟨bs,g,kb,kv,s1,h2,iA,fun _ hx=>?_,fun k hk=>?_⟩
 ·rcases fA with⟨h0,he⟩ | he
  ·exact cA g hx ⟨h0,he⟩
  ·exact he (h5 g (Or.inl hx))
 ·rcases hk with hk | ⟨_,rfl⟩
  ·exact Or.inl (h5 k (Or.inl hk))
  ·exact Or.inr rfl
theorem zFs(V lo hi:Nat)(P:Nat->Prop)(z0 z1 z2 z3 v:Value)(tm nx:Int)(p:zN)(l:List (Int×Int))(w:World)(hV:zg w V z0 z1 (.int .i64 tm) (.int .i64 nx) z2 z3)(hP:qi w P z0 z1 p)(jA:∀j,P j->j<V)(hv:zR w lo hi v l.length (zk l) (zn l))(cC:V<lo)(bC:hi<=w.heap.size)(hl:l.length<=200)(dC:p.hn<=400) :
  Calls Tryz.prog 54 #[.pointer (some ⟨V,0,none⟩),v] w fun e w'=>e = .returned (.int .i64 (l.length:Int))/\∃y1,zg w' V z0 y1 (.int .i64 tm) (.int .i64 nx) z2 z3/\qi w' (fun j=>P j\/(w.heap.size<=j/\j<w'.heap.size)) z0 y1 (zq p l)/\zF (fun j=>j=V\/P j\/w.heap.size<=j) w w':=by
 have tB:=hV.1.lt;obtain⟨-,a,c,rfl,-,hx⟩:=hv;have HX:=zB hx;have HV:=zB hV;have HP:=zB hP;clear hV hP hx;go_enter Tryz.func54,Tryz.ntmps54;go_wp2_with fail
 go_loopw [5] (fun i wr=>∃(k:Nat) (y1:Value),k<=l.length/\i = .int .i64 k/\zg wr V z0 y1 (.int .i64 tm) (.int .i64 nx) z2 z3/\qi wr (fun j=>P j\/(w.heap.size<=j/\j<wr.heap.size)) z0 y1 (zq p (l.take k))/\zF (fun j=>j=V\/P j\/w.heap.size<=j) w wr) (fun i _=>l.length - (intOf i).toNat)
 case atStart=>exact⟨0,_,Nat.zero_le _,rfl,HV.out,HP.out.mono (fun j h=>Or.inl h),zF.refl _ _⟩
 case round=>
  obtain⟨k,y1,hk,rfl,eB,dB,tA⟩:=hrel;have rA:=zB eB;have iA:=zB dB;have pA:=zB tA;have gC:=tA.size;clear eB dB tA;by_cases bB:k<l.length
  ·have pB:(k:Int)<(l.length:Int):=(by omega);obtain⟨b,off,rfl,vB,aC,aA⟩:=HX.out (by omega);have q0:=(pA.out.cell (o:=off+k*2) (show b<w.heap.size by omega) (fun h=>by
    rcases h with h | h | h
    ·omega
    ·have:=jA b h;omega
    ·omega)).trans (aA k bB).1
   have oB:(zq p (l.take k)).hn<=1000:=by
    rw[(zH4 (l.take k) p).2.2,List.length_take];omega
   obtain⟨bs,lB,kb,kv,i1,i2,i3,i4,i5⟩:=id iA.out;obtain⟨a1,c1,rfl⟩:∃a1 c1,y1 = .slice a1 (zq p (l.take k)).hn c1:=(by obtain⟨_,a1,c1,e,_⟩:=i3;exact⟨a1,c1,e⟩);have aB:Below wr.heap.size wr wr.drew:=(Below.refl _ _).drew;have lA:=zC wr.drew (.cells #[.int .i64 (zk l k)] 2);have fA:Below wr.heap.size wr (wr.drew.alloc (.cells #[.int .i64 (zk l k)] 2)):=zA aB lA;obtain⟨base,g,cap,w5,fB,bA,eA,mA,nB⟩:=zMi (B:=wr.drew.heap.size) (x:=zk l k) (i3.zO9 fA) oB (World.cell?_alloc_at _ _ _ _ rfl) 23;have rB:(wr.drew.alloc (.cells #[.int .i64 (zk l k)] 2)).heap.size>=wr.heap.size+1:=(by rw[World.size_alloc];exact Nat.le_refl _);have fC:wr.heap.size+1<=w5.heap.size:=(by have:=eA.size;omega);have nA:∀j,0<(zq p (l.take k)).hn/\(Value.slice a1 (zq p (l.take k)).hn c1).ownBlock=some j->P j\/(w.heap.size<=j/\j<wr.heap.size):=fun j h=>by
    have e:=i3.block h.1;rw[h.2]at e;injection e with e;rw[e];exact i5 lB (Or.inr ⟨h.1,rfl⟩)
   have kA:∀j,0<(zq p (l.take k)).hn/\(Value.slice a1 (zq p (l.take k)).hn c1).ownBlock=some j->j≠V/\j≠b:=fun j h=>by
    rcases nA j h with h' | h'
    ·have:=jA j h';exact⟨by omega,by omega⟩
    ·exact⟨by omega,by omega⟩
   have mB:g≠V:=by
    rcases mA with h | h
    ·exact(kA g h).1
    ·omega
   have vA:=(rA.out.zO9 fA).zPF eA (fun h=>(kA V h).1 rfl);have cA:=zB (show ∀w',Below wr.drew.heap.size wr.drew w'->(fun w':World=>w'.cell? ⟨b,off+k*2,none⟩=some (.int .i64 (zk l k))) w' from fun w' hb=>(hb.cell (p:=⟨b,off+k*2,none⟩) (show b<wr.heap.size by omega)).trans q0);have oA:=zB (show(fun w':World=>w'.cell? ⟨b,off+k*2,none⟩=some (.int .i64 (zk l k))) w5 from(eA.cell (o:=off+k*2) (show b<_ by omega) (fun h=>(kA b h).2 rfl)).trans ((fA.cell (p:=⟨b,off+k*2,none⟩) (show b<wr.heap.size by omega)).trans q0));have sA:=zF.put w5 V 1 (.slice (some ⟨g,0,none⟩) ((zq p (l.take k)).hn+1) cap);have cB:=zB (show(fun w':World=>w'.cell? ⟨b,off+k*2,none⟩=some (.int .i64 (zk l k))) (w5.setCell ⟨V,1,none⟩ (.slice (some ⟨g,0,none⟩) ((zq p (l.take k)).hn+1) cap))from(sA.cell (o:=off+k*2) (show b<w5.heap.size by omega) (fun h=>by omega)).trans oA.out);have gB:=zB (zHS (X:=V) (iA.out.zO9 fA) eA bA (mA.imp id (fun h hx=>by
    rcases hx with hx | hx
    ·have:=jA g hx;omega
    ·omega)) (fun hx=>by
    rcases hx with hx | hx
    ·have:=jA V hx;omega
    ·omega) mB (by unfold maxLen;omega))
   have iB:=zB (show zF (fun j=>j=V\/P j\/w.heap.size<=j) w (w5.setCell ⟨V,1,none⟩ (.slice (some ⟨g,0,none⟩) ((zq p (l.take k)).hn+1) cap))from(pA.out.trans ((zF.zPB fA).trans (eA.mono (fun j h=>by
    rcases nA j h with h' | h'
    ·exact Or.inr (Or.inl h')
    ·exact Or.inr (Or.inr h'.1))))).trans (sA.mono (fun j e=>Or.inl e)))
   have HR:=zB fB;have gA:=zB lA;have HG:=zB (show(0<(zq p (l.take k)).hn/\(Value.slice a1 (zq p (l.take k)).hn c1).ownBlock=some g)\/wr.heap.size<=g from mA.imp id (fun h=>by omega));have jB:=zB nA;obtain⟨x4,-⟩:=(rA.out.zO9 aB).2.1;have X5:=zB ((lA.cell (zD x4)).trans x4);obtain⟨y4,iC⟩:=vA.2.1;have dA:=zB vA;clear fB bA eA mA vA lA fA aA i1 i2 i3 i4 i5 nA kA rB q0;go_wp2_with fail;refine wp_region_held_drew (S:=(fun w':World=>w'.cell? ⟨b,off+k*2,none⟩=some (.int .i64 (zk l k)))) (by kernel_rfl) (cA.out _ (Below.refl _ _)) (fun hHeld=>?_);generalize wr.drew=q0 at hHeld cA HR gA x4 X5 aB ⊢
   refine' zIA (fun hfin=>_) _
   rotate_left
   ·skip;refine tk 0 (h:=tk 1 (h:=tk 2 (h:=tk 3 (h:=tk 4 (h:=tk 6 (h:=tk 7 (h:=tk 8 (h:=tk 9 (h:=tk 10 (h:=?_))))))))));refine rd [5,11] (rc (fun K hK=>?_) (rc (fun K hK=>?_) .nil))
    ·go_simp
     (try go_wp2_with fail)
     refine hK.out _ _ (cA.out _ (Below.refl _ _)) ?_;clear hK K;intro hHeld
     try simp only[Act.put,s1,s2,s3]
     refine rd [11] (rc (fun K hK=>?_) .nil);go_simp
     (try go_wp2_with fail)
     refine hK.out _ _ (cA.out _ gA.out) ?_;clear hK K;intro hHeld
     try simp only[Act.put,s1,s2,s3]
     refine rd [12] (rc (fun K hK=>?_) .nil);refine ze rfl (.tmp 17) (.tmp 23) 23 rfl _ _ _ rfl rfl HR.out ?_
     (try go_wp2_with fail)
     refine hK.out _ _ (oA.out) ?_;clear hK K;intro hHeld
     try simp only[Act.put,s1,s2,s3]
     refine tk 13 (h:=tk 14 (h:=tk 15 (h:=?_)));refine rd [16] (rc (fun K hK=>?_) .nil);go_simp
     (try go_wp2_with fail)
     refine hK.out _ _ (cB.out) ?_;clear hK K;intro hHeld
     try simp only[Act.put,s1,s2,s3]
     refine wpAnyH_done (by kernel_rfl) ?_ _;exact hfin.out
    ·go_simp
     (try go_wp2_with fail)
     refine hK.out _ _ (cA.out _ gA.out) ?_;clear hK K;intro hHeld
     try simp only[Act.put,s1,s2,s3]
     refine rd [5] (rc (fun K hK=>?_) .nil);have sB:=X5.out;go_simp
     (try go_wp2_with fail)
     refine hK.out _ _ (cA.out _ gA.out) ?_;clear hK K;intro hHeld
     try simp only[Act.put,s1,s2,s3]
     clear sB;refine rd [12] (rc (fun K hK=>?_) .nil);refine ze rfl (.tmp 17) (.tmp 23) 23 rfl _ _ _ rfl rfl HR.out ?_
     (try go_wp2_with fail)
     refine hK.out _ _ (oA.out) ?_;clear hK K;intro hHeld
     try simp only[Act.put,s1,s2,s3]
     refine tk 13 (h:=tk 14 (h:=tk 15 (h:=?_)));refine rd [16] (rc (fun K hK=>?_) .nil);go_simp
     (try go_wp2_with fail)
     refine hK.out _ _ (cB.out) ?_;clear hK K;intro hHeld
     try simp only[Act.put,s1,s2,s3]
     refine wpAnyH_done (by kernel_rfl) ?_ _;exact hfin.out
   go_wp2_with fail;go_roundw
   case rel=>
    have kB:zg (w5.setCell ⟨V,1,none⟩ (.slice (some ⟨g,0,none⟩) ((zq p (l.take k)).hn+1) cap)) V z0 (.slice (some ⟨g,0,none⟩) ((zq p (l.take k)).hn+1) cap) (.int .i64 tm) (.int .i64 nx) z2 z3:=⟨dA.out.1.zPA _ (Or.inr (by decide)),dA.out.2.1.set _,dA.out.2.2.1.zPA _ (Or.inr (by decide)),dA.out.2.2.2.1.zPA _ (Or.inr (by decide)),dA.out.2.2.2.2.1.zPA _ (Or.inr (by decide)),dA.out.2.2.2.2.2.zPA _ (Or.inr (by decide))⟩;have he:zq p (l.take (k+1))=yr (zq p (l.take k)) (zk l k):=by
     rw[List.take_succ_eq_append_getElem bB,zCu];congr 1;unfold zk;rw[List.getD_eq_getElem?_getD,List.getElem?_eq_getElem bB];rfl
    refine⟨k+1,_,by omega,by go_num,kB,?_,iB.out⟩;rw[he];refine gB.out.mono (fun j hj=>?_);have eC:=sA.size;rcases hj with(h | h) | rfl
    ·exact Or.inl h
    ·exact Or.inr ⟨h.1,by omega⟩
    ·rcases HG.out with h | h
     ·rcases jB.out j h with h' | h'
      ·exact Or.inl h'
      ·exact Or.inr ⟨h'.1,by omega⟩
     ·exact Or.inr ⟨by omega,by omega⟩
   case measure=>simp[intOf];omega
  ·obtain rfl:k=l.length:=(by omega);go_wp2_with fail;rw[List.take_length]at iA;go_ret;exact⟨rfl,y1,rA.out,iA.out,pA.out⟩
open Go.Maps
theorem zIy(v0 v1 v2 v3:Value)(lo hi:Nat)(W:zE)(w:World)(h:zd w lo hi v0 v1 v2 v3 W)(pF:yL W.zPE<=1048576)(jG:W.sn<=1048576)(kG:W.pn<=1048576)(kD:zDE W):Calls Tryz.prog 51 #[zt v0 v1 v2 v3 W] w (zHu W w):=by
 obtain⟨a0,c0,a1,c1,a2,c2,a3,c3,rfl,rfl,rfl,rfl⟩:=h.zPO;have Hp:=zi h;obtain⟨pB,iD,jE⟩:=h.zPG.values;obtain⟨rB,jD,kE⟩:=h.zPD.values;have nB:=zi iD;have oB:=zi jD;have rE:=zi (show ∀i,i<W.sn->(pB i).oneCell'=true from fun i hi=>by obtain⟨-,a,c,e,-⟩:=(iD i hi).1;rw[e];rfl);have sE:=zi (show ∀i,i<W.pn->(rB i).oneCell'=true from fun i hi=>by obtain⟨-,a,c,e,-⟩:=(jD i hi).1;rw[e];rfl);have tE:=zi jE;have vE:=zi kE;have sC:=zi kD.1;have tC:=zi kD.2;have fE:=zi (show W.sn<=maxLen/\W.pn<=maxLen from⟨h.zPG.1,h.zPD.1⟩);clear h iD jD jE kE kD;obtain⟨iS,nE,cE⟩:=Option.map_eq_some_iff.1 zGd;simp only[Prod.mk.injEq]at cE;have kC:=zi (And.intro nE cE);obtain⟨iZ,oE,dE⟩:=Option.map_eq_some_iff.1 zDq;simp only[Prod.mk.injEq]at dE;have lC:=zi (And.intro oE dE);clear nE cE oE dE;have pE:∀A B:World,A=w.alloc (.cells #[.slice a0 W.zPE.n c0,.slice a1 W.zPE.hn c1,.int .i64 W.time,.int .i64 W.next,.slice a2 W.sn c2,.slice a3 W.pn c3] 37)->B=A.alloc (.cells #[.slice none 0 0,.slice none 0 0,.int .i64 0,.int .i64 0,.slice none 0 0,.slice none 0 0] 37)->zg B w.heap.size (.slice a0 W.zPE.n c0) (.slice a1 W.zPE.hn c1) (.int .i64 W.time) (.int .i64 W.next) (.slice a2 W.sn c2) (.slice a3 W.pn c3)/\zg B (w.heap.size+1) (.slice none 0 0) (.slice none 0 0) (.int .i64 0) (.int .i64 0) (.slice none 0 0) (.slice none 0 0)/\Below w.heap.size w B/\B.heap.size=w.heap.size+1+1:=by
  rintro A B ea eb;have b1:=zC w (.cells #[.slice a0 W.zPE.n c0,.slice a1 W.zPE.hn c1,.int .i64 W.time,.int .i64 W.next,.slice a2 W.sn c2,.slice a3 W.pn c3] 37);have x1:=zg.new w (.slice a0 W.zPE.n c0) (.slice a1 W.zPE.hn c1) (.int .i64 W.time) (.int .i64 W.next) (.slice a2 W.sn c2) (.slice a3 W.pn c3) 37;have z1:A.heap.size=w.heap.size+1:=(by rw[ea];exact World.size_alloc _ _);rw[<-ea]at b1 x1;have b2:=zC A (.cells #[.slice none 0 0,.slice none 0 0,.int .i64 0,.int .i64 0,.slice none 0 0,.slice none 0 0] 37);have x2:=zg.new A (.slice none 0 0) (.slice none 0 0) (.int .i64 0) (.int .i64 0) (.slice none 0 0) (.slice none 0 0) 37;have z2:B.heap.size=w.heap.size+1+1:=(by rw[eb,World.size_alloc,z1]);rw[<-eb,z1]at x2;rw[<-eb]at b2;exact⟨x1.zO9 b2,x2,zA b1 b2,z2⟩
 obtain⟨hx,hr,sA,aC⟩:=pE _ _ rfl rfl;have HX:=zi hx;have HR:=zi hr;have cB:=zi aC;have vB:=zC ((w.alloc (.cells #[.slice a0 W.zPE.n c0,.slice a1 W.zPE.hn c1,.int .i64 W.time,.int .i64 W.next,.slice a2 W.sn c2,.slice a3 W.pn c3] 37)).alloc (.cells #[.slice none 0 0,.slice none 0 0,.int .i64 0,.int .i64 0,.slice none 0 0,.slice none 0 0] 37)) (.cells #[.slice a0 W.zPE.n c0,.slice a1 W.zPE.hn c1,.int .i64 W.time,.int .i64 W.next,.slice a2 W.sn c2,.slice a3 W.pn c3] 37);have hy:=zg.new ((w.alloc (.cells #[.slice a0 W.zPE.n c0,.slice a1 W.zPE.hn c1,.int .i64 W.time,.int .i64 W.next,.slice a2 W.sn c2,.slice a3 W.pn c3] 37)).alloc (.cells #[.slice none 0 0,.slice none 0 0,.int .i64 0,.int .i64 0,.slice none 0 0,.slice none 0 0] 37)) (.slice a0 W.zPE.n c0) (.slice a1 W.zPE.hn c1) (.int .i64 W.time) (.int .i64 W.next) (.slice a2 W.sn c2) (.slice a3 W.pn c3) 37;rw[aC]at hy;have HY:=zi hy;obtain⟨⟨x0,-⟩,⟨x1,-⟩,⟨x2,-⟩,⟨x3,-⟩,⟨x4,-⟩,⟨x5,-⟩⟩:=HX.out.zO9 vB;clear pE hx hr aC hy;go_enter Tryz.func51,Tryz.ntmps51;go_wp2_with fail;generalize (w.alloc (.cells #[.slice a0 W.zPE.n c0,.slice a1 W.zPE.hn c1,.int .i64 W.time,.int .i64 W.next,.slice a2 W.sn c2,.slice a3 W.pn c3] 37)).alloc (.cells #[.slice none 0 0,.slice none 0 0,.int .i64 0,.int .i64 0,.slice none 0 0,.slice none 0 0] 37)=W0 at HX HR HY cB sA vB x0 x1 x2 x3 x4 x5 ⊢;generalize hX:w.heap.size+1+1=X at HY cB ⊢;have cF:=zi hX;clear hX;have vF:(W0.alloc (.cells #[.slice a0 W.zPE.n c0,.slice a1 W.zPE.hn c1,.int .i64 W.time,.int .i64 W.next,.slice a2 W.sn c2,.slice a3 W.pn c3] 37)).heap.size=W0.heap.size+1:=World.size_alloc _ _;generalize W0.alloc (.cells #[.slice a0 W.zPE.n c0,.slice a1 W.zPE.hn c1,.int .i64 W.time,.int .i64 W.next,.slice a2 W.sn c2,.slice a3 W.pn c3] 37)=WC at HY vB vF x0 x1 x2 x3 x4 x5 ⊢;refine(zJz _ _ lo hi W.zPE WC (Hp.out.zPE.zO9 (zA sA vB)) pF).mono ?_;rintro e w1 ⟨u0,u1,rfl,hP,kA⟩;obtain⟨b0,d0,b1,d1,rfl,rfl⟩:=hP.zPO;have lG:=kA.size;have mG:=cB.out;have T1:=(zF.put w1 X 0 (.slice b0 W.zPE.n d0)).trans (zF.put _ X 1 (.slice b1 W.zPE.hn d1));have vC:=zi (hP.zPF T1 (fun k e=>by omega));have mE:zg ((w1.setCell ⟨X,0,none⟩ (.slice b0 W.zPE.n d0)).setCell ⟨X,1,none⟩ (.slice b1 W.zPE.hn d1)) X (.slice b0 W.zPE.n d0) (.slice b1 W.zPE.hn d1) (.int .i64 W.time) (.int .i64 W.next) (.slice a2 W.sn c2) (.slice a3 W.pn c3):=by
  obtain⟨h0,h1,h2,h3,h4,h5⟩:=HY.out.zO9 kA;exact⟨(h0.set _).zPA _ (Or.inr (by omega)),(h1.zPA _ (Or.inr (by omega))).set _,(h2.zPA _ (Or.inr (by omega))).zPA _ (Or.inr (by omega)),(h3.zPA _ (Or.inr (by omega))).zPA _ (Or.inr (by omega)),(h4.zPA _ (Or.inr (by omega))).zPA _ (Or.inr (by omega)),(h5.zPA _ (Or.inr (by omega))).zPA _ (Or.inr (by omega))⟩
 have tA:=zi mE;have sB:Below W0.heap.size W0 ((w1.setCell ⟨X,0,none⟩ (.slice b0 W.zPE.n d0)).setCell ⟨X,1,none⟩ (.slice b1 W.zPE.hn d1)):=(zA vB kA).trans (T1.zO9 (B:=W0.heap.size) (by omega) (fun k e=>by omega));have cC:((w1.setCell ⟨X,0,none⟩ (.slice b0 W.zPE.n d0)).setCell ⟨X,1,none⟩ (.slice b1 W.zPE.hn d1)).heap.size=w1.heap.size:=by simp only[World.size_setCell]
 have bA:=zi cC;clear x0 x1 x2 x3 x4 x5 cC;obtain⟨⟨y0,dC⟩,⟨y1,eC⟩,⟨y2,fC⟩,⟨y3,gC⟩,⟨y4,iC⟩,⟨y5,jC⟩⟩:=HY.out.zO9 kA;go_upto_region 3 with fail;clear y0 dC y1 eC y2 fC y3 gC y4 iC y5 jC mE T1 hP kA;generalize (w1.setCell ⟨X,0,none⟩ (.slice b0 W.zPE.n d0)).setCell ⟨X,1,none⟩ (.slice b1 W.zPE.hn d1)=W1 at vC tA sB bA ⊢;have mD:=zC W1 (.cells #[] 67);have kB:=zA sB mD;have lA:=zi (show(W1.alloc (.cells #[] 67)).ownsRow W1.heap.size 67 6 (.slice (some ⟨W1.heap.size,0,none⟩) 0 0) 0 [] from World.ownsRow_made W1 #[] 0 (Nat.le_refl _) (Nat.zero_le _) (by simp));have eB:=zi (show(W1.alloc (.cells #[] 67)).heap.size=W1.heap.size+1 from World.size_alloc _ _);obtain⟨⟨x0,-⟩,⟨x1,-⟩,⟨x2,-⟩,⟨x3,-⟩,⟨x4,-⟩,⟨x5,-⟩⟩:=HX.out.zO9 kB;go_wp2_with (first
  | (at_builtin;refine qR rfl _ _ 34 rfl W1.heap.size 67 iS (.agg #[.string ⟨#[]⟩,.int .i64 0,.int .i64 0,.int .i64 0,.int .i64 0,.slice none 0 0]) 6 72 (by kernel_rfl) kC.out.1 kC.out.2.1 kC.out.2.2.1 kC.out.2.2.2 rfl (by decide) _ _ _ rfl lA.out a2 W.sn c2 (zCB W.zPG pB W.sn) rfl (zCY _ _ _) (zDn _ _ _ rE.out) ?c1 ?c3 ?c4 ?c5 ?_)
  | fail)
 case c1=>
  intro h0;obtain⟨b,off,ha,eA⟩:=tE.out h0;exact⟨b,off,ha,fun j u hj=>((zA sA kB).cell (zD (eA j u hj))).trans (eA j u hj)⟩
 case c3=>unfold maxLen;omega
 case c4=>omega
 case c5=>rw[eB.out];omega
 intro v' w2 cA fA rA;have dA:Below W1.heap.size W1 w2:=mD.grown fA (by rw[eB.out];omega) (fun q hq=>by have:=lA.out.lt q hq;omega);obtain⟨bS,aS,cS,rfl,nS,lS,kS⟩:=zBP (show w2.ownsRow W1.heap.size 67 6 v' W.sn (zCB W.zPG pB W.sn)by simpa using cA) w2.heap.size (Nat.le_refl _);have bD:=zi (show yU (w2.setCell ⟨X,4,none⟩ (.slice aS W.sn cS)) 67 6 (.slice aS W.sn cS) W.sn from(qy (show w2.ownsRow W1.heap.size 67 6 (.slice aS W.sn cS) W.sn (zCB W.zPG pB W.sn)by simpa using cA) (fun h0=>⟨_,rA h0⟩)).set _ _);have T2:=zF.put w2 X 4 (.slice aS W.sn cS);have eE:=dA.size;have nA:zg (w2.setCell ⟨X,4,none⟩ (.slice aS W.sn cS)) X (.slice b0 W.zPE.n d0) (.slice b1 W.zPE.hn d1) (.int .i64 W.time) (.int .i64 W.next) (.slice aS W.sn cS) (.slice a3 W.pn c3):=by
  obtain⟨h0,h1,h2,h3,h4,h5⟩:=tA.out.zO9 dA;exact⟨h0.zPA _ (Or.inr (by omega)),h1.zPA _ (Or.inr (by omega)),h2.zPA _ (Or.inr (by omega)),h3.zPA _ (Or.inr (by omega)),h4.set _,h5.zPA _ (Or.inr (by omega))⟩
 have rC:=bA.out;have kF:=cB.out;have vA:=zi nA;have mC:=zi ((vC.out.zO9 dA).zPF T2 (fun k e=>by omega));have aA:Below W0.heap.size W0 (w2.setCell ⟨X,4,none⟩ (.slice aS W.sn cS)):=(zA sB dA).trans (T2.zO9 (B:=W0.heap.size) (zA sB dA).size (fun k e=>by omega));have iF:=sB.size;have bC:(w2.setCell ⟨X,4,none⟩ (.slice aS W.sn cS)).heap.size=w2.heap.size:=by simp only[World.size_setCell]
 have HS:=zi ((kS.turned0 T2 (fun q e h0 e2=>by have:=lS h0;omega)).weak (Nat.le_of_eq bC.symm));have nC:=zi (show 0<W.sn->aS=some ⟨bS,0,none⟩/\W1.heap.size<=bS from fun h0=>⟨(lS h0).1,(lS h0).2.1⟩);have lF:0<W.sn->X≠bS:=fun h0=>by have:=lS h0;omega
 have rD:0<W.sn->bS<(w2.setCell ⟨X,4,none⟩ (.slice aS W.sn cS)).heap.size:=fun h0=>by have:=lS h0;omega
 have bE:W1.heap.size<=(w2.setCell ⟨X,4,none⟩ (.slice aS W.sn cS)).heap.size:=by omega
 clear rC cA fA rA kS lS nA mD kB lA eB x0 x1 x2 x3 x4 x5;obtain⟨⟨y0,dC⟩,⟨y1,eC⟩,⟨y2,fC⟩,⟨y3,gC⟩,⟨y4,iC⟩,⟨y5,jC⟩⟩:=tA.out.zO9 dA;go_wp2;clear y0 dC y1 eC y2 fC y3 gC y4 iC y5 jC T2 dA bC eE;generalize w2.setCell ⟨X,4,none⟩ (.slice aS W.sn cS)=W2 at *
 go_loopw [4] (fun i wr=>∃(k:Nat) (kb:Nat->Nat) (kv:Nat->Value),k<=W.sn/\i = .int .i64 k/\yB wr bS W2.heap.size W.sn k W.zPG kb kv pB/\zg wr X (.slice b0 W.zPE.n d0) (.slice b1 W.zPE.hn d1) (.int .i64 W.time) (.int .i64 W.next) (.slice aS W.sn cS) (.slice a3 W.pn c3)/\W2.heap.size<=wr.heap.size/\qF wr WC.heap.size w1.heap.size (.slice b0 W.zPE.n d0) (.slice b1 W.zPE.hn d1) W.zPE/\(yU wr 67 6 (.slice aS W.sn cS) W.sn/\∀i,i<k->yU wr 61 2 (kv i) (W.zPG i).dn)/\Below W0.heap.size W0 wr) (fun i _=>W.sn - (intOf i).toNat)
 case atStart=>exact⟨0,_,_,Nat.zero_le _,rfl,HS.out,vA.out,Nat.le_refl _,mC.out,⟨bD.out,fun i hi=>absurd hi (Nat.not_lt_zero _)⟩,aA⟩
 case round=>
  obtain⟨k,kb,kv,hk,rfl,hh,tB,lE,hI,hQ,gA⟩:=hrel;have HQ:=zi hQ;have Hh:=zi hh;have HI:=zi hI;have iA:=zi tB;clear hh hI tB hQ;by_cases pA:k<W.sn
  ·have pD:(k:Int)<(W.sn:Int):=(by omega);have jF:=Hh.out.lt (by omega);have hK:=(nC.out (by omega)).2;obtain rfl:=(nC.out (by omega)).1;obtain⟨sb,so,vd,rfl,bB⟩:=(Hp.out.zPG.cells pA);obtain⟨-,da,dc,rfl,-⟩:=id bB.zPK;have tF:=zD bB.c0;have vD:=sA.size;have aE:=cB.out;have jA:=zi (bB.zO9 (zA sA gA));have HD:=zi jA.out.zPK;obtain⟨-,ca,cc,oD,-⟩:=id (nB.out k pA).1;have aB:=zi (HX.out.zO9 gA);have e1:X≠bS:=lF (by omega);have dF:=e1.symm;have e2:w.heap.size≠bS:=(by have:=bA.out;omega);have eF:=e2.symm;have e3:sb≠bS:=(by have:=bA.out;omega);have fF:=e3.symm;clear bB;obtain⟨⟨x0,-⟩,⟨x1,-⟩,⟨x2,-⟩,⟨x3,-⟩,⟨x4,-⟩,⟨x5,-⟩⟩:=iA.out;obtain⟨⟨u0,-⟩,⟨u1,-⟩,⟨u2,-⟩,⟨u3,-⟩,⟨u4,-⟩,⟨u5,-⟩⟩:=aB.out;have sd:=jA.out.c5;go_wp2_with fail;refine wp_region_held_drew (S:=(fun w'=>w'.cell? ⟨X,4,none⟩=some (.slice (some ⟨bS,0,none⟩) W.sn cS)/\w'.cell? ⟨w.heap.size,4,none⟩=some (.slice (some ⟨sb,so,none⟩) W.sn c2)/\w'.cell? ⟨sb,so+k*6+5,none⟩=some (.slice da (W.zPG k).dn dc))) (by kernel_rfl) ?_ (fun hHeld=>?_)
   ·(try dsimp only)
    go_keep
   have oA:Below wr.heap.size wr wr.drew:=(Below.refl _ _).drew;clear x0 x1 x2 x3 x4 x5 u0 u1 u2 u3 u4 u5 sd;generalize wr.drew=q0 at oA hHeld ⊢;refine tk 0 (h:=tk 1 (h:=tk 2 (h:=tk 4 (h:=tk 5 (h:=tk 6 (h:=tk 7 (h:=tk 8 (h:=tk 9 (h:=?_)))))))));refine rd [3] (rc (fun K hK=>?_) .nil);go_simp;have kA:Below wr.heap.size wr (q0.alloc (.cells #[] 61)):=zA oA (zC _ _);obtain⟨⟨x0,-⟩,⟨x1,-⟩,⟨x2,-⟩,⟨x3,-⟩,⟨x4,-⟩,⟨x5,-⟩⟩:=iA.out.zO9 kA;obtain⟨⟨u0,-⟩,⟨u1,-⟩,⟨u2,-⟩,⟨u3,-⟩,⟨u4,-⟩,⟨u5,-⟩⟩:=aB.out.zO9 kA;have sd:=(jA.out.zO9 kA).c5
   (try go_wp2_with fail)
   refine hK.out _ _ (by(try dsimp only);go_keep) ?_;clear hK K hHeld;intro hHeld
   try simp only[Act.put,s1,s2,s3]
   clear x0 x1 x2 x3 x4 x5 u0 u1 u2 u3 u4 u5 sd;refine rd [10] (rc (fun K hK=>?_) .nil);obtain⟨na,nc,nb,w2,jB,tD,gB,dA,iB⟩:=zB4 q0 lo hi da (W.zPG k).dn dc (W.zPG k).ds (W.zPG k).db (HD.out.zO9 oA) (sC.out k pA) 62;have aA:Below wr.heap.size wr w2:=zA oA dA;have sF:=oA.size;refine ze rfl (.tmp 26) (.tmp 32) 62 rfl _ _ _ rfl rfl jB ?_;obtain⟨⟨x0,-⟩,⟨x1,-⟩,⟨x2,-⟩,⟨x3,-⟩,⟨x4,-⟩,⟨x5,-⟩⟩:=iA.out.zO9 aA;obtain⟨⟨u0,-⟩,⟨u1,-⟩,⟨u2,-⟩,⟨u3,-⟩,⟨u4,-⟩,⟨u5,-⟩⟩:=aB.out.zO9 aA;have sd:=(jA.out.zO9 aA).c5
   (try go_wp2_with fail)
   refine hK.out _ _ (by(try dsimp only);go_keep) ?_;clear hK K hHeld;intro hHeld
   try simp only[Act.put,s1,s2,s3]
   clear x0 x1 x2 x3 x4 x5 u0 u1 u2 u3 u4 u5 sd;refine tk 11 (h:=tk 12 (h:=?_));refine rd [13] (rc (fun K hK=>?_) .nil);have hT:=zF.put w2 bS (k*6+5) (.slice na (W.zPG k).dn nc);obtain⟨⟨p0,cG⟩,⟨p1,dG⟩,⟨p2,eG⟩,⟨p3,fG⟩,⟨p4,gG⟩,⟨p5,iG⟩⟩:=(Hh.out.zO9 aA).zPR k pA;rw[if_neg (by omega),oD]at p5;obtain⟨⟨x0,-⟩,⟨x1,-⟩,⟨x2,-⟩,⟨x3,-⟩,⟨x4,-⟩,⟨x5,-⟩⟩:=(iA.out.zO9 aA).zPF hT (fun e=>e1 e);obtain⟨⟨u0,-⟩,⟨u1,-⟩,⟨u2,-⟩,⟨u3,-⟩,⟨u4,-⟩,⟨u5,-⟩⟩:=(aB.out.zO9 aA).zPF hT (fun e=>e2 e);have sd:=(World.cell?_of_block (a:=⟨sb,so+k*6+5,none⟩) (hT.block sb (zD (jA.out.zO9 aA).c5) (fun e=>e3 e))).trans (jA.out.zO9 aA).c5;go_simp
   (try go_wp2_with fail)
   refine hK.out _ _ (by(try dsimp only);go_keep) ?_;clear hK K hHeld;intro hHeld
   try simp only[Act.put,s1,s2,s3]
   clear x0 x1 x2 x3 x4 x5 u0 u1 u2 u3 u4 u5 sd;refine wpAnyH_done (by kernel_rfl) ?_ _;have aD:=zi iB;have gD:=zi (Hh.out.next pA (by omega) aA tD (fun h0=>by have:=gB h0;omega));have lD:=hT;have gF:=aA.size;have hB:=aA;go_wp2;go_roundw
   case rel=>exact⟨k+1,_,_,by omega,by go_num,gD.out,(iA.out.zO9 hB).zPF lD (fun e=>e1 e),by simp only[World.size_setCell];omega,(HI.out.zO9 hB).zPF hT (fun q e=>by have:=bA.out;omega),⟨(HQ.out.1.zO9 hB).set _ _,zIL aD.out (fun i hi=>(HQ.out.2 i hi).zO9 hB) _ _⟩,(zA gA hB).setCell (by show W0.heap.size<=bS;have:=bA.out;omega) _⟩
   case measure=>simp[intOf];omega
  ·obtain rfl:k=W.sn:=(by omega);generalize wr=wA at Hh HI iA HQ gA lE ⊢;generalize kb=kbS at Hh;generalize kv=kvS at Hh HQ;have iE:=zi HQ.out;have bF:=zi (Hh.out.own fE.out.1 (fun h0=>(nC.out h0).1) nS (fun i hi=>(nB.out i hi).2));have eD:=zi Hh.out.zPJ;have pC:=zi (show(W1.heap.size=w1.heap.size/\W2.heap.size<=wA.heap.size/\WC.heap.size<=w1.heap.size/\W1.heap.size<=W2.heap.size)/\∀q,zA4 bS kbS W.sn W.zPG q->w1.heap.size<=q/\q<wA.heap.size by
    have rC:=bA.out;refine⟨⟨by omega,by omega,by omega,by omega⟩,?_⟩;rintro q (⟨h0,rfl⟩ | ⟨i,hi,h0,rfl⟩)
    ·have:=nC.out h0;have:=rD h0;omega
    ·have:=Hh.out.zPM i hi h0;omega)
   have aF:=zi HI.out;have dB:=zi iA.out;clear Hh HI iA HQ HS vA mC aA tA vC;obtain⟨⟨x0,-⟩,⟨x1,-⟩,⟨x2,-⟩,⟨x3,-⟩,⟨x4,-⟩,⟨x5,-⟩⟩:=dB.out;go_upto_region 8 with fail;clear x0 x1 x2 x3 x4 x5;have nD:=zC wA (.cells #[] 99);have lB:=zA gA nD;have mA:=zi (show(wA.alloc (.cells #[] 99)).ownsRow wA.heap.size 99 8 (.slice (some ⟨wA.heap.size,0,none⟩) 0 0) 0 [] from World.ownsRow_made wA #[] 0 (Nat.le_refl _) (Nat.zero_le _) (by simp));have fB:=zi (show(wA.alloc (.cells #[] 99)).heap.size=wA.heap.size+1 from World.size_alloc _ _);obtain⟨⟨x0,-⟩,⟨x1,-⟩,⟨x2,-⟩,⟨x3,-⟩,⟨x4,-⟩,⟨x5,-⟩⟩:=HX.out.zO9 lB;go_wp2_with (first
    | (at_builtin;refine qR rfl _ _ 35 rfl wA.heap.size 99 iZ (.agg #[.int .i64 0,.string ⟨#[]⟩,.string ⟨#[]⟩,.int .i64 0,.int .i64 0,.int .i64 0,.int .i64 0,.slice none 0 0]) 8 96 (by kernel_rfl) lC.out.1 lC.out.2.1 lC.out.2.2.1 lC.out.2.2.2 rfl (by decide) _ _ _ rfl mA.out a3 W.pn c3 (zAf W.zPD rB W.pn) rfl (zBB _ _ _) (zBs _ _ _ sE.out) ?c1 ?c3 ?c4 ?c5 ?_)
    | fail)
   case c1=>
    intro h0;obtain⟨b,off,ha,eA⟩:=vE.out h0;exact⟨b,off,ha,fun j u hj=>((zA sA lB).cell (zD (eA j u hj))).trans (eA j u hj)⟩
   case c3=>unfold maxLen;omega
   case c4=>omega
   case c5=>rw[fB.out];omega
   intro v' w2 cA fA rA;have dA:Below wA.heap.size wA w2:=nD.grown fA (by rw[fB.out];omega) (fun q hq=>by have:=mA.out.lt q hq;omega);obtain⟨bZ,aZ,cZ,rfl,nZ,lZ,kZ⟩:=zAM (show w2.ownsRow wA.heap.size 99 8 v' W.pn (zAf W.zPD rB W.pn)by simpa using cA) w2.heap.size (Nat.le_refl _);have cD:=zi (show yU (w2.setCell ⟨X,5,none⟩ (.slice aZ W.pn cZ)) 99 8 (.slice aZ W.pn cZ) W.pn from(qy (show w2.ownsRow wA.heap.size 99 8 (.slice aZ W.pn cZ) W.pn (zAf W.zPD rB W.pn)by simpa using cA) (fun h0=>⟨_,rA h0⟩)).set _ _);have T2:=zF.put w2 X 5 (.slice aZ W.pn cZ);have eE:=dA.size;have nA:zg (w2.setCell ⟨X,5,none⟩ (.slice aZ W.pn cZ)) X (.slice b0 W.zPE.n d0) (.slice b1 W.zPE.hn d1) (.int .i64 W.time) (.int .i64 W.next) (.slice aS W.sn cS) (.slice aZ W.pn cZ):=by
    obtain⟨h0,h1,h2,h3,h4,h5⟩:=dB.out.zO9 dA;exact⟨h0.zPA _ (Or.inr (by omega)),h1.zPA _ (Or.inr (by omega)),h2.zPA _ (Or.inr (by omega)),h3.zPA _ (Or.inr (by omega)),h4.zPA _ (Or.inr (by omega)),h5.set _⟩
   have rC:=bA.out;have kF:=cB.out;have vA:=zi nA;have mC:=zi ((aF.out.zO9 dA).zPF T2 (fun k e=>by omega));have aA:Below W0.heap.size W0 (w2.setCell ⟨X,5,none⟩ (.slice aZ W.pn cZ)):=(zA gA dA).trans (T2.zO9 (B:=W0.heap.size) (zA gA dA).size (fun k e=>by omega));have iF:=gA.size;have bC:(w2.setCell ⟨X,5,none⟩ (.slice aZ W.pn cZ)).heap.size=w2.heap.size:=(by simp only[World.size_setCell]);have HZ:=zi ((kZ.turned0 T2 (fun q e h0 e2=>by have:=lZ h0;omega)).weak (Nat.le_of_eq bC.symm));have oC:=zi (show 0<W.pn->aZ=some ⟨bZ,0,none⟩/\wA.heap.size<=bZ from fun h0=>⟨(lZ h0).1,(lZ h0).2.1⟩);have mF:0<W.pn->X≠bZ:=fun h0=>by have:=lZ h0;omega
   have sD:0<W.pn->bZ<(w2.setCell ⟨X,5,none⟩ (.slice aZ W.pn cZ)).heap.size:=fun h0=>by have:=lZ h0;omega
   have fD:=zi ((bF.out.zO9 dA).zPF T2 (fun q hq e=>by have:=pC.out.2 q hq;omega));have dD:=zi (show(yU (w2.setCell ⟨X,5,none⟩ (.slice aZ W.pn cZ)) 67 6 (.slice aS W.sn cS) W.sn/\∀i,i<W.sn->yU (w2.setCell ⟨X,5,none⟩ (.slice aZ W.pn cZ)) 61 2 (kvS i) (W.zPG i).dn)from⟨(iE.out.1.zO9 dA).set _ _,fun i hi=>((iE.out.2 i hi).zO9 dA).set _ _⟩);have bE:wA.heap.size<=(w2.setCell ⟨X,5,none⟩ (.slice aZ W.pn cZ)).heap.size:=(by omega);clear rC cA fA rA kZ lZ nA nD lB mA fB x0 x1 x2 x3 x4 x5;obtain⟨⟨y0,dC⟩,⟨y1,eC⟩,⟨y2,fC⟩,⟨y3,gC⟩,⟨y4,iC⟩,⟨y5,jC⟩⟩:=dB.out.zO9 dA;go_wp2;clear y0 dC y1 eC y2 fC y3 gC y4 iC y5 jC T2 dA bC eE;generalize w2.setCell ⟨X,5,none⟩ (.slice aZ W.pn cZ)=W3 at *
   go_loopw [5] (fun i wr=>∃(k:Nat) (kb:Nat->Nat) (kv:Nat->Value),k<=W.pn/\i = .int .i64 k/\qW wr bZ W3.heap.size W.pn k W.zPD kb kv rB/\zg wr X (.slice b0 W.zPE.n d0) (.slice b1 W.zPE.hn d1) (.int .i64 W.time) (.int .i64 W.next) (.slice aS W.sn cS) (.slice aZ W.pn cZ)/\W3.heap.size<=wr.heap.size/\(qF wr WC.heap.size w1.heap.size (.slice b0 W.zPE.n d0) (.slice b1 W.zPE.hn d1) W.zPE/\qm wr bS kbS kvS (.slice aS W.sn cS) W.sn W.zPG/\(yU wr 67 6 (.slice aS W.sn cS) W.sn/\∀i,i<W.sn->yU wr 61 2 (kvS i) (W.zPG i).dn))/\(yU wr 99 8 (.slice aZ W.pn cZ) W.pn/\∀i,i<k->yU wr 61 2 (kv i) (W.zPD i).dn)/\Below W0.heap.size W0 wr) (fun i _=>W.pn - (intOf i).toNat)
   case atStart=>exact⟨0,_,_,Nat.zero_le _,rfl,HZ.out,vA.out,Nat.le_refl _,⟨mC.out,fD.out,dD.out⟩,⟨cD.out,fun i hi=>absurd hi (Nat.not_lt_zero _)⟩,aA⟩
   case round=>
    obtain⟨k,kb,kv,hk,rfl,hh,tB,lE,hI,hQ,gA⟩:=hrel;have HQ:=zi hQ;have Hh:=zi hh;have HI:=zi hI;have iA:=zi tB;clear hh hI tB hQ;by_cases pA:k<W.pn
    ·have pD:(k:Int)<(W.pn:Int):=(by omega);have jF:=Hh.out.lt (by omega);have hK:=(oC.out (by omega)).2;obtain rfl:=(oC.out (by omega)).1;obtain⟨sb,so,vd,rfl,bB⟩:=(Hp.out.zPD.cells pA);obtain⟨-,da,dc,rfl,-⟩:=id bB.zPK;have tF:=zD bB.c0;have vD:=sA.size;have aE:=cB.out;have jA:=zi (bB.zO9 (zA sA gA));have HD:=zi jA.out.zPK;obtain⟨-,ca,cc,oD,-⟩:=id (oB.out k pA).1;have aB:=zi (HX.out.zO9 gA);have e1:X≠bZ:=mF (by omega);have dF:=e1.symm;have e2:w.heap.size≠bZ:=(by have:=bA.out;omega);have eF:=e2.symm;have e3:sb≠bZ:=(by have:=bA.out;omega);have fF:=e3.symm;clear bB;obtain⟨⟨x0,-⟩,⟨x1,-⟩,⟨x2,-⟩,⟨x3,-⟩,⟨x4,-⟩,⟨x5,-⟩⟩:=iA.out;obtain⟨⟨u0,-⟩,⟨u1,-⟩,⟨u2,-⟩,⟨u3,-⟩,⟨u4,-⟩,⟨u5,-⟩⟩:=aB.out;have sd:=jA.out.c7;go_wp2_with fail;refine wp_region_held_drew (S:=(fun w'=>w'.cell? ⟨X,5,none⟩=some (.slice (some ⟨bZ,0,none⟩) W.pn cZ)/\w'.cell? ⟨w.heap.size,5,none⟩=some (.slice (some ⟨sb,so,none⟩) W.pn c3)/\w'.cell? ⟨sb,so+k*8+7,none⟩=some (.slice da (W.zPD k).dn dc))) (by kernel_rfl) ?_ (fun hHeld=>?_)
     ·(try dsimp only)
      go_keep
     have oA:Below wr.heap.size wr wr.drew:=(Below.refl _ _).drew;clear x0 x1 x2 x3 x4 x5 u0 u1 u2 u3 u4 u5 sd;generalize wr.drew=q0 at oA hHeld ⊢;refine tk 0 (h:=tk 1 (h:=tk 2 (h:=tk 4 (h:=tk 5 (h:=tk 6 (h:=tk 7 (h:=tk 8 (h:=tk 9 (h:=?_)))))))));refine rd [3] (rc (fun K hK=>?_) .nil);go_simp;have kA:Below wr.heap.size wr (q0.alloc (.cells #[] 61)):=zA oA (zC _ _);obtain⟨⟨x0,-⟩,⟨x1,-⟩,⟨x2,-⟩,⟨x3,-⟩,⟨x4,-⟩,⟨x5,-⟩⟩:=iA.out.zO9 kA;obtain⟨⟨u0,-⟩,⟨u1,-⟩,⟨u2,-⟩,⟨u3,-⟩,⟨u4,-⟩,⟨u5,-⟩⟩:=aB.out.zO9 kA;have sd:=(jA.out.zO9 kA).c7
     (try go_wp2_with fail)
     refine hK.out _ _ (by(try dsimp only);go_keep) ?_;clear hK K hHeld;intro hHeld
     try simp only[Act.put,s1,s2,s3]
     clear x0 x1 x2 x3 x4 x5 u0 u1 u2 u3 u4 u5 sd;refine rd [10] (rc (fun K hK=>?_) .nil);obtain⟨na,nc,nb,w2,jB,tD,gB,dA,iB⟩:=zB4 q0 lo hi da (W.zPD k).dn dc (W.zPD k).ds (W.zPD k).db (HD.out.zO9 oA) (tC.out k pA) 62;have aA:Below wr.heap.size wr w2:=zA oA dA;have sF:=oA.size;refine ze rfl (.tmp 51) (.tmp 57) 62 rfl _ _ _ rfl rfl jB ?_;obtain⟨⟨x0,-⟩,⟨x1,-⟩,⟨x2,-⟩,⟨x3,-⟩,⟨x4,-⟩,⟨x5,-⟩⟩:=iA.out.zO9 aA;obtain⟨⟨u0,-⟩,⟨u1,-⟩,⟨u2,-⟩,⟨u3,-⟩,⟨u4,-⟩,⟨u5,-⟩⟩:=aB.out.zO9 aA;have sd:=(jA.out.zO9 aA).c7
     (try go_wp2_with fail)
     refine hK.out _ _ (by(try dsimp only);go_keep) ?_;clear hK K hHeld;intro hHeld
     try simp only[Act.put,s1,s2,s3]
     clear x0 x1 x2 x3 x4 x5 u0 u1 u2 u3 u4 u5 sd;refine tk 11 (h:=tk 12 (h:=?_));refine rd [13] (rc (fun K hK=>?_) .nil);have hT:=zF.put w2 bZ (k*8+7) (.slice na (W.zPD k).dn nc);obtain⟨⟨p0,cG⟩,⟨p1,dG⟩,⟨p2,eG⟩,⟨p3,fG⟩,⟨p4,gG⟩,⟨p5,iG⟩,⟨p6,nG⟩,⟨p7,oG⟩⟩:=(Hh.out.zO9 aA).zPR k pA;rw[if_neg (by omega),oD]at p7;obtain⟨⟨x0,-⟩,⟨x1,-⟩,⟨x2,-⟩,⟨x3,-⟩,⟨x4,-⟩,⟨x5,-⟩⟩:=(iA.out.zO9 aA).zPF hT (fun e=>e1 e);obtain⟨⟨u0,-⟩,⟨u1,-⟩,⟨u2,-⟩,⟨u3,-⟩,⟨u4,-⟩,⟨u5,-⟩⟩:=(aB.out.zO9 aA).zPF hT (fun e=>e2 e);have sd:=(World.cell?_of_block (a:=⟨sb,so+k*8+7,none⟩) (hT.block sb (zD (jA.out.zO9 aA).c7) (fun e=>e3 e))).trans (jA.out.zO9 aA).c7;go_simp
     (try go_wp2_with fail)
     refine hK.out _ _ (by(try dsimp only);go_keep) ?_;clear hK K hHeld;intro hHeld
     try simp only[Act.put,s1,s2,s3]
     clear x0 x1 x2 x3 x4 x5 u0 u1 u2 u3 u4 u5 sd;refine wpAnyH_done (by kernel_rfl) ?_ _;have aD:=zi iB;have gD:=zi (Hh.out.next pA (by omega) aA tD (fun h0=>by have:=gB h0;omega));have lD:=hT;have gF:=aA.size;have hB:=aA;go_wp2;go_roundw
     case rel=>exact⟨k+1,_,_,by omega,by go_num,gD.out,(iA.out.zO9 hB).zPF lD (fun e=>e1 e),by simp only[World.size_setCell];omega,⟨(HI.out.1.zO9 hB).zPF hT (fun q e=>by have:=pC.out;omega),(HI.out.2.1.zO9 hB).zPF hT (fun q hq e=>by have:=pC.out.2 q hq;omega),(HI.out.2.2.1.zO9 hB).set _ _,fun i hi=>((HI.out.2.2.2 i hi).zO9 hB).set _ _⟩,⟨(HQ.out.1.zO9 hB).set _ _,zIL aD.out (fun i hi=>(HQ.out.2 i hi).zO9 hB) _ _⟩,(zA gA hB).setCell (by show W0.heap.size<=bZ;have:=bA.out;omega) _⟩
     case measure=>simp[intOf];omega
    ·obtain rfl:k=W.pn:=(by omega);have gE:=zi (HR.out.zO9 gA);obtain⟨⟨x0,-⟩,⟨x1,-⟩,⟨x2,-⟩,⟨x3,-⟩,⟨x4,-⟩,⟨x5,-⟩⟩:=iA.out;obtain⟨⟨r0,pG⟩,⟨r1,rG⟩,⟨r2,sG⟩,⟨r3,tG⟩,⟨r4,vG⟩,⟨r5,aH⟩⟩:=gE.out;have aG:=cB.out;have bG:=cF.out;go_wp2;have hT:=zF.put6 wr (w.heap.size+1) (.slice b0 W.zPE.n d0) (.slice b1 W.zPE.hn d1) (.int .i64 W.time) (.int .i64 W.next) (.slice aS W.sn cS) (.slice aZ W.pn cZ);have mB:=gE.out.put (.slice b0 W.zPE.n d0) (.slice b1 W.zPE.hn d1) (.int .i64 W.time) (.int .i64 W.next) (.slice aS W.sn cS) (.slice aZ W.pn cZ);have nF:=(Hh.out.own fE.out.2 (fun h0=>(oC.out h0).1) nZ (fun i hi=>(oB.out i hi).2));have rF:=Hh.out.zPM;have aC:(put6 wr (w.heap.size+1) (.slice b0 W.zPE.n d0) (.slice b1 W.zPE.hn d1) (.int .i64 W.time) (.int .i64 W.next) (.slice aS W.sn cS) (.slice aZ W.pn cZ)).heap.size=wr.heap.size:=(by simp only[World.size_setCell]);have zS:=pC.out;have oF:=gA.size;have zZ:∀q,yq bZ kb W.pn W.zPD q->wA.heap.size<=q/\q<wr.heap.size:=by
      rintro q (⟨h0,rfl⟩ | ⟨i,hi,h0,rfl⟩)
      ·have:=oC.out h0;have:=sD h0;omega
      ·have:=rF i hi h0;omega
     refine bodyPost_ret (v:=.agg #[.slice b0 W.zPE.n d0,.slice b1 W.zPE.hn d1,.int .i64 W.time,.int .i64 W.next,.slice aS W.sn cS,.slice aZ W.pn cZ]) (by simp[results,Tryz.results51,go_sem,mB.1.1,mB.2.1.1,mB.2.2.1.1,mB.2.2.2.1.1,mB.2.2.2.2.1.1,mB.2.2.2.2.2.1]) rfl ⟨_,_,_,_,rfl,?_,?_⟩
     ·refine⟨fun q=>WC.heap.size<=q/\q<w1.heap.size,fun q=>zA4 bS kbS W.sn W.zPG q,fun q=>yq bZ kb W.pn W.zPD q,⟨?_,?_,?_,?_,?_,?_⟩,?_⟩
      ·exact(HI.out.1.isIn (S:=fun q=>WC.heap.size<=q/\q<w1.heap.size) (fun k h1 h2=>⟨h1,h2⟩)).zPF hT (fun k hk e=>by omega)
      ·exact zAu.put6 ⟨bS,kbS,kvS,HI.out.2.1,eD.out,fun q hq=>hq,HI.out.2.2.1,HI.out.2.2.2⟩ (w.heap.size+1) _ _ _ _ _ _ (fun hk=>by have:=zS.2 _ hk;omega)
      ·exact zAK.put6 ⟨bZ,kb,kv,nF,Hh.out.zPJ,fun q hq=>hq,HQ.out.1,HQ.out.2⟩ (w.heap.size+1) _ _ _ _ _ _ (fun hk=>by have:=zZ _ hk;omega)
      ·exact fun k hk e=>by have:=zS.2 k e;omega
      ·exact fun k hk e=>by have:=zZ k e;omega
      ·exact fun k hk e=>by have:=zS.2 k hk;have:=zZ k e;omega
      ·intro k hk;rw[aC];rcases hk with hk | hk | hk
       ·omega
       ·have:=zS.2 k hk;omega
       ·have:=zZ k hk;omega
     ·exact(zA sA gA).trans (hT.zO9 (B:=w.heap.size) (zA sA gA).size (fun k e=>by omega))
theorem zE1(v:Value)(n lo hi:Nat)(f g:Nat->Int)(t:Int)(w:World)(h1:zR w lo hi v n f g)(hn:n<=200) :
  Calls Tryz.prog 53 #[v,.int .i64 t] w fun e w'=>∃vy vo,e = .returned (.tuple #[vy,vo])/\zCJ (zy f g t n) (zAJ f g t n) w w' vy vo:=by
 have Hp:=zT h1;obtain⟨m1,a,c,rfl,mc,_⟩:=id h1;clear h1;unfold maxLen at m1;obtain⟨i0,oA,mA⟩:=Option.map_eq_some_iff.1 zBy;simp only[Prod.mk.injEq]at mA;have HI:=zT (And.intro oA mA);clear oA mA;have ha:=zC w (.cells #[] 61);have kA:=zC (w.alloc (.cells #[] 61)) (.cells #[] 61);have hA:=zT (zA ha kA);have l1:qE (w.alloc (.cells #[] 61)) w.heap.size (.slice (some ⟨w.heap.size,0,none⟩) 0 0) []:=World.ownsRow_lit (e:=61) (size:=2) w #[] 0 (Nat.le_refl _) (by unfold maxLen;omega) rfl;have l2:qE ((w.alloc (.cells #[] 61)).alloc (.cells #[] 61)) w.heap.size (.slice (some ⟨w.heap.size+1,0,none⟩) 0 0) []:=by
  have:=World.ownsRow_lit (e:=61) (size:=2) (base:=w.heap.size) (w.alloc (.cells #[] 61)) #[] 0 (by rw[World.size_alloc];omega) (by unfold maxLen;omega) rfl;rw[World.size_alloc]at this;exact this
 have L1:=zT (l1.zO9 kA);have L2:=zT l2;clear ha kA l1 l2;go_enter Tryz.func53,Tryz.ntmps53;go_wp2
 go_loopw [6,7,8] (fun vy vo i wr=>∃k:Nat,k<=n/\i = .int .i64 k/\zCJ (zy f g t k) (zAJ f g t k) w wr vy vo) (fun _ _ i _=>n - (intOf i).toNat)
 case atStart=>exact⟨0,Nat.zero_le _,rfl,L1.out,L2.out,fun q hq e=>by simp[Value.ownBlock]at hq e;omega,hA.out⟩
 case round=>
  obtain⟨k,hk,rfl,hy,ho,nA,hb⟩:=hrel;have Hy:=zT hy;have Ho:=zT ho;have fA:=zT nA;have pA:=zBL f g t k;clear hy ho nA L1 L2 hA;by_cases rA:k<n
  ·have sA:(k:Int)<(n:Int):=(by omega);obtain⟨b,off,rfl,x0,x2⟩:=(Hp.out.zO9 hb).zPC rA;have eA:=zC wr (.cells #[.int .i64 (f k),.int .i64 (g k)] 61);have iA:=zT (Hy.out.zO9 eA);have gA:=zT (Ho.out.zO9 eA);have dA:=zA hb eA;have tA:=hb.size;have vA:(wr.alloc (.cells #[.int .i64 (f k),.int .i64 (g k)] 61)).heap.size=wr.heap.size+1:=World.size_alloc _ _;have HN:=zT (World.news_of_block (heap_alloc_last wr (.cells #[.int .i64 (f k),.int .i64 (g k)] 61)));clear eA;by_cases hq:t<g k
   ·have ey:zy f g t (k+1)=zy f g t k ++ [(f k,g k)]:=if_pos hq;have eo:zAJ f g t (k+1)=zAJ f g t k:=if_pos hq;go_wp2_with (first
     | (at_builtin;refine wpList_append_lies _ rfl _ _ 62 rfl w.heap.size 61 i0 (.agg #[.int .i64 0,.int .i64 0]) 2 16 (by kernel_rfl) HI.out.1 HI.out.2.1 HI.out.2.2.1 HI.out.2.2.2 rfl (by decide) _ _ _ rfl iA.out ⟨wr.heap.size,0,none⟩ 1 1 [.int .i64 (f k),.int .i64 (g k)] rfl rfl HN.out (by simp[Value.oneCell']) (by decide) (by unfold maxLen;omega) (by omega) (by omega) _ rfl ?_;intro g' jA w4 bA aA cA lA)
     | go_in)
    go_roundw
    case rel=>
     obtain⟨r1,r2,r3⟩:=zBW gA.out fA.out bA aA cA;exact⟨k+1,by omega,by go_num,by rw[ey];exact r1,by rw[eo];exact r2,r3,dA.grown aA dA.size (fun q hq=>(iA.out.lt hq).1)⟩
    case measure=>simp[intOf];omega
   ·have ey:zy f g t (k+1)=zy f g t k:=if_neg hq;have eo:zAJ f g t (k+1)=zAJ f g t k ++ [(f k,g k)]:=if_neg hq;go_wp2_with (first
     | (at_builtin;refine wpList_append_lies _ rfl _ _ 62 rfl w.heap.size 61 i0 (.agg #[.int .i64 0,.int .i64 0]) 2 16 (by kernel_rfl) HI.out.1 HI.out.2.1 HI.out.2.2.1 HI.out.2.2.2 rfl (by decide) _ _ _ rfl gA.out ⟨wr.heap.size,0,none⟩ 1 1 [.int .i64 (f k),.int .i64 (g k)] rfl rfl HN.out (by simp[Value.oneCell']) (by decide) (by unfold maxLen;omega) (by omega) (by omega) _ rfl ?_;intro g' jA w4 bA aA cA lA)
     | go_in)
    go_roundw
    case rel=>
     obtain⟨r1,r2,r3⟩:=zBW iA.out (fun q h h'=>fA.out q h' h) bA aA cA;exact⟨k+1,by omega,by go_num,by rw[ey];exact r2,by rw[eo];exact r1,fun q h h'=>r3 q h' h,dA.grown aA dA.size (fun q hq=>(gA.out.lt hq).1)⟩
    case measure=>simp[intOf];omega
  ·obtain rfl:k=n:=(by omega);go_wp2
   go_ret2
   exact⟨_,_,rfl,Hy.out,Ho.out,fA.out,hb⟩
theorem zM1{W:zE}{x s b t:Int}(h:zIY W x s b t)(h0:¬∃k,qM W 0 k):t=(zK W x).time:=by
 rcases h with⟨k,_,hk,_,_,rfl⟩ | ⟨hx,_,_,rfl⟩
 ·rw[qx hk]
 ·have e:zK W x=yG:=by
   unfold zK;rw[dif_neg];rintro⟨k,hk⟩;rcases hx with rfl | hx
   ·exact h0 ⟨k,hk⟩
   ·exact hx k hk.1 hk.2.1
  rw[e];rfl
end Go.Proofs.YtmgeglgboadfiaaGreatDoor

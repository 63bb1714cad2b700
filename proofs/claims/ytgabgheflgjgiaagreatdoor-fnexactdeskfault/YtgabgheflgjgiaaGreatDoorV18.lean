/- A part of the proof. -/
import Derived.Test.YtgabgheflgjgiaaGreatDoorV17
import Derived.Stop.IfaceNil
set_option linter.unusedVariables false
set_option maxRecDepth 20000
set_option maxHeartbeats 4000000
namespace Go.Proofs.YtgabgheflgjgiaaGreatDoor
open Go.RowKit
def zW(p:zI):List (Int×Int)->zI
 | []=>p
 | x :: l=>zW (zBq p x.1) l
def zAt(p:zI)(l:List (Int×Int)):Prop:=zt p/\(∀x,x∈l->zy p x.1 x.2/\¬Has p.hn p.h x.1)/\(l.map Prod.fst).Nodup
theorem zEn(x:Int×Int):∀(l:List (Int×Int)) (p:zI),zW p (l ++ [x])=zBq (zW p l) x.1
 | [],_=>rfl
 | y :: l,p=>zEn x l (zBq p y.1)
theorem zHg:∀(l:List (Int×Int)) (p:zI),(zW p l).n=p.n/\(zW p l).s=p.s/\(zW p l).hn=p.hn+l.length
 | [],_=>⟨rfl,rfl,rfl⟩
 | y :: l,p=>by
  obtain⟨h1,h2,h3⟩:=zHg l (zBq p y.1);refine⟨h1,h2,?_⟩;show(zW (zBq p y.1) l).hn=_;rw[h3,List.length_cons];show p.hn+1+l.length=_;omega
theorem zD2(f g:Nat->Int)(t:Int):∀k,(yh f g t k).Sublist ((List.range k).map fun i=>(f i,g i))
 | 0=>List.Sublist.refl _
 | k+1=>by
  rw[List.range_succ,List.map_append,List.map_singleton];unfold yh;split
  ·exact(zD2 f g t k).append (List.Sublist.refl _)
  ·exact(zD2 f g t k).trans (List.sublist_append_left _ _)
theorem zAt.sub{p:zI}{l l':List (Int×Int)}(h:zAt p l)(hs:l'.Sublist l):zAt p l':=⟨h.1,fun x hx=>h.2.1 x (hs.subset hx),List.Nodup.sublist (hs.map _) h.2.2⟩
theorem zAt.tree{p:zI}{rs rb:Int}(hR:zt p)(hT:qQ p rs rb):zAt p (zY p rs rb):=by
 refine⟨hR,fun x hx=>?_,?_⟩
 ·have:=zBk hR hT hx;exact⟨this.1,this.2.2⟩
 ·rcases hT with h | h
  ·rw[zY,if_pos h];exact List.nodup_nil
  ·exact h.2.2
section
variable {P : Program} {md : Region.Mode} {ops : Array Oper} {Q : Exit -> Act -> World -> Prop} {S G : World -> Prop}
end
theorem zMl(l:List (Int×Int)):((List.range l.length).map fun i=>(zg l i,zj l i))=l:=by
 refine List.ext_getElem (by simp) (fun i h1 h2=>?_);rw[List.getElem_map,List.getElem_range];unfold zg zj;rw[List.getD_eq_getElem?_getD,List.getElem?_eq_getElem h2];rfl
noncomputable def q9(W:zH)(s:zu):List (Int×Int):=yh (zg (zY W.zOa s.rs s.rb)) (zj (zY W.zOa s.rs s.rb)) (zN W s.zOg).time (zY W.zOa s.rs s.rb).length
theorem zNb{W:zH}{s:zu}(hR:zt W.zOa)(hT:qQ W.zOa s.rs s.rb):zAt W.zOa (q9 W s):=by
 refine(zAt.tree hR hT).sub ?_;have:=zD2 (zg (zY W.zOa s.rs s.rb)) (zj (zY W.zOa s.rs s.rb)) (zN W s.zOg).time (zY W.zOa s.rs s.rb).length
 rwa [zMl]at this
open Go.Maps
theorem zE2(w:World){b b':Nat}(o o':Nat)(u u':Value)(hne:b≠b'):(w.setCell ⟨b,o,none⟩ u).setCell ⟨b',o',none⟩ u'=(w.setCell ⟨b',o',none⟩ u').setCell ⟨b,o,none⟩ u:=by
 unfold World.setCell;congr 1;refine Array.ext_getElem? fun i=>?_
 simp only[Array.getElem?_modify];by_cases h1:b=i
 ·have h2:¬b'=i:=(by omega);simp[h1,h2]
 ·simp[h1]
theorem qK.nth{w:World}{bs n:Nat}{kb:Nat->Nat}{kv:Nat->Value}{v:Value}{f:Nat->zu}(h:qK w bs kb kv v n f){k:Nat}(hk:k<n):∃off c,v = .slice (some ⟨bs,off,none⟩) n c/\qx w bs (off+k*6) (kb k) (kv k) (f k):=by
 obtain⟨_,a,c,hv,_,hx⟩:=h;obtain⟨off,ha,h⟩:=hx (by omega);exact⟨off,c,by rw[hv,ha],h k hk⟩
theorem zIn{w:World}{bs o nb:Nat}{f:Nat->zd}{kv:Nat->Value}{i:Nat}(h:yA w bs o nb (kv i) (f i)):∀r,r<8->w.cell? ⟨bs,o+r,none⟩=some (cellSnap f kv i r)
 | 0,_=>h.c0.1
 | 1,_=>h.c1.1
 | 2,_=>h.c2.1
 | 3,_=>h.c3.1
 | 4,_=>h.c4.1
 | 5,_=>h.c5.1
 | 6,_=>h.c6.1
 | 7,_=>h.c7.1
 | n+8,h=>absurd h (by omega)
theorem zEy{w:World}{b:Nat}{v:Value}{n:Nat}{fs fb:Nat->Int}(h:ze w b v n fs fb):v.oneCell'=true:=by
 obtain⟨_,a,c,rfl,_⟩:=h;rfl
theorem zJQ(w:World)(lo hi:Nat){P Q R:Nat->Prop}{v0 v1 v3:Value}{b2 aA c2:Nat}{W:zH}(lB:zCC w P Q R v0 v1 (.slice (some ⟨b2,aA,none⟩) W.sn c2) v3 W)(hlt:∀j,P j\/Q j\/R j->lo<=j/\j<hi)(rB:hi<=w.heap.size)(tB:lo<=w.heap.size){k:Nat}(hk:k<W.sn)(hp:W.pn<20)(name set:ByteArray)(hn:name.size<=maxLen)(hs:set.size<=maxLen)(ty:TypeId) :
  ∃dv nb,qx w b2 (aA+k*6) nb dv (W.zOd k)/\lo<=b2/\b2<hi/\∃g cap w',(Builtin.append_ #[38,38] ty #[v3,.slice (some ⟨w.heap.size,0,none⟩) 1 1]).run Tryz.prog (w.alloc (.cells #[.int .i64 W.next,.string name,.string set,.int .i64 (W.zOd k).zOg,.int .i64 W.time,.int .i64 (W.zOd k).rs,.int .i64 (W.zOd k).rb,dv] 111)) = .ok (.slice (some ⟨g,0,none⟩) (W.pn+1) cap) w'/\zE (fun j=>lo<=j/\j<hi/\j≠b2) w w'/\w.heap.size<w'.heap.size/\
   zAE ((w'.setCell ⟨b2,aA+k*6+2,none⟩ (.int .i64 W.next)).setCell ⟨b2,aA+k*6+5,none⟩ (.slice none 0 0)) lo hi (w.heap.size+1) w'.heap.size v0 v1 (.slice (some ⟨b2,aA,none⟩) W.sn c2) (.slice (some ⟨g,0,none⟩) (W.pn+1) cap) (zCL W k name set):=by
 obtain⟨hP,⟨bs,oB,bA,hS,eB,nA,-,-⟩,⟨fA,vB,cB,hZ,fB,pA,oA,-⟩,pq,pr,qr⟩:=lB;obtain⟨off,c,hv,aB⟩:=hS.nth hk;simp only[Value.slice.injEq,Option.some.injEq,Addr.mk.injEq,and_true,true_and]at hv;obtain⟨⟨rfl,rfl⟩,rfl⟩:=hv;have sA:Q b2:=nA _ (Or.inl ⟨by omega,rfl⟩);have dA:=hlt b2 (Or.inr (Or.inl sA));refine⟨bA k,oB k,aB,dA.1,dA.2,?_⟩;have ha:=zC w (.cells #[.int .i64 W.next,.string name,.string set,.int .i64 (W.zOd k).zOg,.int .i64 W.time,.int .i64 (W.zOd k).rs,.int .i64 (W.zOd k).rb,bA k] 111);have hz:(w.alloc (.cells #[.int .i64 W.next,.string name,.string set,.int .i64 (W.zOd k).zOg,.int .i64 W.time,.int .i64 (W.zOd k).rs,.int .i64 (W.zOd k).rb,bA k] 111)).heap.size=w.heap.size+1:=World.size_alloc _ _;have eA:∀j u,(zG7 (zA3 W k name set) (bA k))[j]?=some u->(w.alloc (.cells #[.int .i64 W.next,.string name,.string set,.int .i64 (W.zOd k).zOg,.int .i64 W.time,.int .i64 (W.zOd k).rs,.int .i64 (W.zOd k).rb,bA k] 111)).cell? ((⟨w.heap.size,0,none⟩:Addr).add j)=some u:=fun j u hj=>by
  have e:(⟨w.heap.size,0,none⟩:Addr).add j=⟨w.heap.size,j,none⟩:=by
   unfold Addr.add;split
   ·simp_all
   ·simp
  rw[e];refine(World.cell?_alloc_at _ _ _ _ rfl).trans ?_;rw[<-hj];exact List.getElem?_toArray ..
 have iA:∀u∈zG7 (zA3 W k name set) (bA k),u.oneCell'=true:=fun u hu=>by
  have h1:=zEy aB.zOl;simp only[zG7,List.mem_cons,List.not_mem_nil,or_false]at hu;rcases hu with rfl | rfl | rfl | rfl | rfl | rfl | rfl | rfl<;>first | rfl | exact h1
 obtain⟨i0,kB,bB⟩:=Option.map_eq_some_iff.1 zDs;simp only[Prod.mk.injEq]at bB;obtain⟨nB,mB,gB⟩:=bB;have lA:=hP.zOU ha;have mA:=hS.zOU ha;have gA:=hZ.zOU ha;have tA:0<W.pn->v3.ownBlock=some fA/\R fA:=fun h0=>by
  refine⟨?_,pA _ (Or.inl ⟨h0,rfl⟩)⟩;obtain⟨_,a,c,hv,_,hx⟩:=hZ;obtain⟨off,ha,_⟩:=hx h0;rw[hv,ha];rfl
 generalize w.alloc (.cells #[.int .i64 W.next,.string name,.string set,.int .i64 (W.zOd k).zOg,.int .i64 W.time,.int .i64 (W.zOd k).rs,.int .i64 (W.zOd k).rb,bA k] 111)=wa at ha hz eA lA mA gA ⊢;obtain⟨g,cap,w',row,hr,jA,hg,vA,iB,jB⟩:=zAb.append (P:=Tryz.prog) 38 ty 111 i0 _ 8 96 lo zMw kB nB mB gB rfl (by decide) (oA.zOU ha) (zAd W.zOb cB W.pn)
  (fun h0 g cA=>by
   obtain⟨h1,h2⟩:=tA h0;rw[h1]at cA;injection cA with cA;exact cA▸(hlt _ (Or.inr (Or.inr h2))).1)
  (fun h0 g cA j u hj=>by
   have sB:j<W.pn*8:=by
    have:=(List.getElem?_eq_some_iff.1 hj).1
    rwa [zAd]at this
   obtain⟨_,a,c,hv,_,hx⟩:=gA;obtain⟨off,rA,hall⟩:=hx h0;rcases oA with⟨e,_⟩ | ⟨_,g',dB,pB,kA,_⟩
   ·omega
   ·rw[hv,rA]at kA;simp only[Value.slice.injEq,Option.some.injEq,Addr.mk.injEq,and_true,true_and]at kA;obtain⟨⟨rfl,rfl⟩,rfl⟩:=kA;rw[hv,rA]at cA;obtain rfl:fA=g:=(by injection cA);have hd:j / 8<W.pn:=(by omega);have h8:=zIn (hall (j / 8) hd) (j % 8) (by omega);have e1:0+j / 8*8+j % 8=j:=(by omega);have e2:=zAF W.zOb cB W.pn hd (show j % 8<8 by omega);rw[show j / 8*8+j % 8=j by omega,hj]at e2;rw[e1]at h8;rw[h8,e2])
  ⟨w.heap.size,0,none⟩ 1 1 (zG7 (zA3 W k name set) (bA k)) rfl eA iA (by omega) (by unfold maxLen;omega) (by omega) (by omega)
 refine⟨g,cap,w',hr,?_,by have:=hg.size;omega,?_⟩
 ·refine(zE.zOX ha).trans ((zB0 hg).mono ?_);intro j hj;rcases vA with h | ⟨h0,h⟩
  ·rw[h]at hj;cases hj
  ·obtain⟨h1,h2⟩:=tA h0;rw[h,h1]at hj;injection hj with hj;subst hj;exact⟨(hlt _ (Or.inr (Or.inr h2))).1,(hlt _ (Or.inr (Or.inr h2))).2,fun e=>qr b2 sA (e▸h2)⟩
 ·rw[<-hz];exact zJY (dv:=bA k) lA mA eB nA gA fB pA pq pr qr hlt (by omega) hk (by unfold maxLen;omega) hn hs jA hg vA iB (by omega) jB
open Go.Extern.Stop Go.Stop Go.Extern
theorem zKL{w w':World}{Q:Nat->Prop}{bs off n c:Nat}{kb:Nat->Nat}{kv:Nat->Value}{f:Nat->zu}(hS:qK w bs kb kv (.slice (some ⟨bs,off,none⟩) n c) n f)(bA:qy kb n f)(aA:∀j,yo bs kb n f j->Q j){k:Nat}(hk:k<n){s':zu}(hd:s'.dn=0)(eA:s'.name.size<=maxLen)
  (ht:zE (fun j=>j=bs) w w') (hx:∀j,j<n->j≠k->∀r,r<6->∀u,zT w bs (off+j*6+r) u->zT w' bs (off+j*6+r) u) (hc:∀r,r<6->zT w' bs (off+k*6+r) (cellSet (fun _=>s') (fun _=>.slice none 0 0) 0 r)) :
  zAc w' Q (.slice (some ⟨bs,off,none⟩) n c) n (fun j=>if j=k then s' else f j):=by
 have cA:ze w' (kb k) (.slice none 0 0) s'.dn s'.ds s'.db:=by
  rw[hd];exact⟨Nat.zero_le _,none,0,rfl,Nat.le_refl _,fun h=>absurd h (Nat.lt_irrefl _)⟩
 refine⟨bs,_,_,hS.edit hk ht hx (s':=s') (nb:=kb k) (nv:=.slice none 0 0) ⟨hc 0 (by omega),hc 1 (by omega),hc 2 (by omega),hc 3 (by omega),hc 4 (by omega),hc 5 (by omega),cA,eA,fun h=>by omega⟩,?_,?_⟩
 ·intro i j hi hj dA h1 h2;show(if i=k then kb k else kb i)≠(if j=k then kb k else kb j);by_cases e1:i=k
  ·simp only[if_pos e1]at h1;omega
  ·by_cases e2:j=k
   ·simp only[if_pos e2]at h2;omega
   ·simp only[if_neg e1]at h1;simp only[if_neg e2]at h2;rw[if_neg e1,if_neg e2];exact bA i j hi hj dA h1 h2
 ·rintro j (⟨h0,rfl⟩ | ⟨i,hi,h0,rfl⟩)
  ·exact aA _ (Or.inl ⟨h0,rfl⟩)
  ·by_cases e:i=k
   ·simp only[if_pos e]at h0;omega
   ·simp only[if_neg e]at h0 ⊢;exact aA _ (Or.inr ⟨i,hi,h0,rfl⟩)
noncomputable def zKs(W:zH)(s:zu):zu:={s with rs:=(zN W s.zOg).rs,rb:=(zN W s.zOg).rb,dn:=0}
noncomputable def zKt(W:zH)(k:Nat):zH:={W with zOa:=zW W.zOa (q9 W (W.zOd k)),zOd:=fun j=>if j=k then zKs W (W.zOd k)else W.zOd j}
def yL(W:zH)(name:ByteArray)(w:World)(e:Ending)(w':World):Prop:=∃r o,zCg W (∃i,i<1/\8000<((fun (_:Nat)=>name) i).size) (∃i,i<0/\¬qV ((fun _=>⟨#[]⟩) i)) 2 (fun i=>match i with | 0=>zx W name | _=>(zN W (qi W name).zOg).set=name) (fun i=>match i with | 0=>2 | _=>2) r/\(r=none->∃k,zAN W name k/\o=⟨zKt W k,0,((q9 W (W.zOd k)).length:Int),0⟩)/\zw (zHU r o) w e w'
theorem yL.ill{W:zH}{name:ByteArray}{w w':World}{e:Ending}{i:Nat}(hr:zCg W (∃i,i<1/\8000<((fun (_:Nat)=>name) i).size) (∃i,i<0/\¬qV ((fun _=>⟨#[]⟩) i)) 2 (fun i=>match i with | 0=>zx W name | _=>(zN W (qi W name).zOg).set=name) (fun i=>match i with | 0=>2 | _=>2) (some i))(h:zw (yB (zEO i)) w e w'):yL W name w e w':=⟨some i,yB 0,hr,fun e=>(by cases e),h⟩
def del{α : Type}(f:Nat->α)(k:Nat):Nat->α:=fun i=>if i<k then f i else f (i+1)
theorem zMt{w:World}{bs o nb:Nat}{f:Nat->zu}{kv:Nat->Value}{i:Nat}(h:qx w bs o nb (kv i) (f i)):∀r,r<6->zT w bs (o+r) (cellSet f kv i r)
 | 0,_=>h.c0
 | 1,_=>h.c1
 | 2,_=>h.c2
 | 3,_=>h.c3
 | 4,_=>h.c4
 | 5,_=>h.c5
 | n+6,h=>absurd h (by omega)
theorem zGW{α : Type}{f:Nat->α}{k i:Nat}(h:i<k):del f k i=f i:=if_pos h
theorem zGV{α : Type}{f:Nat->α}{k i:Nat}(h:¬i<k):del f k i=f (i+1):=if_neg h
noncomputable def zKb(W:zH)(k:Nat):zH:={W with zOa:=zW W.zOa (q9 W (W.zOd k)),sn:=W.sn - 1,zOd:=del W.zOd k}
def qv(W:zH)(name:ByteArray)(w:World)(e:Ending)(w':World):Prop:=∃r o,zCg W (∃i,i<1/\8000<((fun (_:Nat)=>name) i).size) (∃i,i<0/\¬qV ((fun _=>⟨#[]⟩) i)) 2 (fun i=>match i with | 0=>zx W name | _=>¬∃i,i<W.pn/\(W.zOb i).set=name) (fun i=>match i with | 0=>2 | _=>5) r/\(r=none->∃k,zAN W name k/\o=⟨zKb W k,0,((q9 W (W.zOd k)).length:Int),0⟩)/\zw (zHU r o) w e w'
theorem qv.ill{W:zH}{name:ByteArray}{w w':World}{e:Ending}{i:Nat}(hr:zCg W (∃i,i<1/\8000<((fun (_:Nat)=>name) i).size) (∃i,i<0/\¬qV ((fun _=>⟨#[]⟩) i)) 2 (fun i=>match i with | 0=>zx W name | _=>¬∃i,i<W.pn/\(W.zOb i).set=name) (fun i=>match i with | 0=>2 | _=>5) (some i))(h:zw (yB (zEO i)) w e w'):qv W name w e w':=⟨some i,yB 0,hr,fun e=>(by cases e),h⟩
def zCN(f:Nat->Int)(x:Int):Nat->Nat
 | 0=>0
 | k+1=>zCN f x k+(if f k=x then 1 else 0)
theorem zDS{f:Nat->Int}{x:Int}{k:Nat}(h:f k=x):zCN f x (k+1)=zCN f x k+1:=by simp[zCN,h]
theorem zEk{f:Nat->Int}{x:Int}{k:Nat}(h:¬f k=x):zCN f x (k+1)=zCN f x k:=by simp[zCN,h]
theorem zIJ(f:Nat->Int)(x:Int):∀k,zCN f x k<=k
 | 0=>Nat.le_refl _
 | k+1=>by
  have:=zIJ f x k;by_cases h:f k=x
  ·rw[zDS h];omega
  ·rw[zEk h];omega
def zCb(W:zH)(x:Int):Nat:=zCN (fun i=>(W.zOd i).zOg) x W.sn+zCN (fun i=>(W.zOb i).zOg) x W.pn
theorem zIQ(v0 v1 v2 v3:Value)(lo hi:Nat)(W:zH)(x:Int)(w:World)(h:zr w lo hi v0 v1 v2 v3 W)(hs:W.sn<=8)(hp:W.pn<=20) :
  Calls Tryz.prog 53 #[qT v0 v1 v2 v3 W,.int .i64 x] w fun e w'=>e = .returned (.int .i64 (zCb W x))/\Below w.heap.size w w':=by
 have Hp:=zB h;obtain⟨m1,a,c,rfl,mc,-⟩:=id h.zOb;obtain⟨m2,a',c',rfl,iA,-⟩:=id h.zOd;clear h m1 m2;have ha:=zC w (.cells #[v0,v1,.int .i64 W.time,.int .i64 W.next,.slice a' W.sn c',.slice a W.pn c] 40);have HB:=zB (za.zOY w v0 v1 (.int .i64 W.time) (.int .i64 W.next) (.slice a' W.sn c') (.slice a W.pn c) 40);go_enter Tryz.func53,Tryz.ntmps53;go_wp2
 go_loopw [5,6] (fun m i wr=>∃k:Nat,k<=W.sn/\i = .int .i64 k/\m = .int .i64 (zCN (fun i=>(W.zOd i).zOg) x k)/\za wr w.heap.size v0 v1 (.int .i64 W.time) (.int .i64 W.next) (.slice a' W.sn c') (.slice a W.pn c)/\Below w.heap.size w wr) (fun _ i _=>W.sn - (intOf i).toNat)
 case atStart=>exact⟨0,Nat.zero_le _,rfl,rfl,HB.out,ha⟩
 case round=>
  obtain⟨k,hk,rfl,rfl,hX,hb⟩:=hrel;have HX:=zB hX;have fA:=zIJ (fun i=>(W.zOd i).zOg) x k;have dA:(zCN (fun i=>(W.zOd i).zOg) x k:Int)<=8:=(by omega);clear hX;obtain⟨⟨x0,x1⟩,⟨x2,x3⟩,⟨x4,x5⟩,⟨x6,x7⟩,⟨x8,x9⟩,⟨bA,cA⟩⟩:=HX.out;by_cases hlt:k<W.sn
  ·have aA:(k:Int)<(W.sn:Int):=(by omega);obtain⟨b,off,vd,rfl,hs⟩:=(Hp.out.zOd.zOU hb).cells hlt;have q0:=hs.c2;clear hs;by_cases he:(W.zOd k).zOg=x
   ·have H:=zB he;rw[he]at q0;clear he;go_wp2;go_roundw
    case rel=>exact⟨k+1,by omega,by go_num,by rw[zDS H.out];go_num,HX.out,hb⟩
    case measure=>simp[intOf];omega
   ·have H:=zB he;have e0:((W.zOd k).zOg == x)=false:=(by simp[he]);clear he;go_wp2;go_roundw
    case rel=>exact⟨k+1,by omega,by go_num,by rw[zEk H.out],HX.out,hb⟩
    case measure=>simp[intOf];omega
  ·obtain rfl:k=W.sn:=(by omega);go_wp2
   go_loopw [5,7] (fun m i wr=>∃k:Nat,k<=W.pn/\i = .int .i64 k/\m = .int .i64 ((zCN (fun i=>(W.zOd i).zOg) x W.sn:Int)+(zCN (fun i=>(W.zOb i).zOg) x k:Int))/\za wr w.heap.size v0 v1 (.int .i64 W.time) (.int .i64 W.next) (.slice a' W.sn c') (.slice a W.pn c)/\Below w.heap.size w wr) (fun _ i _=>W.pn - (intOf i).toNat)
   case atStart=>exact⟨0,Nat.zero_le _,rfl,by simp[zCN],HX.out,hb⟩
   case round=>
    clear x0 x1 x2 x3 x4 x5 x6 x7 x8 x9 bA cA HX hb;obtain⟨k,hk,rfl,rfl,hX,hb⟩:=hrel;have HX:=zB hX;have gA:=zIJ (fun i=>(W.zOb i).zOg) x k;have eA:(zCN (fun i=>(W.zOb i).zOg) x k:Int)<=20:=(by omega);clear hX;obtain⟨⟨x0,x1⟩,⟨x2,x3⟩,⟨x4,x5⟩,⟨x6,x7⟩,⟨x8,x9⟩,⟨bA,cA⟩⟩:=HX.out;by_cases hlt:k<W.pn
    ·have aA:(k:Int)<(W.pn:Int):=(by omega);obtain⟨b,off,vd,rfl,hs⟩:=(Hp.out.zOb.zOU hb).cells hlt;have q0:=hs.c3;clear hs;by_cases he:(W.zOb k).zOg=x
     ·have H:=zB he;rw[he]at q0;clear he;go_wp2;go_roundw
      case rel=>exact⟨k+1,by omega,by go_num,by rw[zDS H.out];go_num,HX.out,hb⟩
      case measure=>simp[intOf];omega
     ·have H:=zB he;have e0:((W.zOb k).zOg == x)=false:=(by simp[he]);clear he;go_wp2;go_roundw
      case rel=>exact⟨k+1,by omega,by go_num,by rw[zEk H.out],HX.out,hb⟩
      case measure=>simp[intOf];omega
    ·obtain rfl:k=W.pn:=(by omega);go_wp2;go_ret;exact⟨by unfold zCb;rw[Int.natCast_add];rfl,hb⟩
def yr(n:Nat)(f g:Nat->Int):List (Int×Int):=(List.range n).map fun i=>(f i,g i)
theorem zAJ(n:Nat)(f g:Nat->Int):(yr n f g).length=n:=by
 unfold yr;rw[List.length_map,List.length_range]
theorem zGv{n:Nat}(f g:Nat->Int){i:Nat}(hi:i<n):zg (yr n f g) i=f i/\zj (yr n f g) i=g i:=by
 unfold zg zj yr;rw[List.getD_eq_getElem?_getD,List.getElem?_map,List.getElem?_range hi];exact⟨rfl,rfl⟩
theorem zJJ(f g:Nat->Int)(t:Int):∀n,(zDg f g t n).length<=n
 | 0=>Nat.le_refl _
 | n+1=>by
  have:=zJJ f g t n;unfold zDg;split
  ·omega
  ·rw[List.length_append,List.length_singleton];omega
def zHa(W:zH)(x:Int)(i:Nat):Prop:=i<W.pn/\(W.zOb i).zOg=x/\(∀j,j<W.pn->j≠i->(W.zOb j).zOg≠x)/\∀j,j<W.sn->(W.zOd j).zOg≠x
def zGH(W:zH)(x:Int)(i:Nat):Prop:=i<W.sn/\(W.zOd i).zOg=x/\(∀j,j<W.sn->j≠i->(W.zOd j).zOg≠x)/\∀j,j<W.pn->(W.zOb j).zOg≠x
theorem zCo{f:Nat->Int}{x:Int}:∀{n:Nat},zCN f x n=0->∀j,j<n->f j≠x
 | 0,_,j,hj=>absurd hj (Nat.not_lt_zero _)
 | n+1,h,j,hj=>by
  by_cases e:f n=x
  ·rw[zDS e]at h;omega
  ·rw[zEk e]at h;by_cases aA:j=n
   ·rw[aA];exact e
   ·exact zCo h j (by omega)
theorem zIy{f:Nat->Int}{x:Int}{n i:Nat}(hi:i<n)(h:f i=x):1<=zCN f x n:=by
 rcases Nat.eq_zero_or_pos (zCN f x n)with h0 | h0
 ·exact absurd h (zCo h0 i hi)
 ·exact h0
theorem zGP{f:Nat->Int}{x:Int}:∀{n:Nat},zCN f x n=1->∃i,i<n/\f i=x/\∀j,j<n->j≠i->f j≠x
 | 0,h=>absurd h (by simp[zCN])
 | n+1,h=>by
  by_cases e:f n=x
  ·rw[zDS e]at h;exact⟨n,by omega,e,fun j hj hne=>zCo (n:=n) (by omega) j (by omega)⟩
  ·rw[zEk e]at h;obtain⟨i,hi,h1,h2⟩:=zGP h;refine⟨i,by omega,h1,fun j hj hne=>?_⟩;by_cases aA:j=n
   ·rw[aA];exact e
   ·exact h2 j (by omega) hne
theorem zNU{W:zH}{x:Int}(h:zCb W x=1):(∃i,zHa W x i)\/∃i,zGH W x i:=by
 unfold zCb at h;rcases Nat.eq_zero_or_pos (zCN (fun i=>(W.zOd i).zOg) x W.sn)with h0 | h0
 ·rw[h0,Nat.zero_add]at h;obtain⟨i,hi,h1,h2⟩:=zGP h;exact Or.inl ⟨i,hi,h1,h2,zCo h0⟩
 ·obtain⟨i,hi,h1,h2⟩:=zGP (f:=fun i=>(W.zOd i).zOg) (x:=x) (n:=W.sn) (by omega);exact Or.inr ⟨i,hi,h1,h2,zCo (f:=fun i=>(W.zOb i).zOg) (n:=W.pn) (by omega)⟩
theorem zHr(W:zH)(name:ByteArray){a:Nat}:∀{b:Nat},a<=b->zAL W name a<=zAL W name b
 | 0,h=>by cases (show a=0 from by omega);exact Nat.le_refl _
 | b+1,h=>by
  by_cases e:a=b+1
  ·rw[e];exact Nat.le_refl _
  ·have:=zHr W name (show a<=b by omega);by_cases hq:(W.zOb b).set=name
   ·rw[zEw hq];omega
   ·rw[zId hq];exact this
theorem zIc{W:zH}{name:ByteArray}{a b:Nat}(h:a<b)(ha:(W.zOb a).set=name):zAL W name a<zAL W name b:=by
 have:=zHr W name (show a+1<=b by omega);rw[zEw ha]at this;omega
theorem zJb{W:zH}{name:ByteArray}{aA:Int}:∀{n:Nat} {e:Int},Steps W name aA n e->∀m,m<n->∃x k,Steps W name aA m x/\qo W x k/\(W.zOb k).set=name
 | 0,_,_,m,hm=>absurd hm (Nat.not_lt_zero _)
 | n+1,_,.next (x:=x) (k:=k) h hk hs,m,hm=>by
  by_cases e:m=n
  ·rw[e];exact⟨x,k,h,hk,hs⟩
  ·exact zJb h m (by omega)
theorem zEY{W:zH}{name:ByteArray}{aA:Int}(hl:∀k,k<W.pn->(W.zOb k).zOg<(W.zOb k).id):∀{n:Nat} {x:Int},Steps W name aA n x->∀{m:Nat} {y:Int},Steps W name aA m y->m<n->x<y
 | 0,_,_,m,_,_,hm=>absurd hm (Nat.not_lt_zero _)
 | n+1,_,.next (x:=x) (k:=k) h hk hs,m,y,hy,hm=>by
  have h1:=hl k hk.1;have h2:=hk.2.1;by_cases e:m=n
  ·subst e;have:=Steps.det h hy;omega
  ·have:=zEY hl h hy (by omega);omega
open Classical in
theorem zNc{W:zH}{name:ByteArray}{aA zOf:Int}(hl:∀k,k<W.pn->(W.zOb k).zOg<(W.zOb k).id)(hL:zB9 W name aA zOf){k:Nat}(hk:k<W.pn)(hs:(W.zOb k).set=name):∃m,Steps W name aA m (W.zOb k).id:=by
 refine Classical.byContradiction fun bA=>?_
 obtain⟨n,e,cA,-,hn,-⟩:=hL;have key:∀m,∃i,i<W.pn/\(W.zOb i).set=name/\(m<n->Steps W name aA m (W.zOb i).id)/\(¬m<n->i=k):=fun m=>by
  by_cases hm:m<n
  ·obtain⟨x,i,h1,h2,h3⟩:=zJb cA m hm;exact⟨i,h2.1,h3,fun _=>by rw[h2.2.1];exact h1,fun h=>absurd hm h⟩
  ·exact⟨k,hk,hs,fun h=>absurd h hm,fun _=>rfl⟩
 have:=zKq (n+1) (zAL W name W.pn) (fun m=>zAL W name (key m).choose) (fun i _=>zIc (key i).choose_spec.1 (key i).choose_spec.2.1) (fun i j hi hj e=>by
  have ki:=(key i).choose_spec;have kj:=(key j).choose_spec;have e2:(key i).choose=(key j).choose:=by
   rcases Nat.lt_trichotomy (key i).choose (key j).choose with h | h | h
   ·have:=zIc h ki.2.1;omega
   ·exact h
   ·have:=zIc h kj.2.1;omega
  by_cases h1:i<n
  ·by_cases h2:j<n
   ·have a:=ki.2.2.1 h1;have b:=kj.2.2.1 h2;rw[e2]at a;rcases Nat.lt_trichotomy i j with h | h | h
    ·have:=zEY hl b a h;omega
    ·exact h
    ·have:=zEY hl a b h;omega
   ·exact absurd ⟨i,by have a:=ki.2.2.1 h1;rw[e2,kj.2.2.2 h2]at a;exact a⟩ bA
  ·by_cases h2:j<n
   ·exact absurd ⟨j,by have a:=kj.2.2.1 h2;rw[<-e2,ki.2.2.2 h1]at a;exact a⟩ bA
   ·omega)
 omega
theorem zMb{W:zH}(hI:zEf W){x:Int}(h:qL W x):1<=zCb W x:=by
 obtain⟨k,hk,rfl⟩:=h;obtain⟨i,hi,e⟩:=(hI.zOj.zOb.2.1 k hk).1;obtain⟨m,hm⟩:=zNc (fun k hk=>(hI.zOj.zOb.2.1 k hk).2.2.1) (hI.lines i hi) hk e.symm;unfold zCb;generalize hx:(W.zOb k).id=x at hm;cases hm with
 | zero=>
  have:=zIy (f:=fun i=>(W.zOd i).zOg) hi rfl;omega
 | next h hk' hs'=>
  have:=zIy (f:=fun i=>(W.zOb i).zOg) hk'.1 rfl;omega
noncomputable def sdY(W:zH)(g:zd)(n:Nat)(f h:Nat->Int):List (Int×Int):=yh f h (zN W g.zOg).time n
noncomputable def sdO(W:zH)(g:zd)(n:Nat)(f h:Nat->Int):List (Int×Int):=zDg f h (zN W g.zOg).time n
noncomputable def sdD(W:zH)(g:zd)(n:Nat)(f h:Nat->Int):List (Int×Int):=yr g.dn g.ds g.db ++ sdO W g n f h
noncomputable def zMs(W:zH)(g s:zd):zd:={s with zOg:=g.zOg,dn:=(sdD W g s.dn s.ds s.db).length,ds:=zg (sdD W g s.dn s.ds s.db),db:=zj (sdD W g s.dn s.ds s.db)}
noncomputable def zNk(W:zH)(g:zd)(s:zu):zu:={s with zOg:=g.zOg,dn:=(sdD W g s.dn s.ds s.db).length,ds:=zg (sdD W g s.dn s.ds s.db),db:=zj (sdD W g s.dn s.ds s.db)}
noncomputable def zGx(W:zH)(k i:Nat):Nat->zd:=fun j=>if j=i then zMs W (W.zOb k) (W.zOb i)else W.zOb j
noncomputable def zHV(W:zH)(k i:Nat):Nat->zu:=fun j=>if j=i then zNk W (W.zOb k) (W.zOd i)else W.zOd j
noncomputable def zGy(W:zH)(k i:Nat):List (Int×Int):=sdY W (W.zOb k) (W.zOb i).dn (W.zOb i).ds (W.zOb i).db
noncomputable def zFO(W:zH)(k i:Nat):List (Int×Int):=sdY W (W.zOb k) (W.zOd i).dn (W.zOd i).ds (W.zOd i).db
noncomputable def zOK(W:zH)(k i:Nat):zH:={W with zOa:=zW W.zOa (zGy W k i),pn:=W.pn - 1,zOb:=del (zGx W k i) k}
noncomputable def zOL(W:zH)(k i:Nat):zH:={W with zOa:=zW W.zOa (zFO W k i),zOd:=zHV W k i,pn:=W.pn - 1,zOb:=del W.zOb k}
theorem zLZ{n:Nat}{f g:Nat->Int}{x:Int×Int}(h:x∈yr n f g):∃j,j<n/\f j=x.1/\g j=x.2:=by
 unfold yr at h;obtain⟨j,hj,rfl⟩:=List.mem_map.1 h;exact⟨j,List.mem_range.1 hj,rfl,rfl⟩
theorem zHf{W:zH}(hS:zBp W){i:Nat}(hi:i<qf W)(t:Int):zCf (zc W i).dn (zc W i).ds (zc W i).db/\zAt W.zOa (yh (zc W i).ds (zc W i).db t (zc W i).dn):=by
 have hD:zB7 W i:=by
  by_cases hp:i<W.pn
  ·exact hS.zOl i hp
  ·have:=(hS.zOd (i - W.pn) (by unfold qf at hi;omega)).2
   rwa [show W.pn+(i - W.pn)=i by omega]at this
 obtain⟨h1,-,-,bA⟩:=hD;refine⟨h1,?_⟩;have hH:zAt W.zOa (yr (zc W i).dn (zc W i).ds (zc W i).db):=by
  refine⟨hS.right,fun x hx=>?_,?_⟩
  ·obtain⟨j,hj,e1,e2⟩:=zLZ hx;have hm:=zCt.1 (bA j hj);rw[e1,e2]at hm;unfold zCG at hm;have:=zBk hS.right (zKH hS.zOb (zc W i).zOg) (List.mem_filter.1 hm).1;exact⟨this.1,this.2.2⟩
  ·unfold yr;rw[List.map_map];unfold List.Nodup;rw[List.pairwise_map];refine List.pairwise_iff_getElem.2 fun a b ha hb aA=>?_
   rw[List.length_range]at ha hb;rw[List.getElem_range,List.getElem_range];exact fun e=>h1.2.2 b hb a aA e
 exact hH.sub (zD2 _ _ _ _)
end Go.Proofs.YtgabgheflgjgiaaGreatDoor

/- A part of the proof. -/
import Derived.Test.YtgabgheflgjgiaaGreatDoorU17
import Derived.Stop.IfaceNil
set_option linter.unusedVariables false
set_option maxRecDepth 20000
set_option maxHeartbeats 4000000
namespace Go.Proofs.YtgabgheflgjgiaaGreatDoor
open Go.RowKit
def zW(p:zI):List (Int×Int)->zI
 | []=>p
 | x :: l=>zW (zBs p x.1) l
def zAu(p:zI)(l:List (Int×Int)):Prop:=zt p/\(∀x,x∈l->zy p x.1 x.2/\¬Has p.hn p.h x.1)/\(l.map Prod.fst).Nodup
theorem zEv(x:Int×Int):∀(l:List (Int×Int)) (p:zI),zW p (l ++ [x])=zBs (zW p l) x.1
 | [],_=>rfl
 | y :: l,p=>zEv x l (zBs p y.1)
theorem zHs:∀(l:List (Int×Int)) (p:zI),(zW p l).n=p.n/\(zW p l).s=p.s/\(zW p l).hn=p.hn+l.length
 | [],_=>⟨rfl,rfl,rfl⟩
 | y :: l,p=>by
  obtain⟨h1,h2,h3⟩:=zHs l (zBs p y.1);refine⟨h1,h2,?_⟩;show(zW (zBs p y.1) l).hn=_;rw[h3,List.length_cons];show p.hn+1+l.length=_;omega
theorem zD8(f g:Nat->Int)(t:Int):∀k,(yh f g t k).Sublist ((List.range k).map fun i=>(f i,g i))
 | 0=>List.Sublist.refl _
 | k+1=>by
  rw[List.range_succ,List.map_append,List.map_singleton];unfold yh;split
  ·exact(zD8 f g t k).append (List.Sublist.refl _)
  ·exact(zD8 f g t k).trans (List.sublist_append_left _ _)
theorem zAu.sub{p:zI}{l l':List (Int×Int)}(h:zAu p l)(hs:l'.Sublist l):zAu p l':=⟨h.1,fun x hx=>h.2.1 x (hs.subset hx),List.Nodup.sublist (hs.map _) h.2.2⟩
theorem zAu.tree{p:zI}{rs rb:Int}(hR:zt p)(hT:qQ p rs rb):zAu p (zY p rs rb):=by
 refine⟨hR,fun x hx=>?_,?_⟩
 ·have:=zBm hR hT hx;exact⟨this.1,this.2.2⟩
 ·rcases hT with h | h
  ·rw[zY,if_pos h];exact List.nodup_nil
  ·exact h.2.2
section
variable {P : Program} {md : Region.Mode} {ops : Array Oper} {Q : Exit -> Act -> World -> Prop} {S G : World -> Prop}
end
theorem zM3(l:List (Int×Int)):((List.range l.length).map fun i=>(zg l i,zj l i))=l:=by
 refine List.ext_getElem (by simp) (fun i h1 h2=>?_);rw[List.getElem_map,List.getElem_range];unfold zg zj;rw[List.getD_eq_getElem?_getD,List.getElem?_eq_getElem h2];rfl
noncomputable def q9(W:zH)(s:zu):List (Int×Int):=yh (zg (zY W.zOv s.rs s.rb)) (zj (zY W.zOv s.rs s.rb)) (zN W s.zO0).time (zY W.zOv s.rs s.rb).length
theorem zNu{W:zH}{s:zu}(hR:zt W.zOv)(hT:qQ W.zOv s.rs s.rb):zAu W.zOv (q9 W s):=by
 refine(zAu.tree hR hT).sub ?_;have:=zD8 (zg (zY W.zOv s.rs s.rb)) (zj (zY W.zOv s.rs s.rb)) (zN W s.zO0).time (zY W.zOv s.rs s.rb).length
 rwa [zM3]at this
open Go.Maps
theorem zFA(w:World){b b':Nat}(o o':Nat)(u u':Value)(aA:b≠b'):(w.setCell ⟨b,o,none⟩ u).setCell ⟨b',o',none⟩ u'=(w.setCell ⟨b',o',none⟩ u').setCell ⟨b,o,none⟩ u:=by
 unfold World.setCell;congr 1;refine Array.ext_getElem? fun i=>?_
 simp only[Array.getElem?_modify];by_cases h1:b=i
 ·have h2:¬b'=i:=(by omega);simp[h1,h2]
 ·simp[h1]
theorem qK.nth{w:World}{bs n:Nat}{kb:Nat->Nat}{kv:Nat->Value}{v:Value}{f:Nat->zu}(h:qK w bs kb kv v n f){k:Nat}(hk:k<n):∃off c,v = .slice (some ⟨bs,off,none⟩) n c/\qx w bs (off+k*6) (kb k) (kv k) (f k):=by
 obtain⟨_,a,c,hv,_,hx⟩:=h;obtain⟨off,ha,h⟩:=hx (by omega);exact⟨off,c,by rw[hv,ha],h k hk⟩
theorem zI0{w:World}{bs o nb:Nat}{f:Nat->zd}{kv:Nat->Value}{i:Nat}(h:yA w bs o nb (kv i) (f i)):∀r,r<8->w.cell? ⟨bs,o+r,none⟩=some (cellSnap f kv i r)
 | 0,_=>h.c0.1
 | 1,_=>h.c1.1
 | 2,_=>h.c2.1
 | 3,_=>h.c3.1
 | 4,_=>h.c4.1
 | 5,_=>h.c5.1
 | 6,_=>h.c6.1
 | 7,_=>h.c7.1
 | n+8,h=>absurd h (by omega)
theorem zE6{w:World}{b:Nat}{v:Value}{n:Nat}{fs fb:Nat->Int}(h:ze w b v n fs fb):v.oneCell'=true:=by
 obtain⟨_,a,c,rfl,_⟩:=h;rfl
theorem zJd(w:World)(lo hi:Nat){P Q R:Nat->Prop}{v0 v1 v3:Value}{b2 aA c2:Nat}{W:zH}(nB:zCE w P Q R v0 v1 (.slice (some ⟨b2,aA,none⟩) W.sn c2) v3 W)(eA:∀j,P j\/Q j\/R j->lo<=j/\j<hi)(tB:hi<=w.heap.size)(aC:lo<=w.heap.size){k:Nat}(hk:k<W.sn)(hp:W.pn<20)(name set:ByteArray)(hn:name.size<=maxLen)(hs:set.size<=maxLen)(ty:TypeId) :
  ∃dv nb,qx w b2 (aA+k*6) nb dv (W.zOy k)/\lo<=b2/\b2<hi/\∃g cap w',(Builtin.append_ #[38,38] ty #[v3,.slice (some ⟨w.heap.size,0,none⟩) 1 1]).run Tryz.prog (w.alloc (.cells #[.int .i64 W.next,.string name,.string set,.int .i64 (W.zOy k).zO0,.int .i64 W.time,.int .i64 (W.zOy k).rs,.int .i64 (W.zOy k).rb,dv] 111)) = .ok (.slice (some ⟨g,0,none⟩) (W.pn+1) cap) w'/\zE (fun j=>lo<=j/\j<hi/\j≠b2) w w'/\w.heap.size<w'.heap.size/\
   zAF ((w'.setCell ⟨b2,aA+k*6+2,none⟩ (.int .i64 W.next)).setCell ⟨b2,aA+k*6+5,none⟩ (.slice none 0 0)) lo hi (w.heap.size+1) w'.heap.size v0 v1 (.slice (some ⟨b2,aA,none⟩) W.sn c2) (.slice (some ⟨g,0,none⟩) (W.pn+1) cap) (zCO W k name set):=by
 obtain⟨hP,⟨bs,rB,bA,hS,gB,pA,-,-⟩,⟨gA,bC,eB,hZ,iB,sA,rA,-⟩,pq,pr,qr⟩:=nB;obtain⟨off,c,hv,cB⟩:=hS.nth hk;simp only[Value.slice.injEq,Option.some.injEq,Addr.mk.injEq,and_true,true_and]at hv;obtain⟨⟨rfl,rfl⟩,rfl⟩:=hv;have vA:Q b2:=pA _ (Or.inl ⟨by omega,rfl⟩);have dA:=eA b2 (Or.inr (Or.inl vA));refine⟨bA k,rB k,cB,dA.1,dA.2,?_⟩;have ha:=zC w (.cells #[.int .i64 W.next,.string name,.string set,.int .i64 (W.zOy k).zO0,.int .i64 W.time,.int .i64 (W.zOy k).rs,.int .i64 (W.zOy k).rb,bA k] 111);have hz:(w.alloc (.cells #[.int .i64 W.next,.string name,.string set,.int .i64 (W.zOy k).zO0,.int .i64 W.time,.int .i64 (W.zOy k).rs,.int .i64 (W.zOy k).rb,bA k] 111)).heap.size=w.heap.size+1:=World.size_alloc _ _;have fA:∀j u,(zHJ (zA4 W k name set) (bA k))[j]?=some u->(w.alloc (.cells #[.int .i64 W.next,.string name,.string set,.int .i64 (W.zOy k).zO0,.int .i64 W.time,.int .i64 (W.zOy k).rs,.int .i64 (W.zOy k).rb,bA k] 111)).cell? ((⟨w.heap.size,0,none⟩:Addr).add j)=some u:=fun j u hj=>by
  have e:(⟨w.heap.size,0,none⟩:Addr).add j=⟨w.heap.size,j,none⟩:=by
   unfold Addr.add;split
   ·simp_all
   ·simp
  rw[e];refine(World.cell?_alloc_at _ _ _ _ rfl).trans ?_;rw[<-hj];exact List.getElem?_toArray ..
 have kA:∀u∈zHJ (zA4 W k name set) (bA k),u.oneCell'=true:=fun u hu=>by
  have h1:=zE6 cB.zO5;simp only[zHJ,List.mem_cons,List.not_mem_nil,or_false]at hu;rcases hu with rfl | rfl | rfl | rfl | rfl | rfl | rfl | rfl<;>first | rfl | exact h1
 obtain⟨i0,mB,dB⟩:=Option.map_eq_some_iff.1 zDy;simp only[Prod.mk.injEq]at dB;obtain⟨pB,oB,jB⟩:=dB;have nA:=hP.zOp ha;have oA:=hS.zOp ha;have iA:=hZ.zOp ha;have aB:0<W.pn->v3.ownBlock=some gA/\R gA:=fun h0=>by
  refine⟨?_,sA _ (Or.inl ⟨h0,rfl⟩)⟩;obtain⟨_,a,c,hv,_,hx⟩:=hZ;obtain⟨off,ha,_⟩:=hx h0;rw[hv,ha];rfl
 generalize w.alloc (.cells #[.int .i64 W.next,.string name,.string set,.int .i64 (W.zOy k).zO0,.int .i64 W.time,.int .i64 (W.zOy k).rs,.int .i64 (W.zOy k).rb,bA k] 111)=wa at ha hz fA nA oA iA ⊢;obtain⟨g,cap,w',row,hr,lA,hg,bB,kB,lB⟩:=zAc.append (P:=Tryz.prog) 38 ty 111 i0 _ 8 96 lo zNE mB pB oB jB rfl (by decide) (rA.zOp ha) (zAe W.zOw eB W.pn)
  (fun h0 g cA=>by
   obtain⟨h1,h2⟩:=aB h0;rw[h1]at cA;injection cA with cA;exact cA▸(eA _ (Or.inr (Or.inr h2))).1)
  (fun h0 g cA j u hj=>by
   have vB:j<W.pn*8:=by
    have:=(List.getElem?_eq_some_iff.1 hj).1
    rwa [zAe]at this
   obtain⟨_,a,c,hv,_,hx⟩:=iA;obtain⟨off,tA,jA⟩:=hx h0;rcases rA with⟨e,_⟩ | ⟨_,g',fB,sB,mA,_⟩
   ·omega
   ·rw[hv,tA]at mA;simp only[Value.slice.injEq,Option.some.injEq,Addr.mk.injEq,and_true,true_and]at mA;obtain⟨⟨rfl,rfl⟩,rfl⟩:=mA;rw[hv,tA]at cA;obtain rfl:gA=g:=(by injection cA);have hd:j / 8<W.pn:=(by omega);have h8:=zI0 (jA (j / 8) hd) (j % 8) (by omega);have e1:0+j / 8*8+j % 8=j:=(by omega);have e2:=zAG W.zOw eB W.pn hd (show j % 8<8 by omega);rw[show j / 8*8+j % 8=j by omega,hj]at e2;rw[e1]at h8;rw[h8,e2])
  ⟨w.heap.size,0,none⟩ 1 1 (zHJ (zA4 W k name set) (bA k)) rfl fA kA (by omega) (by unfold maxLen;omega) (by omega) (by omega)
 refine⟨g,cap,w',hr,?_,by have:=hg.size;omega,?_⟩
 ·refine(zE.zOs ha).trans ((zB2 hg).mono ?_);intro j hj;rcases bB with h | ⟨h0,h⟩
  ·rw[h]at hj;cases hj
  ·obtain⟨h1,h2⟩:=aB h0;rw[h,h1]at hj;injection hj with hj;subst hj;exact⟨(eA _ (Or.inr (Or.inr h2))).1,(eA _ (Or.inr (Or.inr h2))).2,fun e=>qr b2 vA (e▸h2)⟩
 ·rw[<-hz];exact zJl (dv:=bA k) nA oA gB pA iA iB sA pq pr qr eA (by omega) hk (by unfold maxLen;omega) hn hs lA hg bB kB (by omega) lB
open Go.Extern.Stop Go.Stop Go.Extern
theorem zKZ{w w':World}{Q:Nat->Prop}{bs off n c:Nat}{kb:Nat->Nat}{kv:Nat->Value}{f:Nat->zu}(hS:qK w bs kb kv (.slice (some ⟨bs,off,none⟩) n c) n f)(bA:qy kb n f)(aA:∀j,yo bs kb n f j->Q j){k:Nat}(hk:k<n){s':zu}(hd:s'.dn=0)(eA:s'.name.size<=maxLen)
  (ht:zE (fun j=>j=bs) w w') (hx:∀j,j<n->j≠k->∀r,r<6->∀u,zT w bs (off+j*6+r) u->zT w' bs (off+j*6+r) u) (hc:∀r,r<6->zT w' bs (off+k*6+r) (cellSet (fun _=>s') (fun _=>.slice none 0 0) 0 r)) :
  zAd w' Q (.slice (some ⟨bs,off,none⟩) n c) n (fun j=>if j=k then s' else f j):=by
 have cA:ze w' (kb k) (.slice none 0 0) s'.dn s'.ds s'.db:=by
  rw[hd];exact⟨Nat.zero_le _,none,0,rfl,Nat.le_refl _,fun h=>absurd h (Nat.lt_irrefl _)⟩
 refine⟨bs,_,_,hS.edit hk ht hx (s':=s') (nb:=kb k) (nv:=.slice none 0 0) ⟨hc 0 (by omega),hc 1 (by omega),hc 2 (by omega),hc 3 (by omega),hc 4 (by omega),hc 5 (by omega),cA,eA,fun h=>by omega⟩,?_,?_⟩
 ·intro i j hi hj dA h1 h2;show(if i=k then kb k else kb i)≠(if j=k then kb k else kb j);by_cases e1:i=k
  ·simp only[if_pos e1]at h1;omega
  ·by_cases e2:j=k
   ·simp only[if_pos e2]at h2;omega
   ·simp only[if_neg e1]at h1;simp only[if_neg e2]at h2;rw[if_neg e1,if_neg e2];exact bA i j hi hj dA h1 h2
 ·rintro j (⟨h0,rfl⟩ | ⟨i,hi,h0,rfl⟩)
  ·exact aA _ (Or.inl ⟨h0,rfl⟩)
  ·by_cases e:i=k
   ·simp only[if_pos e]at h0;omega
   ·simp only[if_neg e]at h0 ⊢;exact aA _ (Or.inr ⟨i,hi,h0,rfl⟩)
noncomputable def zK8(W:zH)(s:zu):zu:={s with rs:=(zN W s.zO0).rs,rb:=(zN W s.zO0).rb,dn:=0}
noncomputable def zK9(W:zH)(k:Nat):zH:={W with zOv:=zW W.zOv (q9 W (W.zOy k)),zOy:=fun j=>if j=k then zK8 W (W.zOy k)else W.zOy j}
def yL(W:zH)(name:ByteArray)(w:World)(e:Ending)(w':World):Prop:=∃r o,zCj W (∃i,i<1/\8000<((fun (_:Nat)=>name) i).size) (∃i,i<0/\¬qV ((fun _=>⟨#[]⟩) i)) 2 (fun i=>match i with | 0=>zx W name | _=>(zN W (qi W name).zO0).set=name) (fun i=>match i with | 0=>2 | _=>2) r/\(r=none->∃k,zAO W name k/\o=⟨zK9 W k,0,((q9 W (W.zOy k)).length:Int),0⟩)/\zw (zHg r o) w e w'
theorem yL.ill{W:zH}{name:ByteArray}{w w':World}{e:Ending}{i:Nat}(hr:zCj W (∃i,i<1/\8000<((fun (_:Nat)=>name) i).size) (∃i,i<0/\¬qV ((fun _=>⟨#[]⟩) i)) 2 (fun i=>match i with | 0=>zx W name | _=>(zN W (qi W name).zO0).set=name) (fun i=>match i with | 0=>2 | _=>2) (some i))(h:zw (yB (zEU i)) w e w'):yL W name w e w':=⟨some i,yB 0,hr,fun e=>(by cases e),h⟩
def del{α : Type}(f:Nat->α)(k:Nat):Nat->α:=fun i=>if i<k then f i else f (i+1)
theorem zNB{w:World}{bs o nb:Nat}{f:Nat->zu}{kv:Nat->Value}{i:Nat}(h:qx w bs o nb (kv i) (f i)):∀r,r<6->zT w bs (o+r) (cellSet f kv i r)
 | 0,_=>h.c0
 | 1,_=>h.c1
 | 2,_=>h.c2
 | 3,_=>h.c3
 | 4,_=>h.c4
 | 5,_=>h.c5
 | n+6,h=>absurd h (by omega)
theorem zGh{α : Type}{f:Nat->α}{k i:Nat}(h:i<k):del f k i=f i:=if_pos h
theorem zGg{α : Type}{f:Nat->α}{k i:Nat}(h:¬i<k):del f k i=f (i+1):=if_neg h
noncomputable def zKq(W:zH)(k:Nat):zH:={W with zOv:=zW W.zOv (q9 W (W.zOy k)),sn:=W.sn - 1,zOy:=del W.zOy k}
def qv(W:zH)(name:ByteArray)(w:World)(e:Ending)(w':World):Prop:=∃r o,zCj W (∃i,i<1/\8000<((fun (_:Nat)=>name) i).size) (∃i,i<0/\¬qV ((fun _=>⟨#[]⟩) i)) 2 (fun i=>match i with | 0=>zx W name | _=>¬∃i,i<W.pn/\(W.zOw i).set=name) (fun i=>match i with | 0=>2 | _=>5) r/\(r=none->∃k,zAO W name k/\o=⟨zKq W k,0,((q9 W (W.zOy k)).length:Int),0⟩)/\zw (zHg r o) w e w'
theorem qv.ill{W:zH}{name:ByteArray}{w w':World}{e:Ending}{i:Nat}(hr:zCj W (∃i,i<1/\8000<((fun (_:Nat)=>name) i).size) (∃i,i<0/\¬qV ((fun _=>⟨#[]⟩) i)) 2 (fun i=>match i with | 0=>zx W name | _=>¬∃i,i<W.pn/\(W.zOw i).set=name) (fun i=>match i with | 0=>2 | _=>5) (some i))(h:zw (yB (zEU i)) w e w'):qv W name w e w':=⟨some i,yB 0,hr,fun e=>(by cases e),h⟩
def zCQ(f:Nat->Int)(x:Int):Nat->Nat
 | 0=>0
 | k+1=>zCQ f x k+(if f k=x then 1 else 0)
theorem zDX{f:Nat->Int}{x:Int}{k:Nat}(h:f k=x):zCQ f x (k+1)=zCQ f x k+1:=by simp[zCQ,h]
theorem zEs{f:Nat->Int}{x:Int}{k:Nat}(h:¬f k=x):zCQ f x (k+1)=zCQ f x k:=by simp[zCQ,h]
theorem zIV(f:Nat->Int)(x:Int):∀k,zCQ f x k<=k
 | 0=>Nat.le_refl _
 | k+1=>by
  have:=zIV f x k;by_cases h:f k=x
  ·rw[zDX h];omega
  ·rw[zEs h];omega
def zCe(W:zH)(x:Int):Nat:=zCQ (fun i=>(W.zOy i).zO0) x W.sn+zCQ (fun i=>(W.zOw i).zO0) x W.pn
theorem zId(v0 v1 v2 v3:Value)(lo hi:Nat)(W:zH)(x:Int)(w:World)(h:zr w lo hi v0 v1 v2 v3 W)(hs:W.sn<=8)(hp:W.pn<=20) :
  Calls Tryz.prog 53 #[qT v0 v1 v2 v3 W,.int .i64 x] w fun e w'=>e = .returned (.int .i64 (zCe W x))/\Below w.heap.size w w':=by
 have Hp:=zB h;obtain⟨m1,a,c,rfl,mc,-⟩:=id h.zOw;obtain⟨m2,a',c',rfl,jA,-⟩:=id h.zOy;clear h m1 m2;have ha:=zC w (.cells #[v0,v1,.int .i64 W.time,.int .i64 W.next,.slice a' W.sn c',.slice a W.pn c] 40);have HB:=zB (za.zOt w v0 v1 (.int .i64 W.time) (.int .i64 W.next) (.slice a' W.sn c') (.slice a W.pn c) 40);go_enter Tryz.func53,Tryz.ntmps53;go_wp2
 go_loopw [5,6] (fun m i wr=>∃k:Nat,k<=W.sn/\i = .int .i64 k/\m = .int .i64 (zCQ (fun i=>(W.zOy i).zO0) x k)/\za wr w.heap.size v0 v1 (.int .i64 W.time) (.int .i64 W.next) (.slice a' W.sn c') (.slice a W.pn c)/\Below w.heap.size w wr) (fun _ i _=>W.sn - (intOf i).toNat)
 case atStart=>exact⟨0,Nat.zero_le _,rfl,rfl,HB.out,ha⟩
 case round=>
  obtain⟨k,hk,rfl,rfl,hX,hb⟩:=hrel;have HX:=zB hX;have gA:=zIV (fun i=>(W.zOy i).zO0) x k;have eA:(zCQ (fun i=>(W.zOy i).zO0) x k:Int)<=8:=(by omega);clear hX;obtain⟨⟨x0,x1⟩,⟨x2,x3⟩,⟨x4,x5⟩,⟨x6,x7⟩,⟨x8,x9⟩,⟨cA,dA⟩⟩:=HX.out;by_cases aA:k<W.sn
  ·have bA:(k:Int)<(W.sn:Int):=(by omega);obtain⟨b,off,vd,rfl,hs⟩:=(Hp.out.zOy.zOp hb).cells aA;have q0:=hs.c2;clear hs;by_cases he:(W.zOy k).zO0=x
   ·have H:=zB he;rw[he]at q0;clear he;go_wp2;go_roundw
    case rel=>exact⟨k+1,by omega,by go_num,by rw[zDX H.out];go_num,HX.out,hb⟩
    case measure=>simp[intOf];omega
   ·have H:=zB he;have e0:((W.zOy k).zO0 == x)=false:=(by simp[he]);clear he;go_wp2;go_roundw
    case rel=>exact⟨k+1,by omega,by go_num,by rw[zEs H.out],HX.out,hb⟩
    case measure=>simp[intOf];omega
  ·obtain rfl:k=W.sn:=(by omega);go_wp2
   go_loopw [5,7] (fun m i wr=>∃k:Nat,k<=W.pn/\i = .int .i64 k/\m = .int .i64 ((zCQ (fun i=>(W.zOy i).zO0) x W.sn:Int)+(zCQ (fun i=>(W.zOw i).zO0) x k:Int))/\za wr w.heap.size v0 v1 (.int .i64 W.time) (.int .i64 W.next) (.slice a' W.sn c') (.slice a W.pn c)/\Below w.heap.size w wr) (fun _ i _=>W.pn - (intOf i).toNat)
   case atStart=>exact⟨0,Nat.zero_le _,rfl,by simp[zCQ],HX.out,hb⟩
   case round=>
    clear x0 x1 x2 x3 x4 x5 x6 x7 x8 x9 cA dA HX hb;obtain⟨k,hk,rfl,rfl,hX,hb⟩:=hrel;have HX:=zB hX;have iA:=zIV (fun i=>(W.zOw i).zO0) x k;have fA:(zCQ (fun i=>(W.zOw i).zO0) x k:Int)<=20:=(by omega);clear hX;obtain⟨⟨x0,x1⟩,⟨x2,x3⟩,⟨x4,x5⟩,⟨x6,x7⟩,⟨x8,x9⟩,⟨cA,dA⟩⟩:=HX.out;by_cases aA:k<W.pn
    ·have bA:(k:Int)<(W.pn:Int):=(by omega);obtain⟨b,off,vd,rfl,hs⟩:=(Hp.out.zOw.zOp hb).cells aA;have q0:=hs.c3;clear hs;by_cases he:(W.zOw k).zO0=x
     ·have H:=zB he;rw[he]at q0;clear he;go_wp2;go_roundw
      case rel=>exact⟨k+1,by omega,by go_num,by rw[zDX H.out];go_num,HX.out,hb⟩
      case measure=>simp[intOf];omega
     ·have H:=zB he;have e0:((W.zOw k).zO0 == x)=false:=(by simp[he]);clear he;go_wp2;go_roundw
      case rel=>exact⟨k+1,by omega,by go_num,by rw[zEs H.out],HX.out,hb⟩
      case measure=>simp[intOf];omega
    ·obtain rfl:k=W.pn:=(by omega);go_wp2;go_ret;exact⟨by unfold zCe;rw[Int.natCast_add];rfl,hb⟩
def yr(n:Nat)(f g:Nat->Int):List (Int×Int):=(List.range n).map fun i=>(f i,g i)
theorem zAK(n:Nat)(f g:Nat->Int):(yr n f g).length=n:=by
 unfold yr;rw[List.length_map,List.length_range]
theorem zG7{n:Nat}(f g:Nat->Int){i:Nat}(hi:i<n):zg (yr n f g) i=f i/\zj (yr n f g) i=g i:=by
 unfold zg zj yr;rw[List.getD_eq_getElem?_getD,List.getElem?_map,List.getElem?_range hi];exact⟨rfl,rfl⟩
theorem zJW(f g:Nat->Int)(t:Int):∀n,(zDm f g t n).length<=n
 | 0=>Nat.le_refl _
 | n+1=>by
  have:=zJW f g t n;unfold zDm;split
  ·omega
  ·rw[List.length_append,List.length_singleton];omega
def zHm(W:zH)(x:Int)(i:Nat):Prop:=i<W.pn/\(W.zOw i).zO0=x/\(∀j,j<W.pn->j≠i->(W.zOw j).zO0≠x)/\∀j,j<W.sn->(W.zOy j).zO0≠x
def zGS(W:zH)(x:Int)(i:Nat):Prop:=i<W.sn/\(W.zOy i).zO0=x/\(∀j,j<W.sn->j≠i->(W.zOy j).zO0≠x)/\∀j,j<W.pn->(W.zOw j).zO0≠x
theorem zCr{f:Nat->Int}{x:Int}:∀{n:Nat},zCQ f x n=0->∀j,j<n->f j≠x
 | 0,_,j,hj=>absurd hj (Nat.not_lt_zero _)
 | n+1,h,j,hj=>by
  by_cases e:f n=x
  ·rw[zDX e]at h;omega
  ·rw[zEs e]at h;by_cases aA:j=n
   ·rw[aA];exact e
   ·exact zCr h j (by omega)
theorem zJB{f:Nat->Int}{x:Int}{n i:Nat}(hi:i<n)(h:f i=x):1<=zCQ f x n:=by
 rcases Nat.eq_zero_or_pos (zCQ f x n)with h0 | h0
 ·exact absurd h (zCr h0 i hi)
 ·exact h0
theorem zGa{f:Nat->Int}{x:Int}:∀{n:Nat},zCQ f x n=1->∃i,i<n/\f i=x/\∀j,j<n->j≠i->f j≠x
 | 0,h=>absurd h (by simp[zCQ])
 | n+1,h=>by
  by_cases e:f n=x
  ·rw[zDX e]at h;exact⟨n,by omega,e,fun j hj aA=>zCr (n:=n) (by omega) j (by omega)⟩
  ·rw[zEs e]at h;obtain⟨i,hi,h1,h2⟩:=zGa h;refine⟨i,by omega,h1,fun j hj aA=>?_⟩;by_cases bA:j=n
   ·rw[bA];exact e
   ·exact h2 j (by omega) aA
theorem zNn{W:zH}{x:Int}(h:zCe W x=1):(∃i,zHm W x i)\/∃i,zGS W x i:=by
 unfold zCe at h;rcases Nat.eq_zero_or_pos (zCQ (fun i=>(W.zOy i).zO0) x W.sn)with h0 | h0
 ·rw[h0,Nat.zero_add]at h;obtain⟨i,hi,h1,h2⟩:=zGa h;exact Or.inl ⟨i,hi,h1,h2,zCr h0⟩
 ·obtain⟨i,hi,h1,h2⟩:=zGa (f:=fun i=>(W.zOy i).zO0) (x:=x) (n:=W.sn) (by omega);exact Or.inr ⟨i,hi,h1,h2,zCr (f:=fun i=>(W.zOw i).zO0) (n:=W.pn) (by omega)⟩
theorem zH3(W:zH)(name:ByteArray){a:Nat}:∀{b:Nat},a<=b->zAM W name a<=zAM W name b
 | 0,h=>by cases (show a=0 from by omega);exact Nat.le_refl _
 | b+1,h=>by
  by_cases e:a=b+1
  ·rw[e];exact Nat.le_refl _
  ·have:=zH3 W name (show a<=b by omega);by_cases hq:(W.zOw b).set=name
   ·rw[zE4 hq];omega
   ·rw[zIq hq];exact this
theorem zIp{W:zH}{name:ByteArray}{a b:Nat}(h:a<b)(ha:(W.zOw a).set=name):zAM W name a<zAM W name b:=by
 have:=zH3 W name (show a+1<=b by omega);rw[zE4 ha]at this;omega
theorem zJo{W:zH}{name:ByteArray}{start:Int}:∀{n:Nat} {e:Int},Steps W name start n e->∀m,m<n->∃x k,Steps W name start m x/\qo W x k/\(W.zOw k).set=name
 | 0,_,_,m,hm=>absurd hm (Nat.not_lt_zero _)
 | n+1,_,.next (x:=x) (k:=k) h hk hs,m,hm=>by
  by_cases e:m=n
  ·rw[e];exact⟨x,k,h,hk,hs⟩
  ·exact zJo h m (by omega)
theorem zEg{W:zH}{name:ByteArray}{start:Int}(hl:∀k,k<W.pn->(W.zOw k).zO0<(W.zOw k).id):∀{n:Nat} {x:Int},Steps W name start n x->∀{m:Nat} {y:Int},Steps W name start m y->m<n->x<y
 | 0,_,_,m,_,_,hm=>absurd hm (Nat.not_lt_zero _)
 | n+1,_,.next (x:=x) (k:=k) h hk hs,m,y,hy,hm=>by
  have h1:=hl k hk.1;have h2:=hk.2.1;by_cases e:m=n
  ·subst e;have:=Steps.det h hy;omega
  ·have:=zEg hl h hy (by omega);omega
open Classical in
theorem zNv{W:zH}{name:ByteArray}{start origin:Int}(hl:∀k,k<W.pn->(W.zOw k).zO0<(W.zOw k).id)(hL:zCB W name start origin){k:Nat}(hk:k<W.pn)(hs:(W.zOw k).set=name):∃m,Steps W name start m (W.zOw k).id:=by
 refine Classical.byContradiction fun aA=>?_
 obtain⟨n,e,bA,-,hn,-⟩:=hL;have key:∀m,∃i,i<W.pn/\(W.zOw i).set=name/\(m<n->Steps W name start m (W.zOw i).id)/\(¬m<n->i=k):=fun m=>by
  by_cases hm:m<n
  ·obtain⟨x,i,h1,h2,h3⟩:=zJo bA m hm;exact⟨i,h2.1,h3,fun _=>by rw[h2.2.1];exact h1,fun h=>absurd hm h⟩
  ·exact⟨k,hk,hs,fun h=>absurd h hm,fun _=>rfl⟩
 have:=zK6 (n+1) (zAM W name W.pn) (fun m=>zAM W name (key m).choose) (fun i _=>zIp (key i).choose_spec.1 (key i).choose_spec.2.1) (fun i j hi hj e=>by
  have ki:=(key i).choose_spec;have kj:=(key j).choose_spec;have e2:(key i).choose=(key j).choose:=by
   rcases Nat.lt_trichotomy (key i).choose (key j).choose with h | h | h
   ·have:=zIp h ki.2.1;omega
   ·exact h
   ·have:=zIp h kj.2.1;omega
  by_cases h1:i<n
  ·by_cases h2:j<n
   ·have a:=ki.2.2.1 h1;have b:=kj.2.2.1 h2;rw[e2]at a;rcases Nat.lt_trichotomy i j with h | h | h
    ·have:=zEg hl b a h;omega
    ·exact h
    ·have:=zEg hl a b h;omega
   ·exact absurd ⟨i,by have a:=ki.2.2.1 h1;rw[e2,kj.2.2.2 h2]at a;exact a⟩ aA
  ·by_cases h2:j<n
   ·exact absurd ⟨j,by have a:=kj.2.2.1 h2;rw[<-e2,ki.2.2.2 h1]at a;exact a⟩ aA
   ·omega)
 omega
theorem zMt{W:zH}(hI:zEn W){x:Int}(h:qL W x):1<=zCe W x:=by
 obtain⟨k,hk,rfl⟩:=h;obtain⟨i,hi,e⟩:=(hI.zO3.zOw.2.1 k hk).1;obtain⟨m,hm⟩:=zNv (fun k hk=>(hI.zO3.zOw.2.1 k hk).2.2.1) (hI.lines i hi) hk e.symm;unfold zCe;generalize hx:(W.zOw k).id=x at hm;cases hm with
 | zero=>
  have:=zJB (f:=fun i=>(W.zOy i).zO0) hi rfl;omega
 | next h hk' hs'=>
  have:=zJB (f:=fun i=>(W.zOw i).zO0) hk'.1 rfl;omega
noncomputable def sdY(W:zH)(g:zd)(n:Nat)(f h:Nat->Int):List (Int×Int):=yh f h (zN W g.zO0).time n
noncomputable def sdO(W:zH)(g:zd)(n:Nat)(f h:Nat->Int):List (Int×Int):=zDm f h (zN W g.zO0).time n
noncomputable def sdD(W:zH)(g:zd)(n:Nat)(f h:Nat->Int):List (Int×Int):=yr g.dn g.ds g.db ++ sdO W g n f h
noncomputable def zNA(W:zH)(g s:zd):zd:={s with zO0:=g.zO0,dn:=(sdD W g s.dn s.ds s.db).length,ds:=zg (sdD W g s.dn s.ds s.db),db:=zj (sdD W g s.dn s.ds s.db)}
noncomputable def zN4(W:zH)(g:zd)(s:zu):zu:={s with zO0:=g.zO0,dn:=(sdD W g s.dn s.ds s.db).length,ds:=zg (sdD W g s.dn s.ds s.db),db:=zj (sdD W g s.dn s.ds s.db)}
noncomputable def zG9(W:zH)(k i:Nat):Nat->zd:=fun j=>if j=i then zNA W (W.zOw k) (W.zOw i)else W.zOw j
noncomputable def zHh(W:zH)(k i:Nat):Nat->zu:=fun j=>if j=i then zN4 W (W.zOw k) (W.zOy i)else W.zOy j
noncomputable def zHA(W:zH)(k i:Nat):List (Int×Int):=sdY W (W.zOw k) (W.zOw i).dn (W.zOw i).ds (W.zOw i).db
noncomputable def zFX(W:zH)(k i:Nat):List (Int×Int):=sdY W (W.zOw k) (W.zOy i).dn (W.zOy i).ds (W.zOy i).db
noncomputable def zOe(W:zH)(k i:Nat):zH:={W with zOv:=zW W.zOv (zHA W k i),pn:=W.pn - 1,zOw:=del (zG9 W k i) k}
noncomputable def zOf(W:zH)(k i:Nat):zH:={W with zOv:=zW W.zOv (zFX W k i),zOy:=zHh W k i,pn:=W.pn - 1,zOw:=del W.zOw k}
theorem zLq{n:Nat}{f g:Nat->Int}{x:Int×Int}(h:x∈yr n f g):∃j,j<n/\f j=x.1/\g j=x.2:=by
 unfold yr at h;obtain⟨j,hj,rfl⟩:=List.mem_map.1 h;exact⟨j,List.mem_range.1 hj,rfl,rfl⟩
theorem zHr{W:zH}(hS:zBr W){i:Nat}(hi:i<qf W)(t:Int):zCi (zc W i).dn (zc W i).ds (zc W i).db/\zAu W.zOv (yh (zc W i).ds (zc W i).db t (zc W i).dn):=by
 have hD:zB9 W i:=by
  by_cases hp:i<W.pn
  ·exact hS.zO5 i hp
  ·have:=(hS.zOy (i - W.pn) (by unfold qf at hi;omega)).2
   rwa [show W.pn+(i - W.pn)=i by omega]at this
 obtain⟨h1,-,-,bA⟩:=hD;refine⟨h1,?_⟩;have hH:zAu W.zOv (yr (zc W i).dn (zc W i).ds (zc W i).db):=by
  refine⟨hS.right,fun x hx=>?_,?_⟩
  ·obtain⟨j,hj,e1,e2⟩:=zLq hx;have hm:=zCx.1 (bA j hj);rw[e1,e2]at hm;unfold zCJ at hm;have:=zBm hS.right (zKV hS.zOw (zc W i).zO0) (List.mem_filter.1 hm).1;exact⟨this.1,this.2.2⟩
  ·unfold yr;rw[List.map_map];unfold List.Nodup;rw[List.pairwise_map];refine List.pairwise_iff_getElem.2 fun a b ha hb aA=>?_
   rw[List.length_range]at ha hb;rw[List.getElem_range,List.getElem_range];exact fun e=>h1.2.2 b hb a aA e
 exact hH.sub (zD8 _ _ _ _)
end Go.Proofs.YtgabgheflgjgiaaGreatDoor

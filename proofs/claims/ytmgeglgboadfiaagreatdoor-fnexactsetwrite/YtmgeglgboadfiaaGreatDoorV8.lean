/- A part of the proof. -/
import Derived.Test.YtmgeglgboadfiaaGreatDoorV7
import Derived.Scope
import Derived.WalkMore
import Derived.Deep.MidRow
set_option linter.unusedVariables false
set_option maxRecDepth 20000
set_option maxHeartbeats 4000000
namespace Go.Proofs.YtmgeglgboadfiaaGreatDoor
open Go.RowKit
theorem zH5{w w':World}{Q:Nat->Prop}{bs off n c:Nat}{kb:Nat->Nat}{kv:Nat->Value}{f:Nat->qD}(hS:yJ w bs kb kv (.slice (some ⟨bs,off,none⟩) n c) n f)(aA:zBN kb n f)(cA:∀j,zCN bs kb n f j->Q j){k:Nat}(hk:k<n){s':qD}{nb:Nat}{nv:Value}
  (ht:zF (fun j=>j=bs\/(0<(f k).dn/\j=kb k)) w w') (hx:∀j,j<n->j≠k->∀r,r<6->∀u,zW w bs (off+j*6+r) u->zW w' bs (off+j*6+r) u) (hs:zAG w' bs (off+k*6) nb nv s') (fA:0<s'.dn->((0<(f k).dn/\nb=kb k)\/∀j,zCN bs kb n f j->j≠nb)/\Q nb) :
  zBU w' Q (.slice (some ⟨bs,off,none⟩) n c) n (fun j=>if j=k then s' else f j):=by
 have dA:∀i,i<n->i≠k->0<(f i).dn->0<s'.dn->kb i≠nb:=fun i hi jA h1 h2 e=>by
  rcases(fA h2).1 with⟨h3,h4⟩ | h3
  ·exact aA i k hi hk jA h1 h3 (by rw[e,h4])
  ·exact h3 (kb i) (Or.inr ⟨i,hi,h1,rfl⟩) e
 refine⟨bs,(fun j=>if j=k then nb else kb j),(fun j=>if j=k then nv else kv j),?_,?_,?_⟩
 ·obtain⟨hm,a,kA,hv,hc,iA⟩:=hS;simp only[Value.slice.injEq,true_and]at hv;obtain⟨rfl,rfl⟩:=hv;refine⟨hm,_,_,rfl,hc,fun h0=>?_⟩;obtain⟨gA,e,bA⟩:=iA h0;simp only[Option.some.injEq,Addr.mk.injEq,true_and,and_true]at e;subst e;refine⟨off,rfl,fun j hj=>?_⟩;by_cases e:j=k
  ·subst e;simp only[if_true];exact hs
  ·simp only[if_neg e];have h:=bA j hj;exact⟨hx j hj e 0 (by omega) _ h.c0,hx j hj e 1 (by omega) _ h.c1,hx j hj e 2 (by omega) _ h.c2,hx j hj e 3 (by omega) _ h.c3,hx j hj e 4 (by omega) _ h.c4,hx j hj e 5 (by omega) _ h.c5,h.zRl.zRf ht (fun h0 hh=>by
    rcases hh with hh | ⟨h1,hh⟩
    ·exact h.zRk h0 hh
    ·exact aA j k hj hk e h0 h1 hh),h.zRn,h.zRk⟩
 ·intro i j hi hj eA h1 h2;show(if i=k then nb else kb i)≠(if j=k then nb else kb j);by_cases e1:i=k
  ·by_cases e2:j=k
   ·exact absurd (e1.trans e2.symm) eA
   ·simp only[if_pos e1]at h1;simp only[if_neg e2]at h2;rw[if_pos e1,if_neg e2];exact fun e=>dA j hj e2 h2 h1 e.symm
  ·simp only[if_neg e1]at h1;by_cases e2:j=k
   ·simp only[if_pos e2]at h2;rw[if_neg e1,if_pos e2];exact dA i hi e1 h1 h2
   ·simp only[if_neg e2]at h2;rw[if_neg e1,if_neg e2];exact aA i j hi hj eA h1 h2
 ·rintro j (⟨h0,rfl⟩ | ⟨i,hi,h0,rfl⟩)
  ·exact cA _ (Or.inl ⟨h0,rfl⟩)
  ·by_cases e:i=k
   ·simp only[if_pos e]at h0 ⊢;exact(fA h0).2
   ·simp only[if_neg e]at h0 ⊢;exact cA _ (Or.inr ⟨i,hi,h0,rfl⟩)
theorem yg.turnedL{S:Nat->Prop}{w w1 w':World}{e:TypeId}{s:Nat}{v:Value}{n:Nat}(h:yg w e s v n)(hb:Below w.heap.size w w1)(t:zF S w1 w')(eA:0<n->∃q,v.ownBlock=some q/\¬S q):yg w' e s v n:=by
 rcases h with h | ⟨h0,g,dA,bA,hv,hg,h1,h2,h3⟩
 ·exact Or.inl h
 ·obtain⟨q,hq,hS⟩:=eA h0;rw[hv]at hq;have cA:g=q:=(by simpa[Value.ownBlock]using hq);subst cA;have aA:=(Array.getElem?_eq_some_iff.1 hg).1;exact Or.inr ⟨h0,g,dA,bA,hv,((t.block g (Nat.lt_of_lt_of_le aA hb.size) hS).trans (hb.block g aA)).trans hg,h1,h2,h3⟩
theorem zIn(W:zH)(q:zI)(x:Int):zN {W with zRd:=q} x=zN W x:=rfl
def yF(p:zI)(i:Nat)(s:zL):zI:={n:=p.n,s:=fun j=>if j=i then s else p.s j,hn:=p.hn,h:=p.h}
theorem zPj{w wr:World}{lo hi R:Nat}{s0 s1:Value}{p:zI}(ho:zy wr lo hi s0 s1 p)(cA:R<lo)(aA:w.heap.size<=R)(bA:hi<=wr.heap.size)(hb:Below w.heap.size w wr) :
  zy ((wr.setCell ⟨R,0,none⟩ s0).setCell ⟨R,1,none⟩ s1) w.heap.size ((wr.setCell ⟨R,0,none⟩ s0).setCell ⟨R,1,none⟩ s1).heap.size s0 s1 p/\Below w.heap.size w ((wr.setCell ⟨R,0,none⟩ s0).setCell ⟨R,1,none⟩ s1):=by
 have t:=(zF.put wr R 0 s0).trans (zF.put _ R 1 s1);have hz:=t.size;exact⟨(ho.zRf t (fun k hk=>by omega)).zRc (by omega) (by omega),(hb.setCell aA _).setCell aA _⟩
def qz(n:Nat)(f:Nat->zL)(i:Nat):Prop:=i<n/\qE (f i)/\∀j,j<i->¬qE (f j)
theorem qz.uniq{n:Nat}{f:Nat->zL}{i j:Nat}(h:qz n f i)(h':qz n f j):i=j:=by
 rcases Nat.lt_trichotomy i j with e | e | e
 ·exact absurd h.2.1 (h'.2.2 i e)
 ·exact e
 ·exact absurd h'.2.1 (h.2.2 j e)
open Classical in
noncomputable def qx(p:zI)(s:zL):zD0:=
 if zx p/\¬qE s/\zAg p s then(if h:∃i,qz p.n p.s i then⟨yF p (Classical.choose h) s,((Classical.choose h:Nat):Int),s.zRi,0⟩else⟨zEV 0,0,0,6⟩)else⟨zEV 0,0,0,1⟩
theorem zGu{p:zI}{s:zL}(h:¬(zx p/\¬qE s/\zAg p s)):qx p s=⟨zEV 0,0,0,1⟩:=if_neg h
theorem zE1{p:zI}{s:zL}(h:zx p/\¬qE s/\zAg p s)(h':∀j,j<p.n->¬qE (p.s j)):qx p s=⟨zEV 0,0,0,6⟩:=by
 unfold qx;rw[if_pos h,dif_neg (fun ⟨i,hi⟩=>h' i hi.1 hi.2.1)]
theorem zHS{p:zI}{s:zL}{i:Nat}(h:zx p/\¬qE s/\zAg p s)(h':qz p.n p.s i):qx p s=⟨yF p i s,(i:Int),s.zRi,0⟩:=by
 unfold qx;have hx:∃i,qz p.n p.s i:=⟨i,h'⟩;rw[if_pos h,dif_pos hx];have e:Classical.choose hx=i:=(Classical.choose_spec hx).uniq h';rw[e]
theorem zF.trans2{S T:Nat->Prop}{a b c:World}(h:zF S a b)(k:zF T b c)(aA:∀i,T i->i<a.heap.size->S i):zF S a c:=
 ⟨k.os.trans h.os,k.tape.trans h.tape,k.output.trans h.output,Nat.le_trans h.size k.size,fun i hi hs=>(k.block i (Nat.lt_of_lt_of_le hi h.size) (fun t=>hs (aA i t hi))).trans (h.block i hi hs)⟩
theorem zI4{p:zI}{s:zL}(hR:zx p)(hf:¬qE s):zA8 p.n p.s s↔zAg p s:=by
 have aA:∀i,i<p.n->¬qE (p.s i)->1<=(p.s i).zRi:=fun i hi=>zFN (hR.2.1 i hi)
 constructor
 ·rintro(h | h | h)
  ·exact absurd h hf
  ·exact⟨h.1,Or.inl h.2⟩
  ·exact⟨h.1.1,Or.inr ⟨h.1.2.1,h.1.2.2,fun j hj=>(zHT aA).1 (h.2 j (by have:=h.1.2.1;omega))⟩⟩
 ·intro h;rcases h.2 with g | g
  ·exact Or.inr (Or.inl ⟨h.1,g⟩)
  ·exact Or.inr (Or.inr ⟨⟨h.1,g.1,g.2.1⟩,fun j hj=>(zHT aA).2 (g.2.2 j (by omega))⟩)
theorem zIp(v:Value)(n lo hi:Nat)(f:Nat->zL)(w:World)(h1:qA w lo hi v n f) :
  Calls Tryz.prog 159 #[v,.func (.func 157) #[] #[]] w fun e w'=>((∃i:Nat,qz n f i/\e = .returned (.int .i64 (i:Int)))\/((∀j,j<n->¬qE (f j))/\e = .returned (.int .i64 (-1))))/\Below w.heap.size w w':=by
 have Hp:=zT h1;obtain⟨m1,a,c,rfl,mc,g1⟩:=h1;unfold maxLen at m1;clear g1;go_enter Tryz.func159,Tryz.ntmps159;go_wp2
 go_loopw [5,8] (fun _ i wr=>∃k:Nat,k<=n/\i = .int .i64 k/\(∀j,j<k->¬qE (f j))/\Below w.heap.size w wr) (fun _ i _=>n - (intOf i).toNat)
 case atStart=>exact⟨0,Nat.zero_le _,rfl,fun j hj=>absurd hj (Nat.not_lt_zero _),Below.refl _ _⟩
 case round=>
  obtain⟨k,hk,rfl,bA,hb⟩:=hrel;have aA:=zT bA;clear bA;by_cases cA:k<n
  ·have fA:(k:Int)<(n:Int):=(by omega);obtain⟨b,off,ka,kc,rfl,hs⟩:=(Hp.out.zRX hb).cells cA;have Hs:=zT hs;obtain⟨q0,q1,q2,_⟩:=hs;go_wp2_with fail;refine(zBj _ _ _ lo hi (f k) _ Hs.out.slot).mono ?_;rintro e w1 ⟨⟨t,rfl,ht⟩,dA⟩;have eA:=zA hb dA;clear dA q0 q1 q2 Hs;by_cases hf:qE (f k)
   ·obtain rfl:t=true:=ht.2 hf;have HF:=zT hf;clear ht hf;go_wp2;go_ret;exact⟨Or.inl ⟨k,⟨cA,HF.out,aA.out⟩,rfl⟩,eA⟩
   ·obtain rfl:t=false:=zQ ht hf;have HF:=zT hf;clear ht hf;go_wp2;go_roundw
    case rel=>exact⟨k+1,by omega,by go_num,zo cA aA.out HF.out,eA⟩
    case measure=>simp[intOf];omega
  ·obtain rfl:k=n:=(by omega);go_wp2;go_ret;exact⟨Or.inr ⟨aA.out,rfl⟩,hb⟩
theorem zU.all{w:World}{lo hi:Nat}{v:Value}{n:Nat}{f g:Nat->Int}(h:zU w lo hi v n f g):zU w 0 w.heap.size v n f g:=by
  obtain⟨h0,a,aA,hv,bA,hc⟩:=h;refine⟨h0,a,aA,hv,bA,fun hn=>?_⟩;obtain⟨b,off,ha,g1,g2,g3⟩:=hc hn;exact⟨b,off,ha,Nat.zero_le _,zD (g3 0 hn).1,g3⟩
theorem qH.all{w:World}{lo hi:Nat}{v0 v1 v2:Value}{s:zL}(h:qH w lo hi v0 v1 v2 s):qH w 0 w.heap.size v0 v1 v2 s:=⟨h.1,h.2.1.all,h.2.2⟩
theorem qV.all{w:World}{lo hi:Nat}{v:Value}{n:Nat}{f:Nat->Int}(h:qV w lo hi v n f):qV w 0 w.heap.size v n f:=by
  obtain⟨h0,a,aA,hv,bA,hc⟩:=h;refine⟨h0,a,aA,hv,bA,fun hn=>?_⟩;obtain⟨b,off,ha,g1,g2,g3⟩:=hc hn;exact⟨b,off,ha,Nat.zero_le _,zD (g3 0 hn),g3⟩
theorem zJX{f g:Nat->zL}{kv aA:Nat->Value}{k:Nat}(h:∀i,i<k->f i=g i/\kv i=aA i):sc f kv k=sc g aA k:=by
  induction k with
  | zero=>rfl
  | succ k ih=>
    unfold sc;rw[ih (fun i hi=>h i (by omega)),(h k (by omega)).1,(h k (by omega)).2]
theorem zGc(f:Nat->zL)(kv:Nat->Value)(k m:Nat):sc f kv (k+m)=sc f kv k ++ sc (fun i=>f (k+i)) (fun i=>kv (k+i)) m:=by
  induction m with
  | zero=>simp[sc]
  | succ m ih=>
    show sc f kv (k+m) ++ [.int .i64 (f (k+m)).zRi,kv (k+m),.string (f (k+m)).data]=sc f kv k ++ (sc (fun i=>f (k+i)) (fun i=>kv (k+i)) m ++ [.int .i64 (f (k+m)).zRi,kv (k+m),.string (f (k+m)).data]);rw[ih,List.append_assoc]
theorem zOH{f:Nat->zL}{kv:Nat->Value}{k n j:Nat}{u:Value}(h:k<=n)(hj:(sc f kv k)[j]?=some u):(sc f kv n)[j]?=some u:=by
  obtain⟨m,rfl⟩:=Nat.exists_eq_add_of_le h;have aA:=(List.getElem?_eq_some_iff.1 hj).1;rw[zGc,List.getElem?_append_left aA];exact hj
theorem zOp{f:Nat->zL}{kv:Nat->Value}{k m j:Nat}{u:Value}(hj:(sc (fun i=>f (k+i)) (fun i=>kv (k+i)) m)[j]?=some u):(sc f kv (k+m))[k*3+j]?=some u:=by
  rw[zGc,List.getElem?_append_right (by rw[zDr];omega),zDr];rw[show k*3+j - k*3=j by omega];exact hj
theorem zHd(f:Nat->zL)(i:Nat)(s:zL):∀n,ym (fun j=>if j=i then s else f j) n<=ym f n+(if i<n then zAN s else 0)
  | 0=>Nat.zero_le _
  | n+1=>by
    have ih:=zHd f i s n;show ym (fun j=>if j=i then s else f j) n+zAN (if n=i then s else f n)<=ym f n+zAN (f n)+_;by_cases e:n=i
    · rw[if_pos e,if_pos (by omega)]
      rw[if_neg (by omega)]at ih;omega
    · rw[if_neg e]
      by_cases e2:i<n
      · rw[if_pos e2]at ih
        rw[if_pos (by omega)];omega
      · rw[if_neg e2]at ih
        rw[if_neg (by omega)];omega
theorem zJJ(p:zI)(i:Nat)(s:zL):qC (yF p i s)<=qC p+zAN s:=by
  have h:=zHd p.s i s p.n;have h2:(if i<p.n then zAN s else 0)<=zAN s:=(by split<;>omega);show p.n+ym (fun j=>if j=i then s else p.s j) p.n+p.hn<=p.n+ym p.s p.n+p.hn+zAN s;omega
theorem zQy{p:zI}{s:zL}{cv:Nat->Value}{kv:Value}{aA:Nat}(h:aA<p.n) :
    sc p.s cv aA ++ [.int .i64 s.zRi,kv,.string s.data] ++ sc (fun i=>p.s (aA+1+i)) (fun i=>cv (aA+1+i)) (p.n - (aA+1))=sc (yF p aA s).s (fun j=>if j=aA then kv else cv j) p.n:=by
  have e:=zGc (yF p aA s).s (fun j=>if j=aA then kv else cv j) (aA+1) (p.n - (aA+1));rw[show aA+1+(p.n - (aA+1))=p.n by omega]at e;rw[e];congr 1
  · show _=sc (yF p aA s).s (fun j=>if j=aA then kv else cv j) aA ++ [.int .i64 ((yF p aA s).s aA).zRi,(if aA=aA then kv else cv aA),.string ((yF p aA s).s aA).data]
    rw[show(yF p aA s).s aA=s from if_pos rfl,if_pos rfl];congr 1;exact zJX fun i hi=>⟨(if_neg (by omega:¬i=aA)).symm,(if_neg (by omega:¬i=aA)).symm⟩
  · exact zJX fun i hi=>⟨(if_neg (by omega:¬aA+1+i=aA)).symm,(if_neg (by omega:¬aA+1+i=aA)).symm⟩
theorem zMX{w:World}{base e n:Nat}{f:Nat->zL}{cv:Nat->Value}{v:Value}(hm:n<=maxLen)(h:w.ownsRow base e 3 v n (sc f cv n))(hs:∀i,i<n->qH w 0 w.heap.size (.int .i64 (f i).zRi) (cv i) (.string (f i).data) (f i)):qA w 0 w.heap.size v n f:=by
  by_cases h0:0<n
  · obtain⟨g,cA,rfl,bA,hb,dA,aA⟩:=qZ h h0
    refine⟨hm,_,cA,rfl,bA,fun _=>⟨g,0,rfl,Nat.zero_le _,dA,fun i hi=>⟨_,_,_,?_,?_,?_,hs i hi⟩⟩⟩
    · have:=(aA (i*3+0) _ (zEX f cv n i 0 hi (by omega))).1;simpa using this
    · have:=(aA (i*3+1) _ (zEX f cv n i 1 hi (by omega))).1;simpa using this
    · have:=(aA (i*3+2) _ (zEX f cv n i 2 hi (by omega))).1;simpa using this
  · obtain⟨a,cA,rfl,bA⟩:=zY h
    exact⟨hm,a,cA,rfl,bA,fun h=>absurd h h0⟩
theorem zKR(v0 v1 kv:Value)(lo hi lo' hi' aA:Nat)(p:zI)(s:zL)(w:World)(h1:zu w lo hi v0 v1 p)(h2:qH w lo' hi' (.int .i64 s.zRi) kv (.string s.data) s)(tB:aA<p.n)(hn:qC p+zAN s<=1048576) :
    Calls Tryz.prog 160 #[.agg #[v0,v1],.int .i64 (aA:Int),.agg #[.int .i64 s.zRi,kv,.string s.data]] w (zHZ (yF p aA s) w):=by
  have Hp:=zT h1;have Hs:=zT h2;have Hn:=zT hn;have jC:p.n<=1048576:=(by unfold qC at hn;omega);have gC:p.hn<=1048576:=(by unfold qC at hn;omega);obtain⟨a,c,a',c',rfl,rfl⟩:=h1.form;obtain⟨ka,kc,rfl⟩:=h2.form;have mc:p.n<=c:=(by obtain⟨⟨_,_,_,e,h,_⟩,_⟩:=h1;simp only[Value.slice.injEq,true_and]at e;omega);obtain⟨cv,cB,mA⟩:=h1.1.values;obtain⟨b,off,rfl,sB,mB,fA⟩:=mA (by omega);have jB:=zT cB;have jA:=zT fA;have bB:b<w.heap.size:=by
    have:=fA 0 _ (by have:=zEX p.s cv p.n 0 0 (by omega) (by omega);simpa using this);exact zD this
  obtain⟨i1,fB,kA⟩:=Option.map_eq_some_iff.1 zEq;simp only[Prod.mk.injEq]at kA;have gA:=zT (And.intro fB kA);clear h1 h2 hn cB mA fA fB kA sB mB;have iB:=zC w (.cells #[.slice (some ⟨b,off,none⟩) p.n c,.slice a' p.hn c'] 33);have eB:=zA iB (zC _ (.cells #[.int .i64 s.zRi,.slice ka s.kn kc,.string s.data] 127));have oA:=zA eB (zC _ (.cells #[.slice none 0 0,.slice none 0 0] 33));have HB:=zT (((zc.zRZ w (.slice (some ⟨b,off,none⟩) p.n c) (.slice a' p.hn c') 33).zRX (zC _ (.cells #[.int .i64 s.zRi,.slice ka s.kn kc,.string s.data] 127))).zRX (zC _ (.cells #[.slice none 0 0,.slice none 0 0] 33)));have rA:=(yR.zRZ (w.alloc (.cells #[.slice (some ⟨b,off,none⟩) p.n c,.slice a' p.hn c'] 33)) (.int .i64 s.zRi) (.slice ka s.kn kc) (.string s.data) 127).zRX (zC _ (.cells #[.slice none 0 0,.slice none 0 0] 33));rw[World.size_alloc]at rA;have HS:=zT rA;have aB:=zc.zRZ ((w.alloc (.cells #[.slice (some ⟨b,off,none⟩) p.n c,.slice a' p.hn c'] 33)).alloc (.cells #[.int .i64 s.zRi,.slice ka s.kn kc,.string s.data] 127)) (.slice none 0 0) (.slice none 0 0) 33;rw[World.size_alloc,World.size_alloc]at aB;have HR:=zT aB;clear iB eB rA aB;go_enter Tryz.func160,Tryz.ntmps160;go_wp2_with fail;generalize hW:((w.alloc (.cells #[.slice (some ⟨b,off,none⟩) p.n c,.slice a' p.hn c'] 33)).alloc (.cells #[.int .i64 s.zRi,.slice ka s.kn kc,.string s.data] 127)).alloc (.cells #[.slice none 0 0,.slice none 0 0] 33)=W at HB HS HR oA ⊢;have hz:W.heap.size=w.heap.size+3:=(by rw[<-hW,World.size_alloc,World.size_alloc,World.size_alloc]);clear hW;obtain⟨⟨x0,x1⟩,⟨x2,x3⟩⟩:=HB.out;obtain⟨⟨y0,y1⟩,⟨y2,y3⟩,⟨y4,y5⟩⟩:=HS.out;have nB:(aA:Int)<=(c:Int):=(by omega);have n0:W.heap.size≠w.heap.size:=(by omega);have n1:W.heap.size≠w.heap.size+1:=(by omega);go_region_held3 (fun w'=>w'.cell? ⟨w.heap.size,0,none⟩=some (.slice (some ⟨b,off,none⟩) p.n c)/\w'.cell? ⟨w.heap.size+1,0,none⟩=some (.int .i64 s.zRi)/\w'.cell? ⟨w.heap.size+1,1,none⟩=some (.slice ka s.kn kc)/\w'.cell? ⟨w.heap.size+1,2,none⟩=some (.string s.data)) (go_keep)
    (first
      | (refine step_append_grows rfl (.tmp 12) (.tmp 14) 31 rfl 127 i1 (.agg #[.int .i64 0,.slice none 0 0,.string ⟨#[]⟩]) 3 48 (by kernel_rfl) gA.out.1 gA.out.2.1 gA.out.2.2.1 gA.out.2.2.2 rfl (by decide) (some ⟨b,off,none⟩) aA aA (sc p.s cv aA) (by simp[Act.eval]) (fun e=>by cases e) (zDr _ _ _) ?_ ⟨W.heap.size,0,none⟩ 1 1 [.int .i64 s.zRi,.slice ka s.kn kc,.string s.data] (by simp[Act.eval]) rfl ?_ (zRG _ _ _ _ _) (by omega) (by unfold maxLen;omega) (by omega) ?_
         exact fun b1 e j u hj=>by
           simp only[Option.some.injEq]at e;subst e;rw[add_lit];exact((zA oA (zC W _)).drew.cell (p:=⟨b,off+j,none⟩) bB).trans (jA.out j u (zOH (by omega) hj))
         exact zQi W _ _ _ _;intro v4 w4 cA dA;obtain⟨g4,c4,rfl,_⟩:=cA.form (by omega);have lA:Below W.heap.size W w4:=zA (zC W _) (zK (zCu dA));have iA:=zT (zEJ (B:=W.heap.size) cA (by simp));obtain⟨⟨p0,p1⟩,⟨p2,p3⟩⟩:=HB.out.zRX lA;obtain⟨⟨p4,p5⟩,⟨p6,p7⟩,⟨p8,p9⟩⟩:=HS.out.zRX lA;clear cA dA))
  have pB:=zA oA lA;have cC:(aA:Int)+1<=(p.n:Int):=(by omega);have aC:=lA.size;clear x0 x1 x2 x3 y0 y1 y2 y3 y4 y5 p4 p5 p6 p7 p8 p9 HS;have lB:Hid (∀j u,(sc (fun i=>p.s (aA+1+i)) (fun i=>cv (aA+1+i)) (p.n - (aA+1)))[j]?=some u->w4.cell? ((⟨b,off+(aA+1)*3,none⟩:Addr).add j)=some u):=fun j u hj=>by
    have e:=zOp (f:=p.s) (kv:=cv) hj;rw[show aA+1+(p.n - (aA+1))=p.n by omega]at e;rw[add_lit,show off+(aA+1)*3+j=off+((aA+1)*3+j)by omega];exact(pB.cell (p:=⟨b,off+((aA+1)*3+j),none⟩) bB).trans (jA.out _ u e)
  have dC:Hid (c=aA+1->∀j u,(sc (fun i=>p.s (aA+1+i)) (fun i=>cv (aA+1+i)) (p.n - (aA+1)))[j]?=some u->w4.cell? ((⟨b,off,none⟩:Addr).add j)=some u):=fun fC j u hj=>by
    rw[show p.n - (aA+1)=0 by omega]at hj;simp[sc]at hj
  have sA:Hid (∀u∈sc (fun i=>p.s (aA+1+i)) (fun i=>cv (aA+1+i)) (p.n - (aA+1)),u.oneCell'=true):=zPf _ _ _ (fun i hi=>by obtain⟨eC,iC,e⟩:=(jB.out (aA+1+i) (by omega)).form;rw[e];rfl);go_wp2_with (first
    | (at_builtin;refine qJ rfl _ _ 31 rfl W.heap.size 127 i1 (.agg #[.int .i64 0,.slice none 0 0,.string ⟨#[]⟩]) 3 48 (by kernel_rfl) gA.out.1 gA.out.2.1 gA.out.2.2.1 gA.out.2.2.2 rfl (by decide) (.slice (some ⟨g4,0,none⟩) (aA+1) c4) (aA+1) _ rfl iA.out _ (p.n - (aA+1)) _ (sc (fun i=>p.s (aA+1+i)) (fun i=>cv (aA+1+i)) (p.n - (aA+1))) rfl (zDr _ _ _) sA.out (by intro hm;exact⟨b,off+(aA+1)*3,(by first | rw[if_neg (by omega)] | rfl | simp),fun j u hj=>by have hq:=lB.out j u hj;rw[add_lit]at hq;exact hq⟩) ?c3 ?c4 ?c5 ?_))
  case c3=>unfold maxLen;omega
  case c4=>omega
  case c5=>omega
  all_goals
    intro v5 w5 bA eA _;have hl:=zQy (s:=s) (cv:=cv) (kv:=.slice ka s.kn kc) tB;simp only[List.append_assoc,List.cons_append,List.nil_append]at hl bA;rw[show aA+1+(p.n - (aA+1))=p.n by omega,hl]at bA;clear hl;obtain⟨g5,c5,rfl,_⟩:=bA.form (by omega);have nA:Below W.heap.size W w5:=lA.grown eA aC (fun k hk=>(iA.out.lt k hk).1);have pA:=zA oA nA;have oB:Hid (zu w5 0 w5.heap.size (.slice (some ⟨g5,0,none⟩) p.n c5) (.slice a' p.hn c') (yF p aA s)):=by
      refine⟨zMX (by show p.n<=maxLen;unfold maxLen;omega) bA (fun i hi=>?_),(Hp.out.2.zRX pA).all⟩;by_cases e:i=aA
      · subst e
        rw[show(yF p i s).s i=s from if_pos rfl];simp only[if_true];exact(Hs.out.zRX pA).all
      · rw[show(yF p aA s).s i=p.s i from if_neg e]
        simp only[if_neg e];exact((jB.out i hi).zRX pA).all
    have vB:=zT (HR.out.zRX nA);have kC:w.heap.size+3<=w5.heap.size:=(by have:=nA.size;omega);clear bA eA p0 p1 p2 p3;obtain⟨⟨p0,p1⟩,⟨p2,p3⟩⟩:=HB.out.zRX nA;go_wp2_with fail;refine(zB3 _ _ 0 w5.heap.size (yF p aA s) _ oB.out (by have:=zJJ p aA s;have:=Hn.out;omega)).mono ?_;rintro e w6 ⟨s0,s1,rfl,tA,vA⟩;obtain⟨a6,c6,a7,c7,rfl,rfl⟩:=tA.form;have kB:=zT (vB.out.zRX vA);have rB:=zT tA;have bC:=zA pA vA;clear tA vA p0 p1 p2 p3;obtain⟨⟨u0,u1⟩,⟨u2,u3⟩⟩:=kB.out;go_wp2;have gB:=kB.out.put (.slice a6 (yF p aA s).n c6) (.slice a7 (yF p aA s).hn c7);have dB:=zPj (R:=w.heap.size+1+1) rB.out (by omega) (by omega) (Nat.le_refl _) bC;exact bodyPost_ret (v:=.agg #[.slice a6 (yF p aA s).n c6,.slice a7 (yF p aA s).hn c7]) (by simp[results,Tryz.results160,go_sem,gB.1.1,gB.2.1]) rfl ⟨_,_,rfl,dB.1,dB.2⟩
theorem zQC(w:World)(a0 a1 x0 x1 x2:Value)(t1 t2 t3:TypeId) :
  zc (((w.alloc (.cells #[a0,a1] t1)).alloc (.cells #[x0,x1,x2] t2)).alloc (.cells #[.slice none 0 0,.slice none 0 0,.int .i64 0,.int .i64 0,.int .i64 0] t3)) w.heap.size a0 a1/\
  yR (((w.alloc (.cells #[a0,a1] t1)).alloc (.cells #[x0,x1,x2] t2)).alloc (.cells #[.slice none 0 0,.slice none 0 0,.int .i64 0,.int .i64 0,.int .i64 0] t3)) (w.heap.size+1) x0 x1 x2/\
  zDg (((w.alloc (.cells #[a0,a1] t1)).alloc (.cells #[x0,x1,x2] t2)).alloc (.cells #[.slice none 0 0,.slice none 0 0,.int .i64 0,.int .i64 0,.int .i64 0] t3)) (w.heap.size+1+1) (.slice none 0 0) (.slice none 0 0) (.int .i64 0) (.int .i64 0) (.int .i64 0)/\
  Below w.heap.size w (((w.alloc (.cells #[a0,a1] t1)).alloc (.cells #[x0,x1,x2] t2)).alloc (.cells #[.slice none 0 0,.slice none 0 0,.int .i64 0,.int .i64 0,.int .i64 0] t3))/\
  (((w.alloc (.cells #[a0,a1] t1)).alloc (.cells #[x0,x1,x2] t2)).alloc (.cells #[.slice none 0 0,.slice none 0 0,.int .i64 0,.int .i64 0,.int .i64 0] t3)).heap.size=w.heap.size+3:=by
 refine⟨((zc.zRZ w a0 a1 t1).zRX (zC _ _)).zRX (zC _ _),?_,?_,zA (zA (zC _ _) (zC _ _)) (zC _ _),by simp⟩
 ·have:=(yR.zRZ (w.alloc (.cells #[a0,a1] t1)) x0 x1 x2 t2).zRX (zC _ (.cells #[.slice none 0 0,.slice none 0 0,.int .i64 0,.int .i64 0,.int .i64 0] t3));rw[World.size_alloc]at this;exact this
 ·have:=zDg.zRZ ((w.alloc (.cells #[a0,a1] t1)).alloc (.cells #[x0,x1,x2] t2)) (.slice none 0 0) (.slice none 0 0) (.int .i64 0) (.int .i64 0) (.int .i64 0) t3;rw[World.size_alloc,World.size_alloc]at this;exact this
theorem zDU(v0 v1 kv:Value)(lo hi lo' hi':Nat)(p:zI)(s:zL)(w:World)(h1:zu w lo hi v0 v1 p)(h2:qH w lo' hi' (.int .i64 s.zRi) kv (.string s.data) s)(hn:qC p+zAN s<=1048576) :
  Calls Tryz.prog 100 #[.agg #[v0,v1],.agg #[.int .i64 s.zRi,kv,.string s.data]] w (zM1 (qx p s) w):=by
 have Hp:=zT h1;have Hs:=zT h2;have Hn:=zT hn;obtain⟨a,c,a',c',rfl,rfl⟩:=h1.form;obtain⟨ka,kc,rfl⟩:=h2.form;have aC:s.kn<=1048576:=by unfold zAN at hn;omega
 have bC:p.n<=1048576:=by unfold qC at hn;omega
 have jB:=zQC w (.slice a p.n c) (.slice a' p.hn c') (.int .i64 s.zRi) (.slice ka s.kn kc) (.string s.data) 33 127 151;clear h1 h2 hn;go_enter Tryz.func100,Tryz.ntmps100;go_wp2_with fail;generalize ((w.alloc (.cells #[.slice a p.n c,.slice a' p.hn c'] 33)).alloc (.cells #[.int .i64 s.zRi,.slice ka s.kn kc,.string s.data] 127)).alloc (.cells #[.slice none 0 0,.slice none 0 0,.int .i64 0,.int .i64 0,.int .i64 0] 151)=W at jB ⊢;obtain⟨hB,hX,hR,cB,hz⟩:=jB;refine(zAA _ _ lo hi p _ (Hp.out.zRX cB)).mono ?_;rintro e w1 ⟨⟨t,rfl,ht⟩,kA⟩;have mB:=zT (hB.zRX kA);have aB:=zT (hX.zRX kA);have vA:=zT (hR.zRX kA);have sA:=zA cB kA;have sB:w.heap.size+3<=w1.heap.size:=by have:=kA.size;omega
 clear hB hX hR cB kA hz;by_cases eA:zx p
 ·have rA:=zT eA;obtain rfl:t=true:=ht.2 eA;clear ht eA;obtain⟨⟨y0,y1⟩,⟨y2,y3⟩,⟨y4,y5⟩⟩:=aB.out;go_wp2_with fail;refine(zBj _ _ _ lo' hi' s _ (Hs.out.zRX sA)).mono ?_;rintro e w2 ⟨⟨t,rfl,ht⟩,gA⟩;have eB:=zT (mB.out.zRX gA);have dB:=zT (aB.out.zRX gA);have pA:=zT (vA.out.zRX gA);have mA:=zA sA gA;have rB:w.heap.size+3<=w2.heap.size:=(by have:=gA.size;omega);clear gA sA mB aB vA sB y0 y1 y2 y3 y4 y5;by_cases hF:qE s
  ·have HF:=zT hF;obtain rfl:t=true:=ht.2 hF;clear ht hF;obtain⟨⟨u0,u1⟩,⟨u2,u3⟩,⟨u4,u5⟩,⟨u6,u7⟩,⟨u8,u9⟩⟩:=pA.out;go_wp2;have aA:=pA.out.put (.slice none 0 0) (.slice none 0 0) (.int .i64 0) (.int .i64 0) (.int .i64 1);have bA:=zCw (R:=w.heap.size+1+1) (u2:=.int .i64 0) (u3:=.int .i64 0) (u4:=.int .i64 1) (by omega) mA;rw[zGu (fun h=>h.2.1 HF.out)];exact bodyPost_ret (v:=.agg #[.slice none 0 0,.slice none 0 0,.int .i64 0,.int .i64 0,.int .i64 1]) (by simp[results,Tryz.results100,go_sem,aA.1.1,aA.2.1.1,aA.2.2.1.1,aA.2.2.2.1.1,aA.2.2.2.2.1]) rfl ⟨_,_,rfl,bA.1,bA.2⟩
  ·have HF:=zT hF;obtain rfl:t=false:=zQ ht hF;clear ht hF;obtain⟨⟨x0,x1⟩,⟨x2,x3⟩⟩:=eB.out;obtain⟨⟨y0,y1⟩,⟨y2,y3⟩,⟨y4,y5⟩⟩:=dB.out;go_wp2_with fail;refine(zFI _ _ _ _ p.n lo hi lo' hi' p.s s _ (Hp.out.1.zRX mA) (Hs.out.zRX mA)).mono ?_;rintro e w3 ⟨⟨t,rfl,ht⟩,jA⟩;rw[zI4 rA.out HF.out]at ht;have tA:=zT (eB.out.zRX jA);have fB:=zT (dB.out.zRX jA);have iA:=zT (pA.out.zRX jA);have fA:=zA mA jA;have tB:w.heap.size+3<=w3.heap.size:=(by have:=jA.size;omega);clear jA mA eB dB pA rB x0 x1 x2 x3 y0 y1 y2 y3 y4 y5;by_cases hT:zAg p s
   ·have HT:=zT (And.intro rA.out (And.intro HF.out hT));obtain rfl:t=true:=ht.2 hT;clear ht hT;obtain⟨⟨x0,x1⟩,⟨x2,x3⟩⟩:=tA.out;go_wp2_with fail;refine(zIp _ p.n lo hi p.s _ (Hp.out.1.zRX fA)).mono ?_;rintro e w4 ⟨⟨i,kB,rfl⟩ | ⟨oB,rfl⟩,dA⟩
    ·have gB:=zT (tA.out.zRX dA);have lB:=zT (fB.out.zRX dA);have lA:=zT (iA.out.zRX dA);have nA:=zA fA dA;have dC:w.heap.size+3<=w4.heap.size:=(by have:=dA.size;omega);have Hi:=zT kB;have cC:¬(i:Int)<0:=(by omega);clear dA tA fB iA fA x0 x1 x2 x3 tB kB;obtain⟨⟨x0,x1⟩,⟨x2,x3⟩⟩:=gB.out;obtain⟨⟨y0,y1⟩,⟨y2,y3⟩,⟨y4,y5⟩⟩:=lB.out;obtain⟨⟨u0,u1⟩,⟨u2,u3⟩,⟨u4,u5⟩,⟨u6,u7⟩,⟨u8,u9⟩⟩:=lA.out;have n0:w.heap.size+1+1≠w.heap.size:=(by omega);have n1:w.heap.size+1+1≠w.heap.size+1:=(by omega);go_wp2_with fail;go_region_held3 (fun w'=>w'.cell? ⟨w.heap.size,0,none⟩=some (.slice a p.n c)/\w'.cell? ⟨w.heap.size,1,none⟩=some (.slice a' p.hn c')/\w'.cell? ⟨w.heap.size+1,0,none⟩=some (.int .i64 s.zRi)/\w'.cell? ⟨w.heap.size+1,1,none⟩=some (.slice ka s.kn kc)/\w'.cell? ⟨w.heap.size+1,2,none⟩=some (.string s.data)) (go_keep)
      (first
       | (go_at_call 160;refine(zKR _ _ _ lo hi lo' hi' i p s _ ?_ ?_ Hi.out.1 Hn.out).mono ?_;(exact Hp.out.zRX nA.drew);(exact Hs.out.zRX nA.drew);rintro e w5 ⟨s0,s1,rfl,bB,iB⟩;obtain⟨a5,c5,a6,c6,rfl,rfl⟩:=bB.form;have cA:=zK iB;obtain⟨⟨p0,p1⟩,⟨p2,p3⟩⟩:=gB.out.zRX cA;obtain⟨⟨p4,p5⟩,⟨p6,p7⟩,⟨p8,p9⟩⟩:=lB.out.zRX cA;obtain⟨⟨r0,r1⟩,⟨r2,r3⟩,⟨r4,r5⟩,⟨r6,r7⟩,⟨r8,r9⟩⟩:=lA.out.zRX cA))
     have nB:Hid (zy w5 w4.heap.size w5.heap.size (.slice a5 (yF p i s).n c5) (.slice a6 (yF p i s).hn c6) (yF p i s)):=bB;have vB:=zT (lA.out.zRX cA);have pB:=zA nA cA;clear bB iB cA;go_wp2;have oA:=vB.out.put (.slice a5 (yF p i s).n c5) (.slice a6 (yF p i s).hn c6) (.int .i64 (i:Int)) (.int .i64 s.zRi) (.int .i64 0);have bA:=zHU (R:=w.heap.size+1+1) (u2:=.int .i64 (i:Int)) (u3:=.int .i64 s.zRi) (u4:=.int .i64 0) nB.out (by omega) (by omega) (Nat.le_refl _) pB;rw[zHS HT.out Hi.out];exact bodyPost_ret (v:=.agg #[.slice a5 (yF p i s).n c5,.slice a6 (yF p i s).hn c6,.int .i64 (i:Int),.int .i64 s.zRi,.int .i64 0]) (by simp[results,Tryz.results100,go_sem,oA.1.1,oA.2.1.1,oA.2.2.1.1,oA.2.2.2.1.1,oA.2.2.2.2.1]) rfl ⟨_,_,rfl,bA.1,bA.2⟩
    ·have lA:=zT (iA.out.zRX dA);have nA:=zA fA dA;clear dA tA fB iA fA x0 x1 x2 x3;obtain⟨⟨u0,u1⟩,⟨u2,u3⟩,⟨u4,u5⟩,⟨u6,u7⟩,⟨u8,u9⟩⟩:=lA.out;go_wp2;have aA:=lA.out.put (.slice none 0 0) (.slice none 0 0) (.int .i64 0) (.int .i64 0) (.int .i64 6);have bA:=zCw (R:=w.heap.size+1+1) (u2:=.int .i64 0) (u3:=.int .i64 0) (u4:=.int .i64 6) (by omega) nA;rw[zE1 HT.out oB];exact bodyPost_ret (v:=.agg #[.slice none 0 0,.slice none 0 0,.int .i64 0,.int .i64 0,.int .i64 6]) (by simp[results,Tryz.results100,go_sem,aA.1.1,aA.2.1.1,aA.2.2.1.1,aA.2.2.2.1.1,aA.2.2.2.2.1]) rfl ⟨_,_,rfl,bA.1,bA.2⟩
   ·have HT:=zT hT;obtain rfl:t=false:=zQ ht hT;clear ht hT;obtain⟨⟨u0,u1⟩,⟨u2,u3⟩,⟨u4,u5⟩,⟨u6,u7⟩,⟨u8,u9⟩⟩:=iA.out;go_wp2;have aA:=iA.out.put (.slice none 0 0) (.slice none 0 0) (.int .i64 0) (.int .i64 0) (.int .i64 1);have bA:=zCw (R:=w.heap.size+1+1) (u2:=.int .i64 0) (u3:=.int .i64 0) (u4:=.int .i64 1) (by omega) fA;rw[zGu (fun h=>HT.out h.2.2)];exact bodyPost_ret (v:=.agg #[.slice none 0 0,.slice none 0 0,.int .i64 0,.int .i64 0,.int .i64 1]) (by simp[results,Tryz.results100,go_sem,aA.1.1,aA.2.1.1,aA.2.2.1.1,aA.2.2.2.1.1,aA.2.2.2.2.1]) rfl ⟨_,_,rfl,bA.1,bA.2⟩
 ·have rA:=zT eA;obtain rfl:t=false:=zQ ht eA;clear ht eA;obtain⟨⟨u0,u1⟩,⟨u2,u3⟩,⟨u4,u5⟩,⟨u6,u7⟩,⟨u8,u9⟩⟩:=vA.out;go_wp2;have aA:=vA.out.put (.slice none 0 0) (.slice none 0 0) (.int .i64 0) (.int .i64 0) (.int .i64 1);have bA:=zCw (R:=w.heap.size+1+1) (u2:=.int .i64 0) (u3:=.int .i64 0) (u4:=.int .i64 1) (by omega) sA;rw[zGu (fun h=>rA.out h.1)];exact bodyPost_ret (v:=.agg #[.slice none 0 0,.slice none 0 0,.int .i64 0,.int .i64 0,.int .i64 1]) (by simp[results,Tryz.results100,go_sem,aA.1.1,aA.2.1.1,aA.2.2.1.1,aA.2.2.2.1.1,aA.2.2.2.2.1]) rfl ⟨_,_,rfl,bA.1,bA.2⟩
def mix(f g:Nat->Int)(j:Nat):Int:=if j % 2=0 then f (j / 2)else g (j / 2)
theorem zGo(f g:Nat->Int)(i:Nat):mix f g (i*2)=f i/\mix f g (i*2+1)=g i:=by
 unfold mix;rw[if_pos (by omega),if_neg (by omega),show i*2 / 2=i by omega,show(i*2+1) / 2=i by omega];exact⟨rfl,rfl⟩
def zEW(f g:Nat->Int):Prop:=∀i,i<8->Nil (f i) (g i)
theorem zLz(f g:Nat->Int):zGn (mix f g) (fun _=>0)=true↔zEW f g:=by
 rw[zIc];constructor
 ·intro h i hi;have:=h i hi;rw[(zGo f g i).1,(zGo f g i).2]at this;exact this
 ·intro h i hi;rw[(zGo f g i).1,(zGo f g i).2];exact h i hi
def zAk(f g:Nat->Int)(b:Int):zL:={zRi:=b,kn:=8,ks:=f,kb:=g,data:=⟨#[]⟩}
open Classical in
noncomputable def zFJ(p:zI)(f g:Nat->Int)(b:Int):zD0:=if zEW f g then⟨p,0,0,0⟩else qx p (zAk f g b)
theorem zQa(w:World)(a0 a1:Value)(cs:Array Value)(t1 t2 t3:TypeId) :
  zc (((w.alloc (.cells #[a0,a1] t1)).alloc (.cells cs t2)).alloc (.cells #[.slice none 0 0,.slice none 0 0,.int .i64 0,.int .i64 0,.int .i64 0] t3)) w.heap.size a0 a1/\
  (((w.alloc (.cells #[a0,a1] t1)).alloc (.cells cs t2)).alloc (.cells #[.slice none 0 0,.slice none 0 0,.int .i64 0,.int .i64 0,.int .i64 0] t3)).heap[w.heap.size+1]?=some (.cells cs t2 (0,0))/\
  zDg (((w.alloc (.cells #[a0,a1] t1)).alloc (.cells cs t2)).alloc (.cells #[.slice none 0 0,.slice none 0 0,.int .i64 0,.int .i64 0,.int .i64 0] t3)) (w.heap.size+1+1) (.slice none 0 0) (.slice none 0 0) (.int .i64 0) (.int .i64 0) (.int .i64 0)/\
  Below w.heap.size w (((w.alloc (.cells #[a0,a1] t1)).alloc (.cells cs t2)).alloc (.cells #[.slice none 0 0,.slice none 0 0,.int .i64 0,.int .i64 0,.int .i64 0] t3))/\
  (((w.alloc (.cells #[a0,a1] t1)).alloc (.cells cs t2)).alloc (.cells #[.slice none 0 0,.slice none 0 0,.int .i64 0,.int .i64 0,.int .i64 0] t3)).heap.size=w.heap.size+3:=by
 refine⟨((zc.zRZ w a0 a1 t1).zRX (zC _ _)).zRX (zC _ _),?_,?_,zA (zA (zC _ _) (zC _ _)) (zC _ _),by simp⟩
 ·exact(zHA w (.cells #[a0,a1] t1) (.cells cs t2) _).1
 ·have:=zDg.zRZ ((w.alloc (.cells #[a0,a1] t1)).alloc (.cells cs t2)) (.slice none 0 0) (.slice none 0 0) (.int .i64 0) (.int .i64 0) (.int .i64 0) t3;rw[World.size_alloc,World.size_alloc]at this;exact this
theorem zKV(v0 v1:Value)(lo hi:Nat)(p:zI)(f g:Nat->Int)(b:Int)(w:World)(h1:zu w lo hi v0 v1 p)(hn:qC p+8<=1048576) :
  Calls Tryz.prog 161 #[.agg #[v0,v1],.agg (zp (mix f g)),.int .i64 b] w (zM1 (zFJ p f g b) w):=by
 have Hp:=zE h1;obtain⟨a,c,a',c',rfl,rfl⟩:=h1.form;have Hn:=zE hn;clear h1 hn;have oA:=zQa w (.slice a p.n c) (.slice a' p.hn c') (zp (mix f g)) 33 155 151;have dA:Hid ((Tryz.prog.info? 155).map (·.size)=some (zp (mix f g)).size):=by
  show _=_;rw[qB];exact zBy
 have eB:∀w,(binOp .eql 155 (.agg (zp (mix f g))) (.agg #[Value.int .i64 0,Value.int .i64 0,Value.int .i64 0,Value.int .i64 0,Value.int .i64 0,Value.int .i64 0,Value.int .i64 0,Value.int .i64 0,Value.int .i64 0,Value.int .i64 0,Value.int .i64 0,Value.int .i64 0,Value.int .i64 0,Value.int .i64 0,Value.int .i64 0,Value.int .i64 0])).run Tryz.prog w = .ok (.bool (zGn (mix f g) (fun _=>0))) w:=fun w=>zKh (mix f g) (fun _=>0) w
 go_enter Tryz.func161,Tryz.ntmps161;go_upto_region 1 with fail;generalize ((w.alloc (.cells #[.slice a p.n c,.slice a' p.hn c'] 33)).alloc (.cells (zp (mix f g)) 155)).alloc (.cells #[.slice none 0 0,.slice none 0 0,.int .i64 0,.int .i64 0,.int .i64 0] 151)=W at oA ⊢;obtain⟨hB,hA,hR,cA,hz⟩:=oA;have HA:=zE hA;have HB:=zE hB;have HR:=zE hR;clear hA hR;obtain⟨⟨x0,x1⟩,⟨x2,x3⟩⟩:=HB.out;by_cases hN:zEW f g
 ·have HN:=zE hN;have iB:=(zLz f g).2 hN;clear hN;go_wp2_with (first
   | (refine wpList_load_row rfl 155 (.tmp 4) rfl (w.heap.size+1) rfl 155 (zp (mix f g)) (0,0) _ HA.out zHM rfl dA.out ?_)
   | fail)
  refine(zB3 _ _ lo hi p W (Hp.out.zRX cA) (by have:=Hn.out;omega)).mono ?_;rintro e w1 ⟨s0,s1,rfl,lA,jA⟩;obtain⟨a1,c1,a2,c2,rfl,rfl⟩:=lA.form;have kB:=zE lA;have vA:=zE (HR.out.zRX jA);have fB:=zA cA jA;have mB:=jA.size;clear lA jA cA x0 x1 x2 x3 hB;obtain⟨⟨u0,u1⟩,⟨u2,u3⟩,⟨u4,u5⟩,⟨u6,u7⟩,⟨u8,u9⟩⟩:=vA.out;go_wp2;have aA:=vA.out.put (.slice a1 p.n c1) (.slice a2 p.hn c2) (.int .i64 0) (.int .i64 0) (.int .i64 0);have eA:=zHU (R:=w.heap.size+1+1) (u2:=.int .i64 0) (u3:=.int .i64 0) (u4:=.int .i64 0) kB.out (by omega) (by omega) (Nat.le_refl _) fB;rw[show zFJ p f g b=⟨p,0,0,0⟩from if_pos HN.out];exact bodyPost_ret (v:=.agg #[.slice a1 p.n c1,.slice a2 p.hn c2,.int .i64 0,.int .i64 0,.int .i64 0]) (by simp[results,Tryz.results161,go_sem,aA.1.1,aA.2.1.1,aA.2.2.1.1,aA.2.2.2.1.1,aA.2.2.2.2.1]) rfl ⟨_,_,rfl,eA.1,eA.2⟩
 ·have HN:=zE hN;have iB:zGn (mix f g) (fun _=>0)=false:=Bool.eq_false_iff.2 (fun h=>hN ((zLz f g).1 h));clear hN;have nA:=zBA 62 61 (.agg #[.int .i64 0,.int .i64 0]) 2 16 (by kernel_rfl) zKy rfl 8 (by omega) (by omega);have jB:∀w,(Instr.makeSlice 62 (.int .i64 8) (.int .i64 8)).run Tryz.prog w = .ok (.slice (some ⟨w.heap.size,0,none⟩) 8 8) (w.alloc (.cells (zA2 #[.int .i64 0,.int .i64 0] 8) 61)):=nA;clear nA;have aB:=zC W (.cells (zA2 #[.int .i64 0,.int .i64 0] 8) 61);have mA:=zC W (.cells (zp (mix f g)) 61);have iA:=zE mA;have cB:(W.alloc (.cells (zA2 #[.int .i64 0,.int .i64 0] 8) 61)).heap[w.heap.size+1]?=some (.cells (zp (mix f g)) 155 (0,0)):=(aB.block _ (by omega)).trans HA.out;have gA:Hid (∀ty,(Builtin.copy_ #[62,62] ty #[.slice (some ⟨W.heap.size,0,none⟩) 8 8,.slice (some ⟨w.heap.size+1,0,none⟩) 8 8]).run Tryz.prog (W.alloc (.cells (zA2 #[.int .i64 0,.int .i64 0] 8) 61)) = .ok (goInt 8) (W.alloc (.cells (zp (mix f g)) 61))):=by
   intro ty;have tA:(zA2 #[.int .i64 0,.int .i64 0] 8).size=16:=(by kernel_rfl);have hr:=zEO (P:=Tryz.prog) (W.alloc (.cells (zA2 #[.int .i64 0,.int .i64 0] 8) 61)) 62 62 ty 61 2 W.heap.size 0 8 8 ⟨w.heap.size+1,0,none⟩ 8 8 (zA2 #[.int .i64 0,.int .i64 0] 8) 61 (zp (mix f g)).toList (by kernel_rfl) zER (heap_alloc_last _ _) (by simp[zp]) (fun j v hj=>by
     have fA:j<16:=by
      have:=(List.getElem?_eq_some_iff.1 hj).1;simpa[qB]using this
     have e:(zp (mix f g)).toList[j]?=some (.int .i64 (mix f g j)):=(by rw[Array.getElem?_toList];exact yO (mix f g) fA);rw[e]at hj;simp only[Option.some.injEq]at hj;subst hj;rw[add_lit,Nat.zero_add];exact(zJ cB (yO (mix f g) fA)).1) (by rw[tA];simp[zp]) (fun v hv=>(Array.all_eq_true_iff_forall_mem.1 (zAq _)) v (by simpa using hv))
   have e0:((zA2 #[.int .i64 0,.int .i64 0] 8).toList.drop 16) = []:=List.drop_eq_nil_of_le (by simp[tA]);have e1:((zA2 #[.int .i64 0,.int .i64 0] 8).toList.take 0 ++ (zp (mix f g)).toList ++ (zA2 #[.int .i64 0,.int .i64 0] 8).toList.drop (0+(zp (mix f g)).toList.length)).toArray=zp (mix f g):=by
    have hl:(zp (mix f g)).toList.length=16:=(by simp[zp]);rw[hl,Nat.zero_add,e0];simp
   rw[e1,World.setRow_alloc_new]at hr;exact hr
  have Hz:=zE hz;clear mA cB aB hz;have gB:=gA.out 3;obtain⟨⟨x4,x5⟩,⟨x6,x7⟩⟩:=HB.out.zRX iA.out;go_wp2_with (first
   | (refine wpList_load_row rfl 155 (.tmp 4) rfl (w.heap.size+1) rfl 155 (zp (mix f g)) (0,0) _ HA.out zHM rfl dA.out ?_)
   | fail)
  have HS:Hid (qH (W.alloc (.cells (zp (mix f g)) 61)) 0 (W.alloc (.cells (zp (mix f g)) 61)).heap.size (.int .i64 (zAk f g b).zRi) (.slice (some ⟨W.heap.size,0,none⟩) 8 8) (.string (zAk f g b).data) (zAk f g b)):=by
   refine⟨rfl,⟨by show 8<=maxLen;unfold maxLen;omega,_,8,rfl,Nat.le_refl _,fun _=>⟨W.heap.size,0,rfl,Nat.zero_le _,by simp,fun i hi=>?_⟩⟩,rfl,by show 0<=maxLen;omega⟩;have nB:i<8:=hi;have rA:(W.alloc (.cells (zp (mix f g)) 61)).heap[W.heap.size]?=some (.cells (zp (mix f g)) 61):=heap_alloc_last _ _;have g1:=(zJ rA (yO (mix f g) (show i*2<16 by omega))).1;have g2:=(zJ rA (yO (mix f g) (show i*2+1<16 by omega))).1;rw[(zGo f g i).1]at g1;rw[(zGo f g i).2]at g2;rw[Nat.zero_add];exact⟨g1,g2⟩
  refine(zDU _ _ _ lo hi 0 _ p (zAk f g b) _ (Hp.out.zRX (zA cA iA.out)) HS.out (by show qC p+(8+0)<=_;exact Hn.out)).mono ?_;rintro e w3 ⟨s0,s1,rfl,bB,sA⟩;have bA:=zA iA.out sA;have hz:=Hz.out;have pA:=zE (HR.out.zRX bA);have dB:=zA cA bA;have lB:=bA.size;have He:Hid (zFJ p f g b=qx p (zAk f g b)):=if_neg HN.out;have kA:Hid (zy w3 W.heap.size w3.heap.size s0 s1 (qx p (zAk f g b)).zRd):=bB.zRc iA.out.size (Nat.le_refl _);generalize qx p (zAk f g b)=o at kA He ⊢;obtain⟨a1,c1,a2,c2,rfl,rfl⟩:=kA.out.form;clear bB sA bA x0 x1 x2 x3 x4 x5 x6 x7 hB HS gA gB;obtain⟨⟨u0,u1⟩,⟨u2,u3⟩,⟨u4,u5⟩,⟨u6,u7⟩,⟨u8,u9⟩⟩:=pA.out;go_wp2;have aA:=pA.out.put (.slice a1 o.zRd.n c1) (.slice a2 o.zRd.hn c2) (.int .i64 o.ps) (.int .i64 o.pb) (.int .i64 o.code);have eA:=zHU (R:=w.heap.size+1+1) (u2:=.int .i64 o.ps) (u3:=.int .i64 o.pb) (u4:=.int .i64 o.code) kA.out (by omega) (by omega) (Nat.le_refl _) dB;rw[He.out];exact bodyPost_ret (v:=.agg #[.slice a1 o.zRd.n c1,.slice a2 o.zRd.hn c2,.int .i64 o.ps,.int .i64 o.pb,.int .i64 o.code]) (by simp[results,Tryz.results161,go_sem,aA.1.1,aA.2.1.1,aA.2.2.1.1,aA.2.2.2.1.1,aA.2.2.2.2.1]) rfl ⟨_,_,rfl,eA.1,eA.2⟩
def zBD(f g:Nat->Int)(n:Nat):List (Int×Int):=(List.range n).map fun i=>(f i,g i)
theorem yE(f g:Nat->Int)(n:Nat):(zBD f g n).length=n:=by simp[zBD]
theorem zNv(f g:Nat->Int)(n:Nat):zBD f g (n+1)=zBD f g n ++ [(f n,g n)]:=by simp[zBD,List.range_succ]
theorem zK2(f g:Nat->Int){n i:Nat}(h:i<n):zf (zBD f g n) i=f i/\zh (zBD f g n) i=g i:=by
 have:(zBD f g n).getD i (0,0)=(f i,g i):=by
  rw[List.getD_eq_getElem?_getD,List.getElem?_eq_getElem (by rw[yE];exact h),Option.getD_some];simp[zBD]
 unfold zf zh;rw[this];exact⟨rfl,rfl⟩
theorem zHw{f g f' g':Nat->Int}{n:Nat}(h:∀i,i<n->f i=f' i/\g i=g' i):zBD f g n=zBD f' g' n:=by
 unfold zBD;apply List.map_congr_left;intro i hi;rw[List.mem_range]at hi;rw[(h i hi).1,(h i hi).2]
theorem zJy{w:World}{b off:Nat}{f g:Nat->Int}:∀{n:Nat},(∀i,i<n->w.cell? ⟨b,off+i*2,none⟩=some (.int .i64 (f i))/\w.cell? ⟨b,off+i*2+1,none⟩=some (.int .i64 (g i)))->∀j u,(pcl (zBD f g n))[j]?=some u->w.cell? ⟨b,off+j,none⟩=some u
 | 0,_,j,u,hj=>by simp[zBD,pcl]at hj
 | n+1,h,j,u,hj=>by
  rw[zNv,zA9]at hj;by_cases aA:j<n*2
  ·rw[List.getElem?_append_left (by rw[zA6,yE];exact aA)]at hj;exact zJy (fun i hi=>h i (by omega)) j u hj
  ·rw[List.getElem?_append_right (by rw[zA6,yE];omega),zA6,yE]at hj;obtain⟨h1,h2⟩:=h n (Nat.lt_succ_self n);have bA:j - n*2<2:=by
    have:=(List.getElem?_eq_some_iff.1 hj).1;simpa[pcl]using this
   by_cases e:j=n*2
   ·subst e;rw[h1];simpa[pcl]using hj
   ·obtain rfl:j=n*2+1:=(by omega);rw[show n*2+1 - n*2=1 by omega]at hj;rw[<-Nat.add_assoc,h2];simpa[pcl]using hj
def yo(p:zI)(xs xb:Int)(i:Nat):Int:=if Nil xs xb then 0 else zb (p.s xs.toNat) i
def zAI(p:zI)(xs xb:Int)(i:Nat):Int:=if Nil xs xb then 0 else zt (p.s xs.toNat) i
theorem zPa:pcl (zBD (fun _=>0) (fun _=>0) 8)=(zA2 #[.int .i64 0,.int .i64 0] 8).toList:=by kernel_rfl
theorem zDA(v0 v1:Value)(lo hi:Nat)(p:zI)(xs xb:Int)(w:World)(h1:zu w lo hi v0 v1 p)(hP:Nil xs xb\/(zr p xs xb/\(p.s xs.toNat).kn=8)) :
  Calls Tryz.prog 85 #[.agg #[v0,v1],.agg #[.int .i64 xs,.int .i64 xb]] w fun e w'=>∃b cp,e = .returned (.slice (some ⟨b,0,none⟩) 8 cp)/\zw w' w.heap.size (.slice (some ⟨b,0,none⟩) 8 cp) (zBD (yo p xs xb) (zAI p xs xb) 8)/\Below w.heap.size w w':=by
 have Hp:=zE h1;have HP:=zE hP;obtain⟨a,c,a',c',rfl,rfl⟩:∃a c a' c',v0 = .slice a p.n c/\v1 = .slice a' p.hn c':=by
  obtain⟨⟨_,a,c,h1,_⟩,⟨_,a',c',h3,_⟩⟩:=h1;exact⟨a,c,a',c',h1,h3⟩
 clear h1 hP;have sA:=zB6 w (.slice a p.n c) (.slice a' p.hn c') (.int .i64 xs) (.int .i64 xb) 33 61;obtain⟨i0,vA,lA⟩:=Option.map_eq_some_iff.1 zA3;simp only[Prod.mk.injEq]at lA;have HI:=zE (And.intro vA lA);clear vA lA;go_enter Tryz.func85,Tryz.ntmps85;go_wp2_with fail;generalize (w.alloc (.cells #[.slice a p.n c,.slice a' p.hn c'] 33)).alloc (.cells #[.int .i64 xs,.int .i64 xb] 61)=W at sA ⊢;obtain⟨hB,hX,oA,hz⟩:=sA;refine(yx xs xb W).mono ?_;rintro e w1 ⟨⟨t,rfl,ht⟩,fA⟩;have aB:=zE (hB.zRX fA);have nA:=zE (hX.zRX fA);have pA:=zA oA fA;have lB:w.heap.size+2<=w1.heap.size:=by have:=fA.size;omega
 clear hB hX oA fA hz;by_cases hn:Nil xs xb
 ·have HN:=zE hn;obtain rfl:t=true:=ht.2 hn;clear ht hn;have rA:=zBA 62 61 (.agg #[.int .i64 0,.int .i64 0]) 2 16 (by kernel_rfl) zKy rfl 8 (by omega) (by omega);have jB:∀w,(Instr.makeSlice 62 (.int .i64 8) (.int .i64 8)).run Tryz.prog w = .ok (.slice (some ⟨w.heap.size,0,none⟩) 8 8) (w.alloc (.cells (zA2 #[.int .i64 0,.int .i64 0] 8) 61)):=rA;clear rA;have eA:=World.ownsRow_lit (e:=61) (size:=2) (base:=w.heap.size) w1 (zA2 #[.int .i64 0,.int .i64 0] 8) 8 (by omega) (by unfold maxLen;omega) (by decide +kernel);have cB:=zA pA (zC w1 (.cells (zA2 #[.int .i64 0,.int .i64 0] 8) 61));have cA:=zE eA;clear eA;go_wp2;go_ret;refine⟨_,_,rfl,?_,cB⟩;have e0:zBD (yo p xs xb) (zAI p xs xb) 8=zBD (fun _=>0) (fun _=>0) 8:=zHw (fun i _=>⟨if_pos HN.out,if_pos HN.out⟩);unfold zw;rw[e0,zPa,yE];exact cA.out
 ·have HN:=zE hn;obtain rfl:t=false:=zQ ht hn;clear ht hn;obtain⟨mA,h8⟩:=HP.out.resolve_left HN.out;have dA:Hid (zBD (yo p xs xb) (zAI p xs xb) 8=zBD (p.s xs.toNat).ks (p.s xs.toNat).kb 8):=zHw (fun i hi=>⟨(if_neg HN.out).trans (zC6 h8 hi),(if_neg HN.out).trans (zEt h8 hi)⟩);obtain⟨k,rfl⟩:=Int.eq_ofNat_of_zero_le mA.2.1;have hk:k<p.n:=(by have:=mA.2.2.1;omega);have kB:(k:Int)<(p.n:Int):=(by omega);rw[Int.toNat_natCast]at h8 dA;clear mA HP;obtain⟨b,off,ka,kc,rfl,kA⟩:=Hp.out.1.cells hk;have tA:Hid (zU w lo hi (.slice ka 8 kc) 8 (p.s k).ks (p.s k).kb):=(by have:=kA.slot.2.1;rw[h8]at this;exact this);have gA:=zC w1 (.cells #[] 61);have iA:=zA pA gA;obtain⟨q0,q1,q2,_⟩:=kA.zRX iA;rw[h8]at q1;have dB:=zE (aB.out.zRX gA);have iB:=zE (nA.out.zRX gA);have cA:=zE (World.ownsRow_lit (e:=61) (size:=2) (base:=w.heap.size) w1 #[] 0 (by omega) (by unfold maxLen;omega) rfl);have mB:(w1.alloc (.cells #[] 61)).heap.size=w1.heap.size+1:=World.size_alloc _ _;obtain⟨⟨x0,x1⟩,⟨x2,x3⟩⟩:=dB.out;obtain⟨⟨y0,y1⟩,⟨y2,y3⟩⟩:=iB.out;have fB:=zE (tA.out.zRX iA);clear gA kA aB nA h8 tA;go_wp2_with (first
   | (at_builtin;refine qJ rfl _ _ 62 rfl w.heap.size 61 i0 (.agg #[.int .i64 0,.int .i64 0]) 2 16 (by kernel_rfl) HI.out.1 HI.out.2.1 HI.out.2.2.1 HI.out.2.2.2 rfl (by decide) (.slice (some ⟨w1.heap.size,0,none⟩) 0 0) 0 [] rfl ?c0 ka 8 kc (pcl (zBD (p.s k).ks (p.s k).kb 8)) rfl (by rw[zA6,yE]) (zF0 _) ?c1 ?c3 ?c4 ?c5 ?_)
   | fail)
  case c0=>exact cA.out
  case c1=>
   intro h0;obtain⟨_,a2,c2,hv,_,hx⟩:=fB.out;simp only[Value.slice.injEq,true_and]at hv;obtain⟨rfl,rfl⟩:=hv;obtain⟨kb,jA,ha,_,_,h3⟩:=hx (by omega);exact⟨kb,jA,ha,zJy h3⟩
  case c3=>unfold maxLen;omega
  case c4=>omega
  case c5=>omega
  intro v3 w3 bA aA;obtain⟨g3,eB,rfl,_⟩:=World.ownsRow.form bA (by omega);have gB:Hid (zw w3 w.heap.size (.slice (some ⟨g3,0,none⟩) 8 eB) (zBD (yo p k xb) (zAI p k xb) 8)):=by
   unfold zw;rw[dA.out,yE];exact bA
  have bB:=iA.grown aA iA.size (fun q hq=>by simp only[Value.ownBlock,Option.some.injEq]at hq;omega);clear bA aA;go_wp2;go_ret;exact⟨_,_,rfl,gB.out,bB⟩
def zKd(p:zI)(xs xb:Int):Prop:=Nil xs xb\/(zr p xs xb/\(p.s xs.toNat).kn=8)
theorem zJ8{p:zI}{xs xb:Int}(h:qp p xs xb):zKd p xs xb:=by
 rcases h.2 with h2 | h2
 ·exact Or.inl h2
 ·right;refine⟨h2.1.1,?_⟩;rcases zDR h.1 h2.1.1 with h3 | h3
  ·have:=h2.1.2.1;omega
  ·exact h3
theorem zJ6{p:zI}{xs xb:Int}(h:qp p xs xb){j:Nat}(hj:j<8):zKd p (yo p xs xb j) (zAI p xs xb j):=by
 by_cases hz:Nil xs xb
 ·left;unfold yo zAI;rw[if_pos hz,if_pos hz];exact⟨rfl,rfl⟩
 ·unfold yo zAI;rw[if_neg hz,if_neg hz];rcases(h.2.resolve_left hz).2.1.1 j hj with h2 | h2
  ·exact Or.inl h2
  ·right;refine⟨h2.1.1,?_⟩;rcases zDR h.1 h2.1.1 with h3 | h3
   ·have:=h2.1.2.1;omega
   ·exact h3
def yK(p:zI)(xs xb:Int)(n:Nat):Int:=yo p xs xb (n / 8)
def yp(p:zI)(xs xb:Int)(n:Nat):Int:=zAI p xs xb (n / 8)
def yw(p:zI)(xs xb:Int)(n:Nat):Int:=yo p (yK p xs xb n) (yp p xs xb n) (n % 8)
def zAC(p:zI)(xs xb:Int)(n:Nat):Int:=zAI p (yK p xs xb n) (yp p xs xb n) (n % 8)
theorem zNU{p:zI}{xs xb:Int}(h:qp p xs xb){n:Nat}(hn:n<64):Nil (yw p xs xb n) (zAC p xs xb n)\/zBo p (yw p xs xb n) (zAC p xs xb n):=by
 by_cases hz:Nil xs xb
 ·left;have e:Nil (yK p xs xb n) (yp p xs xb n):=(by unfold yK yp yo zAI;rw[if_pos hz,if_pos hz];exact⟨rfl,rfl⟩);unfold yw zAC yo zAI;rw[if_pos e,if_pos e];exact⟨rfl,rfl⟩
 ·have e1:yK p xs xb n=zb (p.s xs.toNat) (n / 8):=if_neg hz;have e2:yp p xs xb n=zt (p.s xs.toNat) (n / 8):=if_neg hz;by_cases aA:Nil (yK p xs xb n) (yp p xs xb n)
  ·left;unfold yw zAC yo zAI;rw[if_pos aA,if_pos aA];exact⟨rfl,rfl⟩
  ·have e3:yw p xs xb n=zb (p.s (yK p xs xb n).toNat) (n % 8):=if_neg aA;have e4:zAC p xs xb n=zt (p.s (yK p xs xb n).toNat) (n % 8):=if_neg aA;rw[e3,e4];rcases(h.2.resolve_left hz).2.1.1 (n / 8) (by omega)with h2 | h2
   ·rw[<-e1,<-e2]at h2;exact absurd h2 aA
   ·have:=h2.2.1 (n % 8) (by omega);rw[<-e1]at this;exact this
theorem zQ9(w:World)(a0 a1 x0 x1:Value)(t1 t2:TypeId) :
  zc ((((w.alloc (.cells #[a0,a1] t1)).alloc (.cells #[x0,x1] t2)).alloc (.cells #[.int .i64 0,.int .i64 0] t2)).alloc (.cells #[.int .i64 0,.int .i64 0] t2)) w.heap.size a0 a1/\
  zc ((((w.alloc (.cells #[a0,a1] t1)).alloc (.cells #[x0,x1] t2)).alloc (.cells #[.int .i64 0,.int .i64 0] t2)).alloc (.cells #[.int .i64 0,.int .i64 0] t2)) (w.heap.size+1) x0 x1/\
  zc ((((w.alloc (.cells #[a0,a1] t1)).alloc (.cells #[x0,x1] t2)).alloc (.cells #[.int .i64 0,.int .i64 0] t2)).alloc (.cells #[.int .i64 0,.int .i64 0] t2)) (w.heap.size+2) (.int .i64 0) (.int .i64 0)/\
  zc ((((w.alloc (.cells #[a0,a1] t1)).alloc (.cells #[x0,x1] t2)).alloc (.cells #[.int .i64 0,.int .i64 0] t2)).alloc (.cells #[.int .i64 0,.int .i64 0] t2)) (w.heap.size+2+1) (.int .i64 0) (.int .i64 0)/\
  Below w.heap.size w ((((w.alloc (.cells #[a0,a1] t1)).alloc (.cells #[x0,x1] t2)).alloc (.cells #[.int .i64 0,.int .i64 0] t2)).alloc (.cells #[.int .i64 0,.int .i64 0] t2))/\
  ((((w.alloc (.cells #[a0,a1] t1)).alloc (.cells #[x0,x1] t2)).alloc (.cells #[.int .i64 0,.int .i64 0] t2)).alloc (.cells #[.int .i64 0,.int .i64 0] t2)).heap.size=w.heap.size+4:=by
 obtain⟨h1,h2,h3,h4⟩:=zB6 w a0 a1 x0 x1 t1 t2;generalize (w.alloc (.cells #[a0,a1] t1)).alloc (.cells #[x0,x1] t2)=W at h1 h2 h3 h4 ⊢;have b1:=zC W (.cells #[.int .i64 0,.int .i64 0] t2);have b2:=zC (W.alloc (.cells #[.int .i64 0,.int .i64 0] t2)) (.cells #[.int .i64 0,.int .i64 0] t2);have n1:=(zc.zRZ W (.int .i64 0) (.int .i64 0) t2).zRX b2;have n2:=zc.zRZ (W.alloc (.cells #[.int .i64 0,.int .i64 0] t2)) (.int .i64 0) (.int .i64 0) t2;rw[h4]at n1;rw[World.size_alloc,h4]at n2;exact⟨(h1.zRX b1).zRX b2,(h2.zRX b1).zRX b2,n1,n2,zA (zA h3 b1) b2,by rw[World.size_alloc,World.size_alloc,h4]⟩
theorem yQ(w:World)(b:Nat)(u v:Value):zF (fun k=>k=b) w ((w.setCell ⟨b,0,none⟩ u).setCell ⟨b,1,none⟩ v):=((zF.refl (fun k=>k=b) w).setCell (p:=⟨b,0,none⟩) rfl u).setCell (p:=⟨b,1,none⟩) rfl v
theorem zOt{w:World}{base g cp:Nat}{f h:Nat->Int}(hr:zw w base (.slice (some ⟨g,0,none⟩) 8 cp) (zBD f h 8)){i:Nat}(hi:i<8):w.cell? ⟨g,i*2,none⟩=some (.int .i64 (f i))/\w.cell? ⟨g,i*2+1,none⟩=some (.int .i64 (h i)):=by
 obtain⟨b,bA,e,_,_,_,aA⟩:=qZ hr (by rw[yE];omega);simp only[Value.slice.injEq,Option.some.injEq,Addr.mk.injEq,and_true]at e;obtain⟨rfl,_⟩:=e;have h1:=(aA _ _ (zBY (zBD f h 8) i (by rw[yE];exact hi)).1).1;have h2:=(aA _ _ (zBY (zBD f h 8) i (by rw[yE];exact hi)).2).1;have:=zK2 f h hi;unfold zf zh at this;rw[this.1]at h1;rw[this.2]at h2;exact⟨h1,h2⟩
theorem zL2(v0 v1:Value)(lo hi:Nat)(p:zI)(xs xb:Int)(n:Nat)(w:World)(h1:zu w lo hi v0 v1 p)(hT:qp p xs xb)(hn:n<64) :
  Calls Tryz.prog 83 #[.agg #[v0,v1],.agg #[.int .i64 xs,.int .i64 xb],.int .i64 (n:Int)] w fun e w'=>e = .returned (.tuple #[.agg #[.int .i64 (yw p xs xb n),.int .i64 (zAC p xs xb n)],.agg #[.int .i64 (yK p xs xb n),.int .i64 (yp p xs xb n)]])/\Below w.heap.size w w':=by
 have Hp:=zE h1;have HT:=zE hT;obtain⟨a,c,a',c',rfl,rfl⟩:∃a c a' c',v0 = .slice a p.n c/\v1 = .slice a' p.hn c':=by
  obtain⟨⟨_,a,c,h1,_⟩,⟨_,a',c',h3,_⟩⟩:=h1;exact⟨a,c,a',c',h1,h3⟩
 clear h1 hT;have kA:=zQ9 w (.slice a p.n c) (.slice a' p.hn c') (.int .i64 xs) (.int .i64 xb) 33 61;have hq:(n:Int).tdiv 8=((n / 8:Nat):Int):=(Int.ofNat_tdiv n 8).symm;have hr:(n:Int).tmod 8=((n % 8:Nat):Int):=(Int.ofNat_tmod n 8).symm;have fB:((n / 8:Nat):Int)<8:=by omega
 have bB:((n % 8:Nat):Int)<8:=by omega
 have dB:(n:Int)<64:=by omega
 have cB:0<=(n:Int) % 8:=by omega
 have vA:(n:Int) % 8<8:=by omega
 have aB:((n:Int) % 8).toNat=n % 8:=by omega
 go_enter Tryz.func83,Tryz.ntmps83;go_wp2_with fail;generalize ((((w.alloc (.cells #[.slice a p.n c,.slice a' p.hn c'] 33)).alloc (.cells #[.int .i64 xs,.int .i64 xb] 61)).alloc (.cells #[.int .i64 0,.int .i64 0] 61)).alloc (.cells #[.int .i64 0,.int .i64 0] 61))=W0 at kA ⊢;obtain⟨hB,hX,pA,lA,dA,hz⟩:=kA;refine(zDA _ _ lo hi p xs xb W0 (Hp.out.zRX dA) (zJ8 HT.out)).mono ?_;rintro e w1 ⟨g,cp,rfl,fA,iA⟩;obtain⟨q0,q1⟩:=zOt fA (show n / 8<8 by omega);have mA:=zC w1 (.cells #[.int .i64 (yo p xs xb (n / 8)),.int .i64 (zAI p xs xb (n / 8))] 61);have hC:=zA iA mA;have cA:=zE (hB.zRX hC);have nA:=zE (pA.zRX hC);have jA:=zE (lA.zRX hC);have bA:=zE (show zc (w1.alloc (.cells #[.int .i64 (yo p xs xb (n / 8)),.int .i64 (zAI p xs xb (n / 8))] 61)) w1.heap.size (.int .i64 (yK p xs xb n)) (.int .i64 (yp p xs xb n))from zc.zRZ w1 _ _ _);have gA:=zA dA hC;have rA:=zE (show zKd p (yK p xs xb n) (yp p xs xb n)from zJ6 HT.out (by omega));have tA:w.heap.size+4<=w1.heap.size:=by have:=iA.size;omega
 clear fA iA mA hC hB hX pA lA dA hz;have oA:w1.heap.size<(w1.alloc (.cells #[.int .i64 (yo p xs xb (n / 8)),.int .i64 (zAI p xs xb (n / 8))] 61)).heap.size:=by rw[World.size_alloc];omega
 go_wp2_with fail;generalize w1.alloc (.cells #[.int .i64 (yo p xs xb (n / 8)),.int .i64 (zAI p xs xb (n / 8))] 61)=W at cA nA jA bA gA oA ⊢;clear q0 q1;generalize w1.heap.size=X at bA tA oA ⊢;obtain⟨⟨x0,x1⟩,⟨x2,x3⟩⟩:=cA.out;obtain⟨⟨y0,y1⟩,⟨y2,y3⟩⟩:=bA.out;refine wp_region_held_drew (S:=(fun w'=>w'.cell? ⟨w.heap.size,0,none⟩=some (.slice a p.n c)/\w'.cell? ⟨w.heap.size,1,none⟩=some (.slice a' p.hn c')/\w'.cell? ⟨X,0,none⟩=some (.int .i64 (yK p xs xb n))/\w'.cell? ⟨X,1,none⟩=some (.int .i64 (yp p xs xb n)))) (by kernel_rfl) ?_ (fun hHeld=>?_)
 ·(try dsimp only)
  go_keep
 refine tk 0 (h:=tk 1 (h:=tk 3 (h:=tk 4 (h:=tk 7 (h:=?_)))));refine rd [2] (rc (fun K hK=>?_) .nil);go_simp;go_at_call 85;refine(zDA _ _ lo hi p (yK p xs xb n) (yp p xs xb n) _ ?_ rA.out).mono ?_
 ·first | exact Hp.out.zRX gA | exact Hp.out.zRX gA.drew
 rintro e wa ⟨g2,eB,rfl,eA,dA⟩;have aA:Below W.heap.size W wa:=(by first | exact dA | exact zK dA);obtain⟨⟨k0,_⟩,⟨k1,_⟩⟩:=cA.out.zRX aA;obtain⟨⟨k2,_⟩,⟨k3,_⟩⟩:=bA.out.zRX aA;obtain⟨r0,r1⟩:=zOt eA (show n % 8<8 by omega);obtain⟨⟨l0,l1⟩,⟨l2,l3⟩⟩:zc wa (w.heap.size+1+1) (.int .i64 0) (.int .i64 0):=nA.out.zRX aA;obtain⟨⟨m0,m1⟩,⟨m2,m3⟩⟩:zc wa (w.heap.size+1+1+1) (.int .i64 0) (.int .i64 0):=jA.out.zRX aA
 (try go_wp2_with fail)
 refine hK.out _ _ (by(try dsimp only);go_keep) ?_;clear hK K hHeld;intro hHeld
 try simp only[Act.put,s1,s2,s3]
 refine tk 5 (h:=?_);refine rd [6] (rc (fun K hK=>?_) .nil);go_simp
 (try go_wp2_with fail)
 refine hK.out _ _ (by(try dsimp only);go_keep) ?_;clear hK K hHeld;intro hHeld
 try simp only[Act.put,s1,s2,s3]
 refine rd [8] (rc (fun K hK=>?_) .nil);go_simp
 (try go_wp2_with fail)
 refine hK.out _ _ (by(try dsimp only);exact⟨((cA.out.zRX aA).zRf (yQ _ _ _ _) (by omega)).1.1,((cA.out.zRX aA).zRf (yQ _ _ _ _) (by omega)).2.1,((bA.out.zRX aA).zRf (yQ _ _ _ _) (by omega)).1.1,((bA.out.zRX aA).zRf (yQ _ _ _ _) (by omega)).2.1⟩) ?_;clear hK K hHeld;intro hHeld
 try simp only[Act.put,s1,s2,s3]
 refine rd [9] (rc (fun K hK=>?_) .nil);go_simp
 (try go_wp2_with fail)
 refine hK.out _ _ (by(try dsimp only);exact⟨(((cA.out.zRX aA).zRf (yQ _ _ _ _) (by omega)).zRf (yQ _ _ _ _) (by omega)).1.1,(((cA.out.zRX aA).zRf (yQ _ _ _ _) (by omega)).zRf (yQ _ _ _ _) (by omega)).2.1,(((bA.out.zRX aA).zRf (yQ _ _ _ _) (by omega)).zRf (yQ _ _ _ _) (by omega)).1.1,(((bA.out.zRX aA).zRf (yQ _ _ _ _) (by omega)).zRf (yQ _ _ _ _) (by omega)).2.1⟩) ?_;clear hK K hHeld;intro hHeld
 try simp only[Act.put,s1,s2,s3]
 refine wpAnyH_done (by kernel_rfl) ?_ _;have sA:Below w.heap.size w wa:=zA gA aA;go_wp2;refine bodyPost_ret (v:=.tuple #[.agg #[.int .i64 (yw p xs xb n),.int .i64 (zAC p xs xb n)],.agg #[.int .i64 (yK p xs xb n),.int .i64 (yp p xs xb n)]]) (by simp[results,Tryz.results83,go_sem,l0,l2,m0,m2,yw,zAC]) rfl ⟨rfl,?_⟩;exact(((sA.setCell (by show w.heap.size<=w.heap.size+1+1;omega) _).setCell (by show w.heap.size<=w.heap.size+1+1;omega) _).setCell (by show w.heap.size<=w.heap.size+1+1+1;omega) _).setCell (by show w.heap.size<=w.heap.size+1+1+1;omega) _
def hop(J:Nat->Act->World->Prop)(Q:Exit->Act->World->Prop):Exit->Act->World->Prop
 | .goto l,a,w=>J l a w
 | e,a,w=>Q e a w
def JU(P:Program)(c:Code)(Q:Exit->Act->World->Prop):Nat->Nat->Act->World->Prop
 | 0,_,_,_=>False
 | n+1,l,a,w=>∃rest,findLabel c l=some rest/\rest.wp P (hop (JU P c Q n) Q) a w
theorem zIx{P:Program}{a:Act}{w:World}{Q:Exit->Act->World->Prop}{c:Code}(n:Nat)(first:c.wp P (hop (JU P c Q n) Q) a w):(Code.scope c).wp P Q a w:=by
 intro b k cs;have key:∀n l cA a w,findLabel c l=some cA->cA.wp P (hop (JU P c Q n) Q) a w->∃e a' w',Q e a' w'/\Arrives P (lone (b.at a (.code cA :: .inScope c :: k)) cs w) b k cs e a' w':=by
  intro n
  induction n with
  | zero=>
   intro l cA a w hf hw;obtain⟨e,a₁,w₁,hq,aA⟩:=hw b (.inScope c :: k) cs;cases e with
   | normal=>exact⟨.normal,a₁,w₁,hq,Steps.trans aA (.one step_inScope)⟩
   | exit id=>exact⟨.exit id,a₁,w₁,hq,fun k' hk=>aA k' (by simp[exitTo,hk])⟩
   | goto l'=>exact False.elim hq
   | ret=>exact⟨_,a₁,w₁,hq,aA⟩
   | panic ch=>exact⟨_,a₁,w₁,hq,aA⟩
   | outgrown=>exact⟨_,a₁,w₁,hq,aA⟩
  | succ n ih=>
   intro l cA a w hf hw;obtain⟨e,a₁,w₁,hq,aA⟩:=hw b (.inScope c :: k) cs;cases e with
   | normal=>exact⟨.normal,a₁,w₁,hq,Steps.trans aA (.one step_inScope)⟩
   | exit id=>exact⟨.exit id,a₁,w₁,hq,fun k' hk=>aA k' (by simp[exitTo,hk])⟩
   | goto l'=>
    obtain⟨bA,eA,fA⟩:=hq;obtain⟨e₂,a₂,w₂,gA,dA⟩:=ih l' bA a₁ w₁ eA fA;have hg:gotoIn l' (.inScope c :: k)=some (.code bA :: .inScope c :: k):=(by simp[gotoIn,eA]);exact⟨e₂,a₂,w₂,gA,.of_steps (aA _ hg) dA⟩
   | ret=>exact⟨_,a₁,w₁,hq,aA⟩
   | panic ch=>exact⟨_,a₁,w₁,hq,aA⟩
   | outgrown=>exact⟨_,a₁,w₁,hq,aA⟩
 obtain⟨e,a₁,w₁,hq,aA⟩:=first b (.inScope c :: k) cs
 cases e with
 | normal=>exact⟨.normal,a₁,w₁,hq,.head step_scope (Steps.trans aA (.one step_inScope))⟩
 | exit id=>exact⟨.exit id,a₁,w₁,hq,fun k' hk=>.head step_scope (aA k' (by simp[exitTo,hk]))⟩
 | goto l'=>
  match n,hq with
  | n+1,hq=>
   obtain⟨bA,eA,fA⟩:=hq;obtain⟨e₂,a₂,w₂,gA,dA⟩:=key n l' bA a₁ w₁ eA fA;have hg:gotoIn l' (.inScope c :: k)=some (.code bA :: .inScope c :: k):=(by simp[gotoIn,eA]);exact⟨e₂,a₂,w₂,gA,.of_steps (.head step_scope (aA _ hg)) dA⟩
 | ret=>exact⟨_,a₁,w₁,hq,.of_steps (.one step_scope) aA⟩
 | panic ch=>exact⟨_,a₁,w₁,hq,.of_steps (.one step_scope) aA⟩
 | outgrown=>exact⟨_,a₁,w₁,hq,.of_steps (.one step_scope) aA⟩
def zPp:Array Value:=#[.int .i64 0,.int .i64 0,.int .i64 0,.int .i64 0,.int .i64 0,.int .i64 0,.int .i64 0,.int .i64 0,.int .i64 0,.int .i64 0,.int .i64 0,.int .i64 0,.int .i64 0,.int .i64 0,.int .i64 0,.int .i64 0,.int .i64 0,.int .i64 0,.int .i64 0,.int .i64 0,.int .i64 0,.int .i64 0,.int .i64 0,.int .i64 0,.int .i64 0,.int .i64 0,.int .i64 0,.int .i64 0,.int .i64 0,.int .i64 0,.int .i64 0,.int .i64 0,.int .i64 0,.int .i64 0,.int .i64 0,.int .i64 0,.int .i64 0,.int .i64 0,.int .i64 0,.int .i64 0,.slice none 0 0]
def zIB(n:Nat):Array Value:=#[.int .i64 ((n:Int) / 8),.int .i64 ((n:Int) % 8),.int .i64 0,.int .i64 0,.int .i64 0,.int .i64 0,.int .i64 0,.int .i64 0,.int .i64 0,.int .i64 0,.int .i64 0,.int .i64 0,.int .i64 0,.int .i64 0,.int .i64 0,.int .i64 0,.int .i64 0,.int .i64 0,.int .i64 0,.int .i64 0,.int .i64 0,.int .i64 0,.int .i64 0,.int .i64 0,.int .i64 0,.int .i64 0,.int .i64 0,.int .i64 0,.int .i64 0,.int .i64 0,.int .i64 0,.int .i64 0,.int .i64 0,.int .i64 0,.int .i64 0,.int .i64 0,.int .i64 0,.int .i64 0,.int .i64 0,.int .i64 0,.slice none 0 0]
theorem zKp:(Tryz.prog.info? 159).map (·.size)=some 41:=by kernel_rfl
theorem zPF(n:Nat):(Tryz.prog.info? 159).map (·.size)=some (zIB n).size:=zKp
theorem zOz(n:Nat):(zIB n).all (·.oneCell')=true:=by simp[zIB,Value.oneCell']
def yN(w:World)(B:Nat)(f:Nat->Value):Prop:=∀i,i<41->zW w B i (f i)
theorem yN.zRX{w w':World}{B:Nat}{f:Nat->Value}(h:yN w B f)(t:Below w.heap.size w w'):yN w' B f:=fun i hi=>(h i hi).zRX t
theorem yN.zRf{S:Nat->Prop}{w w':World}{B:Nat}{f:Nat->Value}(h:yN w B f)(t:zF S w w')(hs:¬S B):yN w' B f:=fun i hi=>(h i hi).zRf t hs
theorem yN.congr{w:World}{B:Nat}{f g:Nat->Value}(h:yN w B f)(e:∀i,i<41->f i=g i):yN w B g:=fun i hi=>e i hi▸h i hi
theorem yN.put{w:World}{B:Nat}{f:Nat->Value}(h:yN w B f)(o:Nat)(v:Value):yN (w.setCell ⟨B,o,none⟩ v) B (fun i=>if i=o then v else f i):=fun i hi=>by
 show zW _ B i (if i=o then v else f i);by_cases e:i=o
 ·subst e;rw[if_pos rfl];exact(h i hi).set v
 ·rw[if_neg e];exact(h i hi).zRY v (Or.inr (fun h=>e h.symm))
theorem yN.there{w:World}{B:Nat}{f:Nat->Value}(h:yN w B f){o n:Nat}(hn:o+n<=41):w.there B o n:=fun j hj=>⟨by rw[(h (o+j) (by omega)).1];rfl,(h (o+j) (by omega)).2⟩
theorem yN.range{w:World}{B:Nat}{f:Nat->Value}(h:yN w B f):w.rangeAt B 0 ((List.range 41).map f):=fun j v hv=>by
 have hj:j<41:=by have:=(List.getElem?_eq_some_iff.1 hv).1;simpa using this
 rw[Nat.zero_add,(h j hj).1];simpa[hj]using hv
theorem yN.puts{w:World}{B:Nat}{f:Nat->Value}(h:yN w B f)(o:Nat)(vs:List Value)(hv:o+vs.length<=41):yN (w.setCells B o vs) B (fun i=>if o<=i/\i<o+vs.length then vs.getD (i - o) undef else f i):=fun i hi=>by
 refine⟨?_,?_⟩
 ·show _=some (if o<=i/\i<o+vs.length then vs.getD (i - o) undef else f i);by_cases e:o<=i/\i<o+vs.length
  ·rw[if_pos e];have:=World.cell?_setCells_in B vs o w (fun j hj=>by rw[(h (o+j) (by omega)).1];rfl) (i - o) (by omega);rw[show o+(i - o)=i by omega]at this;rw[this,List.getD_eq_getElem?_getD,List.getElem?_eq_getElem (by omega),Option.getD_some]
  ·rw[if_neg e,World.cell?_setCells_out B vs o w ⟨B,i,none⟩ (fun _ _=>by show i<o\/o+vs.length<=i;omega)];exact(h i hi).1
 ·rw[World.frozen?_setCells];exact(h i hi).2
def zBQ(f:Nat->Value):Array Value:=((List.range 41).map f).toArray
theorem zGi(f:Nat->Value):(zBQ f).size=41:=by simp[zBQ]
theorem zF7(f:Nat->Value):(Tryz.prog.info? 159).map (·.size)=some (zBQ f).size:=by rw[zGi];exact zKp
theorem zQs:(Tryz.prog.underlying 159).map (fun d=>d.isRow)=some true:=by kernel_rfl
def zQZ(n:Nat)(i:Nat):Value:=if i=0 then .int .i64 ((n:Int) / 8)else if i=1 then .int .i64 ((n:Int) % 8)else if i=40 then .slice none 0 0 else .int .i64 0
theorem zQW(W:World)(n:Nat):yN (W.alloc (.cells (zIB n) 159)) W.heap.size (zQZ n):=fun i hi=>by
 refine zJ (i:=i) (heap_alloc_new W (.cells (zIB n) 159)) ?_;have:zIB n=zBQ (zQZ n):=by rfl
 rw[this];simp[zBQ,hi]
theorem zLT{J J':Nat->Act->World->Prop}{Q:Exit->Act->World->Prop}(h:∀l a w,J l a w->J' l a w):∀{e:Exit} {a:Act} {w:World},hop J Q e a w->hop J' Q e a w
 | .goto l,a,w,he=>h l a w he
 | .normal,_,_,he=>he
 | .exit _,_,_,he=>he
 | .ret,_,_,he=>he
 | .panic _,_,_,he=>he
 | .outgrown,_,_,he=>he
theorem zKK{P:Program}{a:Act}{w:World}{Q:Exit->Act->World->Prop}{c:Code}(R:Nat->Nat->Act->World->Prop)(n:Nat)(zero:∀l a w,¬R 0 l a w)
  (step:∀n l a w,R (n+1) l a w->∃aA,findLabel c l=some (Code.skip.seq aA)/\aA.wp P (hop (R n) Q) a w)
  (first:(∀l a w aA,findLabel c l=some (Code.skip.seq aA)->R (n+1) l a w->aA.wp P (hop (R n) Q) a w)->c.wp P (hop (R n) Q) a w):(Code.scope c).wp P Q a w:=by
 have key:∀n l a w,R n l a w->JU P c Q n l a w:=by
  intro n
  induction n with
  | zero=>intro l a w h;exact absurd h (zero l a w)
  | succ n ih=>
   intro l a w h;obtain⟨aA,hf,hw⟩:=step n l a w h;exact⟨_,hf,Code.wp_mono (fun e a w he=>zLT ih he) (wp_seq (wp_skip hw))⟩
 refine zIx n (Code.wp_mono (fun e a w he=>zLT (key n) he) (first ?_));intro l a w aA hf hR;obtain⟨cA,bA,hw⟩:=step n l a w hR;rw[hf]at bA;simp only[Option.some.injEq,Code.seq.injEq,true_and]at bA;rw[bA];exact hw
def qy(p:zI)(xs xb:Int)(n L:Nat):Int:=if L=0 then xs else if L=1 then yK p xs xb n else yw p xs xb n
def yk(p:zI)(xs xb:Int)(n L:Nat):Int:=if L=0 then xb else if L=1 then yp p xs xb n else zAC p xs xb n
def plc(n L:Nat):Nat:=if L=0 then n / 8 else n % 8
def zCK(p:zI)(xs xb:Int)(n L j:Nat):Int:=if Nil (qy p xs xb n L) (yk p xs xb n L)then 0 else zj (p.s (qy p xs xb n L).toNat) j
theorem zDd(p:zI)(xs xb:Int)(n:Nat){L:Nat}(h:L<2):qy p xs xb n (L+1)=zCK p xs xb n L (plc n L*2)/\yk p xs xb n (L+1)=zCK p xs xb n L (plc n L*2+1):=by
 rcases L with _ | _ | L
 ·exact⟨rfl,rfl⟩
 ·exact⟨rfl,rfl⟩
 ·omega
theorem zJ5{n L:Nat}(h:n<64):plc n L<8:=by unfold plc;split<;>omega
theorem zEz{p:zI}{xs xb:Int}{n L:Nat}(h:Nil (qy p xs xb n L) (yk p xs xb n L))(hL:L<2):Nil (qy p xs xb n (L+1)) (yk p xs xb n (L+1)):=by
 rw[(zDd p xs xb n hL).1,(zDd p xs xb n hL).2];unfold zCK;rw[if_pos h,if_pos h];exact⟨rfl,rfl⟩
theorem zQ5{p:zI}{xs xb:Int}{n L:Nat}(h:qp p xs xb)(hn:n<64)(hL:L<2):zKd p (qy p xs xb n L) (yk p xs xb n L):=by
 rcases L with _ | _ | L
 ·exact zJ8 h
 ·exact zJ6 h (by omega)
 ·omega
def yq(p:zI)(xs xb:Int)(n K M:Nat)(o:Value)(i:Nat):Value:=
 if i<2 then .int .i64 (plc n i:Nat)
 else if i<34 then .int .i64 (if (i - 2) / 16<K then zCK p xs xb n ((i - 2) / 16) ((i - 2) % 16)else 0)
 else if i<40 then .int .i64 (if (i - 34) / 2<M then(if (i - 34) % 2=0 then qy p xs xb n ((i - 34) / 2)else yk p xs xb n ((i - 34) / 2))else 0)
 else o
theorem zPC(p:zI)(xs xb:Int)(n:Nat){i:Nat}(hi:i<41):zQZ n i=yq p xs xb n 0 0 (.slice none 0 0) i:=by
 unfold zQZ yq;by_cases h0:i=0
 ·subst h0;rfl
 by_cases h1:i=1
 ·subst h1;rfl
 rw[if_neg h0,if_neg h1,if_neg (show ¬i<2 by omega)];by_cases h2:i=40
 ·subst h2;rfl
 rw[if_neg h2];by_cases h3:i<34
 ·rw[if_pos h3,if_neg (Nat.not_lt_zero _)]
 ·rw[if_neg h3,if_pos (by omega),if_neg (Nat.not_lt_zero _)]
theorem zQL{p:zI}{xs xb:Int}{n K L:Nat}{o:Value}{w:World}{B:Nat}(hL:L<3)(h:yN w B (yq p xs xb n K L o)) :
  yN ((w.setCell ⟨B,34+L*2,none⟩ (.int .i64 (qy p xs xb n L))).setCell ⟨B,34+L*2+1,none⟩ (.int .i64 (yk p xs xb n L))) B (yq p xs xb n K (L+1) o):=by
 refine((h.put _ _).put _ _).congr fun i hi=>?_
 show(if i=34+L*2+1 then _ else if i=34+L*2 then _ else _)=_;by_cases h1:i=34+L*2+1
 ·subst h1;rw[if_pos rfl];unfold yq;rw[if_neg (by omega),if_neg (by omega),if_pos (by omega),show(34+L*2+1 - 34) / 2=L by omega,show(34+L*2+1 - 34) % 2=1 by omega,if_pos (by omega),if_neg (by omega)]
 rw[if_neg h1];by_cases h2:i=34+L*2
 ·subst h2;rw[if_pos rfl];unfold yq;rw[if_neg (by omega),if_neg (by omega),if_pos (by omega),show(34+L*2 - 34) / 2=L by omega,show(34+L*2 - 34) % 2=0 by omega,if_pos (by omega),if_pos rfl]
 rw[if_neg h2];unfold yq;by_cases h3:i<2
 ·rw[if_pos h3,if_pos h3]
 by_cases h4:i<34
 ·rw[if_neg h3,if_neg h3,if_pos h4,if_pos h4]
 rw[if_neg h3,if_neg h3,if_neg h4,if_neg h4];by_cases h5:i<40
 ·rw[if_pos h5,if_pos h5];by_cases h6:(i - 34) / 2<L
  ·rw[if_pos h6,if_pos (show(i - 34) / 2<L+1 by omega)]
  ·rw[if_neg h6,if_neg (by omega)]
 ·rw[if_neg h5,if_neg h5]
theorem zO7{p:zI}{xs xb:Int}{n L M:Nat}{o:Value}{w:World}{B:Nat}(hL:L<2)(h:yN w B (yq p xs xb n L M o))(hN:¬Nil (qy p xs xb n L) (yk p xs xb n L)) :
  yN (w.setCells B (2+L*16) (qF (p.s (qy p xs xb n L).toNat)).toList) B (yq p xs xb n (L+1) M o):=by
 have aA:(qF (p.s (qy p xs xb n L).toNat)).toList.length=16:=by simp[qF,qB]
 refine(h.puts (2+L*16) _ (by omega)).congr fun i hi=>?_
 show(if 2+L*16<=i/\i<2+L*16+_ then _ else _)=_;rw[aA];by_cases h1:2+L*16<=i/\i<2+L*16+16
 ·rw[if_pos h1];have hj:i - (2+L*16)<16:=(by omega);have e:(qF (p.s (qy p xs xb n L).toNat)).toList.getD (i - (2+L*16)) undef = .int .i64 (zj (p.s (qy p xs xb n L).toNat) (i - (2+L*16))):=by
   rw[List.getD_eq_getElem?_getD,Array.getElem?_toList];have:=yO (zj (p.s (qy p xs xb n L).toNat)) hj;rw[show qF (p.s (qy p xs xb n L).toNat)=zp (zj (p.s (qy p xs xb n L).toNat))from rfl,this];rfl
  rw[e];unfold yq zCK;rw[if_neg (by omega),if_pos (by omega),show(i - 2) / 16=L by omega,if_pos (by omega),if_neg hN,show(i - 2) % 16=i - (2+L*16)by omega]
 ·rw[if_neg h1];unfold yq;by_cases h3:i<2
  ·rw[if_pos h3,if_pos h3]
  rw[if_neg h3,if_neg h3];by_cases h4:i<34
  ·rw[if_pos h4,if_pos h4];by_cases h6:(i - 2) / 16<L
   ·rw[if_pos h6,if_pos (by omega)]
   ·rw[if_neg h6,if_neg (by omega)]
  ·rw[if_neg h4,if_neg h4]
theorem zNQ{p:zI}{xs xb:Int}{n L:Nat}{o:Value}{w:World}{B:Nat}(hL:L<3)(h:yN w B (yq p xs xb n L (L+1) o))(hN:L<2->Nil (qy p xs xb n L) (yk p xs xb n L)):yN w B (yq p xs xb n 2 3 o):=by
 refine h.congr fun i hi=>?_
 have hz:∀K,L<=K->K<3->L<2->Nil (qy p xs xb n K) (yk p xs xb n K):=fun K h1 h2 h3=>by
  have n0:=hN h3;by_cases e:K=L
  ·subst e;exact n0
  have n1:=zEz n0 h3;by_cases e1:K=L+1
  ·subst e1;exact n1
  have n2:=zEz n1 (by omega);rw[show K=L+1+1 by omega];exact n2
 unfold yq;by_cases h3:i<2
 ·rw[if_pos h3,if_pos h3]
 rw[if_neg h3,if_neg h3];by_cases h4:i<34
 ·rw[if_pos h4,if_pos h4];by_cases h6:(i - 2) / 16<L
  ·rw[if_pos h6,if_pos (by omega)]
  ·rw[if_neg h6,if_pos (by omega)];unfold zCK;rw[if_pos (hz _ (by omega) (by omega) (by omega))]
 ·rw[if_neg h4,if_neg h4];by_cases h5:i<40
  ·rw[if_pos h5,if_pos h5];by_cases h6:(i - 34) / 2<L+1
   ·rw[if_pos h6,if_pos (show(i - 34) / 2<3 by omega)]
   ·rw[if_neg h6,if_pos (show(i - 34) / 2<3 by omega)];have:=hz ((i - 34) / 2) (by omega) (by omega) (by omega);split
    ·rw[this.1]
    ·rw[this.2]
  ·rw[if_neg h5,if_neg h5]
theorem zQI{p:zI}{xs xb:Int}{n K M:Nat}{o:Value}{w:World}{B:Nat}(o':Value)(h:yN w B (yq p xs xb n K M o)):yN (w.setCell ⟨B,40,none⟩ o') B (yq p xs xb n K M o'):=by
 refine(h.put _ _).congr fun i hi=>?_
 show(if i=40 then _ else _)=_;by_cases e:i=40
 ·subst e;rfl
 ·rw[if_neg e];unfold yq;by_cases h3:i<2
  ·rw[if_pos h3,if_pos h3]
  rw[if_neg h3,if_neg h3];by_cases h4:i<34
  ·rw[if_pos h4,if_pos h4]
  ·rw[if_neg h4,if_neg h4,if_pos (show i<40 by omega),if_pos (show i<40 by omega)]
def yf(p:zI)(xs xb:Int)(n k:Nat):List (Int×Int):=kidsUp (fun i=>qy p xs xb n (2 - i)) (fun i=>yk p xs xb n (2 - i)) k
theorem zOo{fA:Array Oper}{o:Oper}{a:Act}{w:World}{K:Act->World->Prop}{Q:Exit->Act->World->Prop}{E:Prop}(kA:o.guard=none)(s x:Operand)
  (ho:o.op = .call {callee:=.builtin .append,args:=#[s,x],argTypes:=#[62,62]}) (base cA:Nat) (v:Value) (l:List (Int×Int)) (hs:a.eval s=v) (aA:zw w base v l)
  (ao:Option Addr) (m c:Nat) (l2:List (Int×Int)) (hx:a.eval x = .slice ao m c) (hm:m=l2.length) (h2:zw w cA (.slice ao m c) l2) (jA:l.length+l2.length<=1000) (dA:base<=w.heap.size)
  (h:∀v' w',zw w' base v' (l ++ l2)->w.grownBy w' v.ownBlock->K (a.put o.dst v') w'):if Region.wanted o (yielded fA a.tmps)=true then Oper.wp Tryz.prog o a w K Q else E:=by
 have hw:Region.wanted o (yielded fA a.tmps)=true:=by simp[Region.wanted,kA]
 rw[if_pos hw];obtain⟨i0,eA,iA,nA,mA⟩:∃i,Tryz.prog.info? 61=some i/\i.zero=some (.agg #[.int .i64 0,.int .i64 0])/\i.size=2/\i.bytes=16:=by
  obtain⟨i0,eA,gA⟩:=Option.map_eq_some_iff.1 zA3;simp only[Prod.mk.injEq]at gA;exact⟨i0,eA,gA⟩
 have ht:Tryz.prog.underlying 62=some (.slice 61):=by kernel_rfl
 by_cases h0:0<l2.length
 ·obtain⟨b,oA,e,_,_,_,bA⟩:=qZ h2 h0;simp only[Value.slice.injEq]at e;obtain⟨rfl,_,_⟩:=e;obtain⟨v',w',hr,r1,r2,_⟩:=run_append_own (P:=Tryz.prog) w base 62 o.type 61 i0 (.agg #[.int .i64 0,.int .i64 0]) 2 16 ht eA iA nA mA rfl (by decide) v l.length (pcl l) aA ⟨b,0,none⟩ m c (pcl l2) (by rw[zA6,hm]) (fun j u hj=>by rw[add_lit,Nat.zero_add];exact(bA j u hj).1) (zF0 l2) (by rw[hm];unfold maxLen;omega) (by rw[hm];omega) dA;unfold Oper.wp;simp[execOp,ho,resolve,invoke,builtin,hs,hx,hr,Result.andThen];refine h v' w' ?_ r2;unfold zw;rw[zA9,List.length_append,<-hm];exact r1
 ·have e0:l2 = []:=List.eq_nil_of_length_eq_zero (by omega);subst e0;have lA:m=0:=hm;subst lA;have hr:=zA5 (P:=Tryz.prog) (w:=w) base 62 o.type 61 i0 2 c ao ht eA v l.length (pcl l) aA;unfold Oper.wp;simp[execOp,ho,resolve,invoke,builtin,hs,hx,hr,Result.andThen];exact h v w (by rw[List.append_nil];exact aA) ⟨rfl,rfl,rfl,Nat.le_refl _,fun _ _ _=>rfl⟩
theorem zDT{v:Value}{xs xb:Int}{n z B X L:Nat}(a:Act)(h:a = {tmps:=#[v,.agg #[.int .i64 xs,.int .i64 xb],.int .i64 (n:Int),a.tmps.getD 3 undef,.pointer (some ⟨z,0,none⟩),a.tmps.getD 5 undef,.pointer (some ⟨z+1,0,none⟩),.pointer (some ⟨B,0,none⟩),.pointer (some ⟨X,0,none⟩),.int .i64 (L:Int),a.tmps.getD 10 undef,a.tmps.getD 11 undef,a.tmps.getD 12 undef,a.tmps.getD 13 undef,a.tmps.getD 14 undef,a.tmps.getD 15 undef,a.tmps.getD 16 undef,a.tmps.getD 17 undef,a.tmps.getD 18 undef,a.tmps.getD 19 undef,a.tmps.getD 20 undef,a.tmps.getD 21 undef,a.tmps.getD 22 undef,a.tmps.getD 23 undef,a.tmps.getD 24 undef,a.tmps.getD 25 undef,a.tmps.getD 26 undef,a.tmps.getD 27 undef,a.tmps.getD 28 undef,a.tmps.getD 29 undef,a.tmps.getD 30 undef,a.tmps.getD 31 undef,a.tmps.getD 32 undef,a.tmps.getD 33 undef,a.tmps.getD 34 undef,a.tmps.getD 35 undef,a.tmps.getD 36 undef,a.tmps.getD 37 undef,a.tmps.getD 38 undef,a.tmps.getD 39 undef,a.tmps.getD 40 undef,a.tmps.getD 41 undef,a.tmps.getD 42 undef,a.tmps.getD 43 undef,a.tmps.getD 44 undef,a.tmps.getD 45 undef,a.tmps.getD 46 undef,a.tmps.getD 47 undef,a.tmps.getD 48 undef,a.tmps.getD 49 undef,a.tmps.getD 50 undef,a.tmps.getD 51 undef,a.tmps.getD 52 undef,a.tmps.getD 53 undef,a.tmps.getD 54 undef,a.tmps.getD 55 undef,a.tmps.getD 56 undef,a.tmps.getD 57 undef,a.tmps.getD 58 undef,a.tmps.getD 59 undef,a.tmps.getD 60 undef,a.tmps.getD 61 undef,a.tmps.getD 62 undef,a.tmps.getD 63 undef,a.tmps.getD 64 undef,a.tmps.getD 65 undef,a.tmps.getD 66 undef,a.tmps.getD 67 undef],defers:=[]}):∃j:Nat->Value,a = {tmps:=#[v,.agg #[.int .i64 xs,.int .i64 xb],.int .i64 (n:Int),j 3,.pointer (some ⟨z,0,none⟩),j 5,.pointer (some ⟨z+1,0,none⟩),.pointer (some ⟨B,0,none⟩),.pointer (some ⟨X,0,none⟩),.int .i64 (L:Int),j 10,j 11,j 12,j 13,j 14,j 15,j 16,j 17,j 18,j 19,j 20,j 21,j 22,j 23,j 24,j 25,j 26,j 27,j 28,j 29,j 30,j 31,j 32,j 33,j 34,j 35,j 36,j 37,j 38,j 39,j 40,j 41,j 42,j 43,j 44,j 45,j 46,j 47,j 48,j 49,j 50,j 51,j 52,j 53,j 54,j 55,j 56,j 57,j 58,j 59,j 60,j 61,j 62,j 63,j 64,j 65,j 66,j 67],defers:=[]}:=⟨fun i=>a.tmps.getD i undef,h⟩
def zRV(p:zI)(v:Value)(xs xb:Int)(n:Nat)(w0:World)(z:Nat)(k l:Nat)(a:Act)(w:World):Prop:=
  ∃B X L:Nat,(∃j:Nat->Value,a = {tmps:=#[v,.agg #[.int .i64 xs,.int .i64 xb],.int .i64 (n:Int),j 3,.pointer (some ⟨z,0,none⟩),j 5,.pointer (some ⟨z+1,0,none⟩),.pointer (some ⟨B,0,none⟩),.pointer (some ⟨X,0,none⟩),.int .i64 (L:Int),j 10,j 11,j 12,j 13,j 14,j 15,j 16,j 17,j 18,j 19,j 20,j 21,j 22,j 23,j 24,j 25,j 26,j 27,j 28,j 29,j 30,j 31,j 32,j 33,j 34,j 35,j 36,j 37,j 38,j 39,j 40,j 41,j 42,j 43,j 44,j 45,j 46,j 47,j 48,j 49,j 50,j 51,j 52,j 53,j 54,j 55,j 56,j 57,j 58,j 59,j 60,j 61,j 62,j 63,j 64,j 65,j 66,j 67],defers:=[]})/\L<3/\z+1<B/\B<X/\X<w.heap.size/\Below z w0 w/\w.heap[z+1]?=some (.cells zPp 159 (0,0))/\
    ((l=0/\7<=k+L/\yN w B (yq p xs xb n L L (.slice none 0 0))/\zc w X (.int .i64 (qy p xs xb n L)) (.int .i64 (yk p xs xb n L)))\/
     (l=1/\L<k/\∃o,yN w B (yq p xs xb n 2 3 o)/\zw w (X+1) o (yf p xs xb n (2 - L))))
theorem zD8(B:Nat):∀(vs:List Value) (o:Nat) (w:World),zF (fun k=>k=B) w (w.setCells B o vs)
  | [],_,w=>zF.refl _ w
  | v :: vs,o,w=>((zF.refl (fun k=>k=B) w).setCell (p:=⟨B,o,none⟩) rfl v).trans (zD8 B vs (o+1) _)
theorem zH2(p:zI)(xs xb:Int)(n K M:Nat)(o:Value){L:Nat}(hL:L<2):yq p xs xb n K M o L = .int .i64 (plc n L:Nat):=by
  unfold yq;rw[if_pos hL]
theorem zLC(p:zI)(xs xb:Int)(n M:Nat)(o:Value){L j:Nat}(hL:L<2)(hj:j<16):yq p xs xb n (L+1) M o (2+L*16+j) = .int .i64 (zCK p xs xb n L j):=by
  unfold yq;rw[if_neg (by omega),if_pos (by omega),show(2+L*16+j - 2) / 16=L by omega,show(2+L*16+j - 2) % 16=j by omega,if_pos (by omega)]
theorem zMC(p:zI)(xs xb:Int)(n K:Nat)(o:Value){L:Nat}(hL:L<3):yq p xs xb n K 3 o (34+L*2) = .int .i64 (qy p xs xb n L)/\yq p xs xb n K 3 o (34+L*2+1) = .int .i64 (yk p xs xb n L):=by
  refine⟨?_,?_⟩
  · unfold yq
    rw[if_neg (by omega),if_neg (by omega),if_pos (by omega),show(34+L*2 - 34) / 2=L by omega,show(34+L*2 - 34) % 2=0 by omega,if_pos (by omega),if_pos rfl]
  · unfold yq
    rw[if_neg (by omega),if_neg (by omega),if_pos (by omega),show(34+L*2+1 - 34) / 2=L by omega,show(34+L*2+1 - 34) % 2=1 by omega,if_pos (by omega),if_neg (by omega)]
theorem zP3(p:zI)(xs xb:Int)(n K M:Nat)(o:Value):yq p xs xb n K M o 40=o:=rfl
theorem zPw{p:zI}{xs xb:Int}{n L:Nat}(hN:L<2->Nil (qy p xs xb n L) (yk p xs xb n L))(hL:L<3):yf p xs xb n (2 - L) = []:=by
  unfold yf;rcases L with _ | _ | L
  · have h0:=hN (by omega)
    have h1:=zEz h0 (by omega);have h2:=zEz h1 (by omega);show([] ++ one (qy p xs xb n 2) (yk p xs xb n 2)) ++ one (qy p xs xb n 1) (yk p xs xb n 1) = [];unfold one;rw[if_pos h2,if_pos h1];rfl
  · have h0:=hN (by omega)
    have h1:=zEz h0 (by omega);show [] ++ one (qy p xs xb n 2) (yk p xs xb n 2) = [];unfold one;rw[if_pos h1];rfl
  · obtain rfl:L=0:=by omega
    rfl
theorem zMF(p:zI)(xs xb:Int)(n:Nat){L:Nat}(hL:L<3):yf p xs xb n (2 - L+1)=yf p xs xb n (2 - L) ++ one (qy p xs xb n L) (yk p xs xb n L):=by
  show yf p xs xb n (2 - L) ++ one (qy p xs xb n (2 - (2 - L))) (yk p xs xb n (2 - (2 - L)))=_;rw[show 2 - (2 - L)=L by omega]
theorem zMs(p:zI)(xs xb:Int)(n k:Nat):(yf p xs xb n k).length<=k:=zBE _ _ k
theorem zLj(p:zI)(xs xb:Int)(n K M:Nat){o:Value}(ho:o.oneCell'=true):(zBQ (yq p xs xb n K M o)).all (·.oneCell')=true:=by
  unfold zBQ;rw[Array.all_eq_true_iff_forall_mem];intro v hv;simp at hv;obtain⟨i,_,rfl⟩:=hv;unfold yq;split
  · rfl
  split
  · rfl
  split
  · rfl
  · exact ho
theorem zw.one{w:World}{base:Nat}{v:Value}{l:List (Int×Int)}(h:zw w base v l):v.oneCell'=true:=by
  obtain⟨a,c,rfl,_⟩:=zY h;rfl
theorem zw.setRow{w:World}{base g:Nat}{v:Value}{l:List (Int×Int)}(h:zw w base v l)(hb:g<base)(cs:Array Value):zw (w.setRow g cs) base v l:=by
  have t:=zF.setRow w g cs;exact h.zRf (row:=some g) ⟨t.os,t.tape,t.output,t.size,fun k hk aA=>t.block k hk (fun e=>aA (by rw[e]))⟩ (fun q hq=>by
    have:=(h.lt hq).1;simp only[ne_eq,Option.some.injEq];omega)
theorem zLX(f:Nat->Value):(Tryz.prog.info? 159).map (·.size)=some ((List.range 41).map f).length:=by
  rw[zKp];simp
theorem zJY(v:Value)(lo hi:Nat)(p:zI)(xs xb:Int)(n:Nat)(w:World)(h1:qA w lo hi v p.n p.s)(hT:qp p xs xb)(hn:n<64) :
  Calls Tryz.prog 102 #[v,.agg #[.int .i64 xs,.int .i64 xb],.int .i64 (n:Int)] w fun e w'=>∃o,e = .returned (.agg (zBQ (yq p xs xb n 2 3 o)))/\zw w' w.heap.size o (yf p xs xb n 3)/\Below w.heap.size w w':=by
 have Hp:=zE h1;have HT:=zE hT;obtain⟨_,a,c,rfl,_⟩:=id h1;clear h1 hT;have vD:(n:Int)<64:=by omega
 have tD:0<=(n:Int) % 8:=by omega
 have pD:(n:Int) % 8<8:=by omega
 have nC:=zC w (.cells #[.int .i64 xs,.int .i64 xb] 61);have rB:=zC (w.alloc (.cells #[.int .i64 xs,.int .i64 xb] 61)) (.cells #[.int .i64 0,.int .i64 0,.int .i64 0,.int .i64 0,.int .i64 0,.int .i64 0,.int .i64 0,.int .i64 0,.int .i64 0,.int .i64 0,.int .i64 0,.int .i64 0,.int .i64 0,.int .i64 0,.int .i64 0,.int .i64 0,.int .i64 0,.int .i64 0,.int .i64 0,.int .i64 0,.int .i64 0,.int .i64 0,.int .i64 0,.int .i64 0,.int .i64 0,.int .i64 0,.int .i64 0,.int .i64 0,.int .i64 0,.int .i64 0,.int .i64 0,.int .i64 0,.int .i64 0,.int .i64 0,.int .i64 0,.int .i64 0,.int .i64 0,.int .i64 0,.int .i64 0,.int .i64 0,.slice none 0 0] 159);have mB:=zE ((zc.zRZ w (.int .i64 xs) (.int .i64 xb) 61).zRX rB);have fB:Hid (((w.alloc (.cells #[.int .i64 xs,.int .i64 xb] 61)).alloc (.cells #[.int .i64 0,.int .i64 0,.int .i64 0,.int .i64 0,.int .i64 0,.int .i64 0,.int .i64 0,.int .i64 0,.int .i64 0,.int .i64 0,.int .i64 0,.int .i64 0,.int .i64 0,.int .i64 0,.int .i64 0,.int .i64 0,.int .i64 0,.int .i64 0,.int .i64 0,.int .i64 0,.int .i64 0,.int .i64 0,.int .i64 0,.int .i64 0,.int .i64 0,.int .i64 0,.int .i64 0,.int .i64 0,.int .i64 0,.int .i64 0,.int .i64 0,.int .i64 0,.int .i64 0,.int .i64 0,.int .i64 0,.int .i64 0,.int .i64 0,.int .i64 0,.int .i64 0,.int .i64 0,.slice none 0 0] 159)).heap[w.heap.size+1]?=some (.cells zPp 159 (0,0))):=by
  have:=heap_alloc_new (w.alloc (.cells #[.int .i64 xs,.int .i64 xb] 61)) (.cells #[.int .i64 0,.int .i64 0,.int .i64 0,.int .i64 0,.int .i64 0,.int .i64 0,.int .i64 0,.int .i64 0,.int .i64 0,.int .i64 0,.int .i64 0,.int .i64 0,.int .i64 0,.int .i64 0,.int .i64 0,.int .i64 0,.int .i64 0,.int .i64 0,.int .i64 0,.int .i64 0,.int .i64 0,.int .i64 0,.int .i64 0,.int .i64 0,.int .i64 0,.int .i64 0,.int .i64 0,.int .i64 0,.int .i64 0,.int .i64 0,.int .i64 0,.int .i64 0,.int .i64 0,.int .i64 0,.int .i64 0,.int .i64 0,.int .i64 0,.int .i64 0,.int .i64 0,.int .i64 0,.slice none 0 0] 159);rw[World.size_alloc]at this;exact this
 have eB:=zA nC rB;have oA:((w.alloc (.cells #[.int .i64 xs,.int .i64 xb] 61)).alloc (.cells #[.int .i64 0,.int .i64 0,.int .i64 0,.int .i64 0,.int .i64 0,.int .i64 0,.int .i64 0,.int .i64 0,.int .i64 0,.int .i64 0,.int .i64 0,.int .i64 0,.int .i64 0,.int .i64 0,.int .i64 0,.int .i64 0,.int .i64 0,.int .i64 0,.int .i64 0,.int .i64 0,.int .i64 0,.int .i64 0,.int .i64 0,.int .i64 0,.int .i64 0,.int .i64 0,.int .i64 0,.int .i64 0,.int .i64 0,.int .i64 0,.int .i64 0,.int .i64 0,.int .i64 0,.int .i64 0,.int .i64 0,.int .i64 0,.int .i64 0,.int .i64 0,.int .i64 0,.int .i64 0,.slice none 0 0] 159)).heap.size=w.heap.size+2:=by rw[World.size_alloc,World.size_alloc]
 clear nC rB;go_enter Tryz.func102,Tryz.ntmps102;go_wp2;refine zKK (zRV p (.slice a p.n c) xs xb n w w.heap.size) 6 ?_ ?_ ?_
 ·rintro l a w ⟨B,X,L,_,hL,_,_,_,_,_,h | h⟩
  ·have:=h.2.1;omega
  ·have:=h.2.1;omega
 ·clear mB fB eB oA;rintro k l a' w1 ⟨B,X,L,⟨j,rfl⟩,hL,hB,hX,nA,hb,hO,⟨rfl,hk,hW,hx⟩ | ⟨rfl,hk,o,hW,hr⟩⟩
  ·refine⟨_,rfl,?_⟩;have HW:=zE hW;have HX:=zE hx;have HO:=zE hO;have Hb:=zE hb;have Hk:=zE hk;have nD:(L:Int)<3:=(by omega);have jD:B≠X:=(by omega);obtain⟨⟨x0,x1⟩,⟨x2,x3⟩⟩:=hx;obtain⟨y0,y1⟩:=HW.out (34+L*2) (by omega);obtain⟨y2,y3⟩:=HW.out (34+L*2+1) (by omega);clear hW hO hb hk;go_upto_region 4 with fail;have kB:zF (fun k=>k=B) w1 ((w1.setCell ⟨B,34+L*2,none⟩ (.int .i64 (qy p xs xb n L))).setCell ⟨B,34+L*2+1,none⟩ (.int .i64 (yk p xs xb n L))):=((zF.refl (fun k=>k=B) w1).setCell (p:=⟨B,34+L*2,none⟩) rfl _).setCell (p:=⟨B,34+L*2+1,none⟩) rfl _;have vA:=zE (zQL hL HW.out);have dB:=zE (HX.out.zRf kB (by omega));have cB:=zE ((kB.block _ (by omega) (by omega)).trans HO.out);have jA:=zE ((Hb.out.setCell (p:=⟨B,34+L*2,none⟩) (by show _<=B;omega) (.int .i64 (qy p xs xb n L))).setCell (p:=⟨B,34+L*2+1,none⟩) (by show _<=B;omega) (.int .i64 (yk p xs xb n L)));have cA:=Nat.lt_of_lt_of_le nA kB.size;clear kB x0 x1 x2 x3 y0 y1 y2 y3;generalize (w1.setCell ⟨B,34+L*2,none⟩ (.int .i64 (qy p xs xb n L))).setCell ⟨B,34+L*2+1,none⟩ (.int .i64 (yk p xs xb n L))=w2 at vA dB cB jA cA ⊢;clear HW HX HO Hb nA;obtain⟨⟨x0,x1⟩,⟨x2,x3⟩⟩:=dB.out;by_cases hN:Nil (qy p xs xb n L) (yk p xs xb n L)
   ·have HN:=zE hN;rw[hN.1]at x0;rw[hN.2]at x2;clear hN;go_wp2;go_step3;have hk:=Hk.out;exact⟨B,X,L,zDT _ rfl,hL,hB,hX,cA,jA.out,cB.out,Or.inr ⟨rfl,by omega,.slice none 0 0,zNQ hL vA.out (fun _=>HN.out),by rw[zPw (fun _=>HN.out) hL];exact zw.nil _ _⟩⟩
   ·have HN:=zE hN;by_cases cD:L=2
    ·subst cD;rcases zAu hN with e0 | ⟨e0,e1⟩
     all_goals
      clear hN;go_wp2;go_step3;have hk:=Hk.out;exact⟨B,X,2,zDT _ rfl,hL,hB,hX,cA,jA.out,cB.out,Or.inr ⟨rfl,by omega,.slice none 0 0,zNQ hL vA.out (fun h=>absurd h (by omega)),zw.nil _ _⟩⟩
    ·have gA:L<2:=(by omega);have rD:((L:Int) == 2)=false:=(by simp;omega);have hK:=(zQ5 HT.out hn gA).resolve_left hN;obtain⟨m,hm⟩:=Int.eq_ofNat_of_zero_le hK.1.2.1;have vC:m<p.n:=(by have:=hK.1.2.2.1;omega);have oD:(m:Int)<(p.n:Int):=(by omega);have aD:Hid ((p.s m).kn=8):=by
      have:=hK.2;rw[hm]at this;exact this
     obtain⟨b,off,ka,kc,rfl,pC⟩:=(Hp.out.zRX jA.out).cells vC;have HC:=zE pC;obtain⟨q0,q1,q2,_⟩:=pC;have Hm:=zE hm;have kC:=zAu hN;rw[hm]at x0 kC;clear hm hK hN;have pB:Hid ((Tryz.prog.info? 155).map (·.size)=some (qF (p.s m)).size):=by
      show _=_;rw[qF,qB];exact zBy
     rcases kC with e0 | ⟨e0,e1⟩
     all_goals
      go_wp2_with fail;refine(zDp _ _ _ lo hi (p.s m) _ HC.out.slot (Or.inr aD.out)).mono ?_;rintro e w3 ⟨rfl,lA⟩;have sB:=zE (vA.out.zRX lA);have rC:=zE (dB.out.zRX lA);have jC:=zE ((lA.block _ (by omega)).trans cB.out);have oB:=zE (jA.out.trans (lA.mono jA.out.size));have sA:=Nat.lt_of_lt_of_le cA lA.size;have oC:Hid (w3.there B (2+L*16) (qF (p.s m)).size):=by
       have:=sB.out.there (o:=2+L*16) (n:=16) (by omega);rw[<-qB (zj (p.s m))]at this;exact this
      clear lA x0 x1 x2 x3 q0 q1 q2 HC vA dB cB jA cA;go_upto_region 6 with(refine wpList_store_mid rfl 155 (.tmp 36) (.tmp 34) rfl B (2+L*16) (qF (p.s m)) rfl rfl oC.out pB.out (zAq _) ?_);have pA:=zD8 B (qF (p.s m)).toList (2+L*16) w3;have aB:Hid (yN (w3.setCells B (2+L*16) (qF (p.s m)).toList) B (yq p xs xb n (L+1) (L+1) (.slice none 0 0))):=by
       have:=zO7 gA sB.out HN.out;rw[Hm.out]at this;exact this
      have dC:=zE (rC.out.zRf pA (by omega));have iC:=zE ((pA.block _ (by omega) (by omega)).trans jC.out);have vB:=zE (oB.out.trans (pA.zRX (B:=w.heap.size) (oB.out.size) (by intro k hk;omega)));have tA:=Nat.lt_of_lt_of_le sA pA.size;clear pA sB rC jC oB sA oC;generalize w3.setCells B (2+L*16) (qF (p.s m)).toList=w4 at aB dC iC vB tA ⊢;have sD:=zJ5 (n:=n) (L:=L) hn;have dD:((plc n L:Nat):Int)<8:=(by omega);obtain⟨⟨x0,x1⟩,⟨x2,x3⟩⟩:=dC.out;obtain⟨z0,_⟩:=aB.out L (by omega);rw[zH2 p xs xb n _ _ _ gA]at z0;obtain⟨y0,_⟩:=aB.out (2+L*16+plc n L*2) (by omega);rw[zLC p xs xb n _ _ gA (by omega),<-(zDd p xs xb n gA).1]at y0;obtain⟨y1,_⟩:=aB.out (2+L*16+plc n L*2+1) (by omega);rw[Nat.add_assoc,zLC p xs xb n _ _ gA (by omega),<-(zDd p xs xb n gA).2,<-Nat.add_assoc]at y1;have rA:Hid (∀(u v:Value) (w5:World),w5=((w4.drew.setCell ⟨X,0,none⟩ u).setCell ⟨X,1,none⟩ v)->(w5.cell? ⟨B,L,none⟩=some (.int .i64 ((plc n L:Nat):Int))/\w5.cell? ⟨B,2+L*16+plc n L*2,none⟩=some (.int .i64 (qy p xs xb n (L+1)))/\w5.cell? ⟨B,2+L*16+plc n L*2+1,none⟩=some (.int .i64 (yk p xs xb n (L+1))))):=by
       intro u v w5 e5;have h:=fun o=>(yQ w4.drew X u v).cell (b:=B) (o:=o) (by show B<w4.heap.size;omega) (by omega)
       rw[e5,h,h,h];exact⟨z0,y0,y1⟩
      have eD:(L:Int)<2:=(by omega);simp only[Act.put];refine wp_region_held_drew (S:=(fun w'=>w'.cell? ⟨B,L,none⟩=some (.int .i64 ((plc n L:Nat):Int))/\w'.cell? ⟨B,2+L*16+plc n L*2,none⟩=some (.int .i64 (qy p xs xb n (L+1)))/\w'.cell? ⟨B,2+L*16+plc n L*2+1,none⟩=some (.int .i64 (yk p xs xb n (L+1))))) (by kernel_rfl) ?_ (fun hHeld=>?_)
      ·(try dsimp only)
       go_keep
      refine wpAnyH_take (i:=0) (oi:=({dst:=some 37,op:=Op.move (Operand.tmp 9),type:=3,pos:= "l02_tree.go:165",after:=#[],guard:=none}:Oper)) (v:=?_) rfl (by kernel_rfl) (by kernel_rfl) (by kernel_rfl) (fun _ _ _ h=>h) (Or.inl ⟨by rfl,?_⟩) (by assumption) ?_;rotate_left
      ·(intro w aA;(try dsimp only at aA);go_simp;try with_reducible rfl)
      try simp only[Act.put,s1,s2,s3]
      refine wpAnyH_take (i:=1) (oi:=({dst:=some 38,op:=Op.move (Operand.tmp 9),type:=3,pos:= "l02_tree.go:165",after:=#[],guard:=none}:Oper)) (v:=?_) rfl (by kernel_rfl) (by kernel_rfl) (by kernel_rfl) (fun _ _ _ h=>h) (Or.inl ⟨by rfl,?_⟩) (by assumption) ?_;rotate_left
      ·(intro w aA;(try dsimp only at aA);go_simp;try with_reducible rfl)
      try simp only[Act.put,s1,s2,s3]
      refine wpAnyH_take (i:=2) (oi:=({dst:=some 39,op:=Op.fieldAddr 159 (Operand.tmp 7) 0,type:=0,pos:= "l02_tree.go:165",after:=#[],guard:=none}:Oper)) (v:=?_) rfl (by kernel_rfl) (by kernel_rfl) (by kernel_rfl) (fun _ _ _ h=>h) (Or.inl ⟨by rfl,?_⟩) (by assumption) ?_;rotate_left
      ·(intro w aA;(try dsimp only at aA);go_simp;try with_reducible rfl)
      try simp only[Act.put,s1,s2,s3]
      refine wpAnyH_take (i:=3) (oi:=({dst:=some 40,op:=Op.indexAddr 154 (Operand.tmp 39) (Operand.tmp 38),type:=0,pos:= "l02_tree.go:165",after:=#[{on:=2,ground:=Ground.data},{on:=1,ground:=Ground.data}],guard:=none}:Oper)) (v:=?_) rfl (by kernel_rfl) (by kernel_rfl) (by kernel_rfl) (fun _ _ _ h=>h) (Or.inl ⟨by rfl,?_⟩) (by assumption) ?_;rotate_left
      ·(intro w aA;(try dsimp only at aA);go_simp;try with_reducible rfl)
      try simp only[Act.put,s1,s2,s3]
      refine wpAnyH_take (i:=4) (oi:=({dst:=some 41,op:=Op.load 2 (Operand.tmp 40),type:=2,pos:= "l02_tree.go:165",after:=#[{on:=3,ground:=Ground.data}],guard:=none}:Oper)) (v:=?_) rfl (by kernel_rfl) (by kernel_rfl) (by kernel_rfl) (fun _ _ _ h=>h) (Or.inl ⟨by rfl,?_⟩) (by assumption) ?_;rotate_left
      ·(intro w aA;(try dsimp only at aA);go_simp;try with_reducible rfl)
      try simp only[Act.put,s1,s2,s3]
      refine wpAnyH_take (i:=5) (oi:=({dst:=some 42,op:=Op.fieldAddr 159 (Operand.tmp 7) 1,type:=0,pos:= "l02_tree.go:165",after:=#[],guard:=none}:Oper)) (v:=?_) rfl (by kernel_rfl) (by kernel_rfl) (by kernel_rfl) (fun _ _ _ h=>h) (Or.inl ⟨by rfl,?_⟩) (by assumption) ?_;rotate_left
      ·(intro w aA;(try dsimp only at aA);go_simp;try with_reducible rfl)
      try simp only[Act.put,s1,s2,s3]
      refine wpAnyH_take (i:=6) (oi:=({dst:=some 43,op:=Op.indexAddr 156 (Operand.tmp 42) (Operand.tmp 37),type:=0,pos:= "l02_tree.go:165",after:=#[{on:=5,ground:=Ground.data},{on:=0,ground:=Ground.data}],guard:=none}:Oper)) (v:=?_) rfl (by kernel_rfl) (by kernel_rfl) (by kernel_rfl) (fun _ _ _ h=>h) (Or.inl ⟨by rfl,?_⟩) (by assumption) ?_;rotate_left
      ·(intro w aA;(try dsimp only at aA);go_simp;try with_reducible rfl)
      try simp only[Act.put,s1,s2,s3]
      refine wpAnyH_take (i:=7) (oi:=({dst:=some 44,op:=Op.indexAddr 155 (Operand.tmp 43) (Operand.tmp 41),type:=0,pos:= "l02_tree.go:165",after:=#[{on:=6,ground:=Ground.data},{on:=4,ground:=Ground.data}],guard:=none}:Oper)) (v:=?_) rfl (by kernel_rfl) (by kernel_rfl) (by kernel_rfl) (fun _ _ _ h=>h) (Or.inl ⟨by rfl,?_⟩) (by assumption) ?_;rotate_left
      ·(intro w aA;(try dsimp only at aA);go_simp;try with_reducible rfl)
      try simp only[Act.put,s1,s2,s3]
      refine wpAnyH_take (i:=8) (oi:=({dst:=some 45,op:=Op.load 61 (Operand.tmp 44),type:=61,pos:= "l02_tree.go:165",after:=#[{on:=7,ground:=Ground.data}],guard:=none}:Oper)) (v:=?_) rfl (by kernel_rfl) (by kernel_rfl) (by kernel_rfl) (fun _ _ _ h=>h) (Or.inl ⟨by rfl,?_⟩) (by assumption) ?_;rotate_left
      ·(intro w aA;(try dsimp only at aA);go_simp;try with_reducible rfl)
      try simp only[Act.put,s1,s2,s3]
      refine wpAnyH_ready (rs:=[9]) (by kernel_rfl) (by simp) ?_;refine AllReadyH.cons (o:=({dst:=none,op:=Op.store 61 (Operand.tmp 8) (Operand.tmp 45),type:=0,pos:= "l02_tree.go:165",after:=#[{on:=8,ground:=Ground.data},{on:=0,ground:=Ground.phase},{on:=1,ground:=Ground.phase},{on:=2,ground:=Ground.phase},{on:=3,ground:=Ground.phase},{on:=4,ground:=Ground.phase},{on:=5,ground:=Ground.phase},{on:=6,ground:=Ground.phase},{on:=7,ground:=Ground.phase},{on:=8,ground:=Ground.phase}],guard:=none}:Oper)) rfl (fun K hK=>?_) AllReadyH.nil;go_simp
      (try go_wp2_with fail)
      refine hK.out _ _ ?_ (fun bA=>?_)
      ·(try dsimp only)
       exact rA.out _ _ _ rfl
      clear hK K hHeld;have hHeld:=bA;clear bA
      try simp only[Act.put,s1,s2,s3]
      refine wpAnyH_done (by kernel_rfl) ?_ _;go_wp2;go_step3;have hk:=Hk.out;have lB:zF (fun k=>k=X) w4 ((w4.setCell ⟨X,0,none⟩ (.int .i64 (qy p xs xb n (L+1)))).setCell ⟨X,1,none⟩ (.int .i64 (yk p xs xb n (L+1)))).drew:=by
       have h:=yQ w4 X (.int .i64 (qy p xs xb n (L+1))) (.int .i64 (yk p xs xb n (L+1)));exact⟨h.os,h.tape,h.output,h.size,h.block⟩
      exact⟨B,X,L+1,zDT _ rfl,by omega,hB,hX,Nat.lt_of_lt_of_le tA lB.size,vB.out.trans (lB.zRX (B:=w.heap.size) vB.out.size (by intro k hk;omega)),(lB.block _ (by omega) (by omega)).trans iC.out,Or.inl ⟨rfl,by omega,aB.out.zRf lB (by omega),dC.out.put _ _⟩⟩
  ·refine⟨_,rfl,?_⟩;have HW:=zE hW;have HO:=zE hO;have Hb:=zE hb;have Hk:=zE hk;have HR:=zE hr;have nD:(L:Int)<3:=(by omega);have jD:B≠X:=(by omega);obtain⟨y0,_⟩:=HW.out (34+L*2) (by omega);rw[(zMC p xs xb n 2 o hL).1]at y0;obtain⟨y1,_⟩:=HW.out (34+L*2+1) (by omega);rw[(zMC p xs xb n 2 o hL).2]at y1;clear hW hO hb hk hr;obtain⟨wd,sC⟩:=Option.map_eq_some_iff.1 zQs;have HU:=zE sC;clear sC;by_cases hN:Nil (qy p xs xb n L) (yk p xs xb n L)
   ·have HN:=zE hN;rw[hN.1]at y0;rw[hN.2]at y1;clear hN;have dA:Hid (zw w1 (X+1) o (yf p xs xb n (2 - L+1))):=by
     have:=HR.out;rw[zMF p xs xb n hL];unfold one;rw[if_pos HN.out,List.append_nil];exact this
    have fA:=HW;have eA:=HO;have mA:=Hb;have nB:=nA;clear HW HO Hb HR nA;by_cases bC:L=0
    ·subst bC;go_wp2_with (first
      | (refine wpList_load_mid rfl 159 (.tmp 7) rfl B 0 rfl ((List.range 41).map (yq p xs xb n 2 3 o)) wd fA.out.range HU.out.1 HU.out.2 (zLX _) ?_)
      | (refine wpList_store_row rfl 159 (.tmp 6) (.tmp 67) rfl (w.heap.size+1) (zBQ (yq p xs xb n 2 3 o)) rfl rfl 159 zPp eA.out (zF7 _) (by rw[zGi];rfl) (zLj _ _ _ _ _ _ dA.out.one) ?_)
      | fail)
     unfold hop;dsimp only;refine bodyPost_ret (v:=.agg (zBQ (yq p xs xb n 2 3 o))) (results_cell_row (P:=Tryz.prog) (ty:=159) Tryz.results102 _ _ (w.heap.size+1) 159 (zBQ (yq p xs xb n 2 3 o)) (0,0) _ rfl (setRow_heap _ _ _ _ _ _ eA.out) HU.out.1 (by have:=HU.out.2;cases wd<;>exact this) (zF7 _)) rfl ⟨o,rfl,?_,?_⟩
     ·exact(dA.out.setRow (by omega) _).mono (by omega)
     ·exact below_setRow mA.out (by omega) _
    ·obtain⟨M,rfl⟩:∃M,L=M+1:=⟨L - 1,by omega⟩;have hM:(0:Int)<(M:Int)+1:=(by omega);go_wp2;go_step3;have hk:=Hk.out;exact⟨B,X,M,zDT _ rfl,by omega,hB,hX,nB,mA.out,eA.out,Or.inr ⟨rfl,by omega,o,fA.out,by
      have:=dA.out;rw[show 2 - (M+1)+1=2 - M by omega]at this;exact this⟩⟩
   ·have HN:=zE hN;obtain⟨oa,oc,rfl,_⟩:=zY HR.out;have fC:w1.cell? ⟨B,40,none⟩=some (.slice oa (yf p xs xb n (2 - L)).length oc):=(HW.out 40 (by omega)).1;rcases zAu hN with e0 | ⟨e0,e1⟩
    all_goals
     clear hN;go_upto_region 9 with fail;have eC:Below w1.heap.size w1 (w1.alloc (.cells #[.int .i64 (qy p xs xb n L),.int .i64 (yk p xs xb n L)] 61)):=zC _ _;have aC:(w1.alloc (.cells #[.int .i64 (qy p xs xb n L),.int .i64 (yk p xs xb n L)] 61)).cell? ⟨B,40,none⟩=some (.slice oa (yf p xs xb n (2 - L)).length oc):=((HW.out.zRX eC) 40 (by omega)).1;have iB:Hid (Below w1.heap.size w1 (w1.alloc (.cells #[.int .i64 (qy p xs xb n L),.int .i64 (yk p xs xb n L)] 61)).drew):=eC.drew;clear eC;have tC:Hid (zw (w1.alloc (.cells #[.int .i64 (qy p xs xb n L),.int .i64 (yk p xs xb n L)] 61)).drew w1.heap.size (.slice (some ⟨w1.heap.size,0,none⟩) 1 1) [(qy p xs xb n L,yk p xs xb n L)]):=World.ownsRow_lit (e:=61) (size:=2) w1 #[.int .i64 (qy p xs xb n L),.int .i64 (yk p xs xb n L)] 1 (Nat.le_refl _) (by unfold maxLen;omega) rfl
     go_region_law (refine zOo rfl (.tmp 55) (.tmp 60) rfl (X+1) w1.heap.size (.slice oa (yf p xs xb n (2 - L)).length oc) (yf p xs xb n (2 - L)) (by simp[Act.eval]) (HR.out.zRX iB.out) (some ⟨w1.heap.size,0,none⟩) 1 1 [(qy p xs xb n L,yk p xs xb n L)] (by simp[Act.eval]) rfl tC.out (by have:=zMs p xs xb n (2 - L);simp;omega) (by have:=iB.out.size;omega) ?_;intro v3 w3 cC kA;obtain⟨va,vc,rfl,_⟩:=zY cC;have tB:zF (fun k=>X<k) w1 w3:=(zF.zRa iB.out).trans ⟨kA.os,kA.tape,kA.output,kA.size,fun k hk fD=>kA.block k hk (fun e=>fD (by have:=(HR.out.lt e.symm).1;omega))⟩;obtain⟨k0,lD⟩:=(HW.out.zRf tB (by omega)) 40 (by omega);have gC:=zE tB;have lC:=zE cC;clear tB cC kA)
     all_goals
      have bB:(yf p xs xb n (2 - L) ++ [(qy p xs xb n L,yk p xs xb n L)]).length=(yf p xs xb n (2 - L)).length+1:=(by simp);have jB:zF (fun k=>X<k\/k=B) w1 (w3.setCell ⟨B,40,none⟩ (.slice va ((yf p xs xb n (2 - L)).length+1) vc)):=zF.setCell (S:=fun k=>X<k\/k=B) (gC.out.mono (fun k hk=>Or.inl hk)) (p:=⟨B,40,none⟩) (Or.inr rfl) _;have fA:=zE (zQI (.slice va ((yf p xs xb n (2 - L)).length+1) vc) (HW.out.zRf gC.out (by omega)));have dA:Hid (zw (w3.setCell ⟨B,40,none⟩ (.slice va ((yf p xs xb n (2 - L)).length+1) vc)) (X+1) (.slice va ((yf p xs xb n (2 - L)).length+1) vc) (yf p xs xb n (2 - L+1))):=by
       have:=lC.out.put (b:=B) (o:=40) (by omega) (.slice va ((yf p xs xb n (2 - L)).length+1) vc);rw[bB]at this;rw[zMF p xs xb n hL];unfold one;rw[if_neg HN.out];exact this
      have eA:=zE ((jB.block _ (by omega) (by omega)).trans HO.out);have mA:=zE (Hb.out.trans (jB.zRX (B:=w.heap.size) Hb.out.size (by intro k hk;omega)));have nB:=Nat.lt_of_lt_of_le nA jB.size;clear jB lC gC iB tC aC fC HW HO Hb HR nA k0 lD bB y0 y1;generalize w3.setCell ⟨B,40,none⟩ (.slice va ((yf p xs xb n (2 - L)).length+1) vc)=w4 at fA dA eA mA nB ⊢;generalize Value.slice va ((yf p xs xb n (2 - L)).length+1) vc=oq at fA dA ⊢;by_cases bC:L=0
      ·subst bC;go_wp2_with (first
        | (refine wpList_load_mid rfl 159 (.tmp 7) rfl B 0 rfl ((List.range 41).map (yq p xs xb n 2 3 oq)) wd fA.out.range HU.out.1 HU.out.2 (zLX _) ?_)
        | (refine wpList_store_row rfl 159 (.tmp 6) (.tmp 67) rfl (w.heap.size+1) (zBQ (yq p xs xb n 2 3 oq)) rfl rfl 159 zPp eA.out (zF7 _) (by rw[zGi];rfl) (zLj _ _ _ _ _ _ dA.out.one) ?_)
        | fail)
       unfold hop;dsimp only;refine bodyPost_ret (v:=.agg (zBQ (yq p xs xb n 2 3 oq))) (results_cell_row (P:=Tryz.prog) (ty:=159) Tryz.results102 _ _ (w.heap.size+1) 159 (zBQ (yq p xs xb n 2 3 oq)) (0,0) _ rfl (setRow_heap _ _ _ _ _ _ eA.out) HU.out.1 (by have:=HU.out.2;cases wd<;>exact this) (zF7 _)) rfl ⟨oq,rfl,?_,?_⟩
       ·exact(dA.out.setRow (by omega) _).mono (by omega)
       ·exact below_setRow mA.out (by omega) _
      ·obtain⟨M,rfl⟩:∃M,L=M+1:=⟨L - 1,by omega⟩;have hM:(0:Int)<(M:Int)+1:=(by omega);go_wp2;go_step3;have hk:=Hk.out;exact⟨B,X,M,zDT _ rfl,by omega,hB,hX,nB,mA.out,eA.out,Or.inr ⟨rfl,by omega,oq,fA.out,by
        have:=dA.out;rw[show 2 - (M+1)+1=2 - M by omega]at this;exact this⟩⟩
 ·intro enter;go_upto_region 1 with fail;generalize (w.alloc (.cells #[.int .i64 xs,.int .i64 xb] 61)).alloc (.cells #[.int .i64 0,.int .i64 0,.int .i64 0,.int .i64 0,.int .i64 0,.int .i64 0,.int .i64 0,.int .i64 0,.int .i64 0,.int .i64 0,.int .i64 0,.int .i64 0,.int .i64 0,.int .i64 0,.int .i64 0,.int .i64 0,.int .i64 0,.int .i64 0,.int .i64 0,.int .i64 0,.int .i64 0,.int .i64 0,.int .i64 0,.int .i64 0,.int .i64 0,.int .i64 0,.int .i64 0,.int .i64 0,.int .i64 0,.int .i64 0,.int .i64 0,.int .i64 0,.int .i64 0,.int .i64 0,.int .i64 0,.int .i64 0,.int .i64 0,.int .i64 0,.int .i64 0,.int .i64 0,.slice none 0 0] 159)=W at mB fB eB oA ⊢;have gB:=zC W (.cells (zIB n) 159);have iD:=zE (mB.out.zRX gB);have gD:=zE (zQW W n);have mD:=zE ((gB.block _ (by omega)).trans fB.out);have bD:=zA eB gB;have mC:(W.alloc (.cells (zIB n) 159)).heap.size=w.heap.size+3:=(by rw[World.size_alloc,oA]);obtain⟨⟨x0,x1⟩,⟨x2,x3⟩⟩:=iD.out;have kD:=zE oA;clear gB mB fB eB oA;go_wp2_with (first
   | (refine wpList_store_row rfl 159 (.tmp 7) (.tmp 15) rfl W.heap.size (zIB n) rfl rfl 159 zPp (heap_alloc_last _ _) (zPF n) rfl (zOz n) ?_;rw[World.setRow_alloc_new])
   | fail)
  go_step3
  rename_i K hK
  refine hK _ _ (enter 0 _ _ _ rfl ?_);clear hK;have oA:=kD.out;have iA:=zC (W.alloc (.cells (zIB n) 159)) (.cells #[.int .i64 xs,.int .i64 xb] 61);refine⟨W.heap.size,w.heap.size+3,0,zDT _ rfl,by omega,by omega,by omega,by rw[World.size_alloc,mC];omega,zA bD iA,?_,Or.inl ⟨rfl,by omega,?_,?_⟩⟩
  ·exact(iA.block _ (by omega)).trans mD.out
  ·exact(gD.out.zRX iA).congr fun i hi=>zPC p xs xb n hi
  ·have:=zc.zRZ (W.alloc (.cells (zIB n) 159)) (.int .i64 xs) (.int .i64 xb) 61;rw[mC]at this;exact this
theorem zCB(p:zI)(i:Nat)(s:zL):(yF p i s).s i=s:=if_pos rfl
theorem zDY(p:zI){i j:Nat}(s:zL)(h:j≠i):(yF p i s).s j=p.s j:=if_neg h
theorem zD5{p:zI}{i:Nat}{s:zL}{xs xb:Int}(hi:qE (p.s i))(h:zr p xs xb):zr (yF p i s) xs xb:=by
 obtain⟨h1,h2,h3,h4⟩:=h;refine⟨h1,h2,h3,?_⟩;have aA:xs.toNat≠i:=fun e=>by
  rw[e]at h4;have:=hi.1;omega
 rw[zDY p s aA];exact h4
theorem zLN{p:zI}{i:Nat}{s t:zL}(hi:qE (p.s i))(h:zAg p t):zAg (yF p i s) t:=by
 refine⟨h.1,?_⟩;rcases h.2 with h2 | h2
 ·exact Or.inl h2
 ·refine Or.inr ⟨h2.1,h2.2.1,fun m hm=>?_⟩;rcases h2.2.2 m hm with h3 | h3
  ·exact Or.inl h3
  ·exact Or.inr ⟨zD5 hi h3.1,h3.2⟩
theorem zGV{p:zI}{i:Nat}{s:zL}(hR:zx p)(hi:qz p.n p.s i)(hs:zAg p s):zx (yF p i s):=by
 refine⟨hR.1,fun j hj=>?_,fun j hj=>?_⟩
 ·by_cases e:j=i
  ·rw[e,zCB];exact Or.inr (zLN hi.2.1 hs)
  ·rw[zDY p s e];rcases hR.2.1 j hj with h | h
   ·exact Or.inl h
   ·exact Or.inr (zLN hi.2.1 h)
 ·obtain⟨h1,h2,h3,h4⟩:=hR.2.2 j hj;refine⟨h1,h2,?_,h4⟩;have aA:(p.h j).toNat≠i:=fun e=>h3 (by rw[e];exact hi.2.1)
  show ¬qE ((yF p i s).s (p.h j).toNat);rw[zDY p s aA];exact h3
theorem zAH{p:zI}{s:zL}(h:zAg p s):¬qE s:=fun hf=>by
 have:=hf.1;have:=h.1.1;omega
theorem zLh{p:zI}{i:Nat}{s:zL}(hi:qE (p.s i))(hs:¬qE s):∀n,roomN (yF p i s).s n+(if i<n then 1 else 0)=roomN p.s n
 | 0=>rfl
 | n+1=>by
  have ih:=zLh hi hs n;by_cases e:n=i
  ·subst e;rw[if_pos (by omega)];rw[if_neg (by omega)]at ih;rw[zCD (by rw[zCB];exact hs),zBt hi];omega
  ·have aA:(yF p i s).s n=p.s n:=zDY p s e;have bA:(if i<n+1 then 1 else 0)=(if i<n then 1 else 0):=by
    by_cases e2:i<n
    ·rw[if_pos e2,if_pos (by omega)]
    ·rw[if_neg e2,if_neg (by omega)]
   rw[bA];by_cases hf:qE (p.s n)
   ·rw[zBt (by rw[aA];exact hf),zBt hf];omega
   ·rw[zCD (by rw[aA];exact hf),zCD hf];exact ih
def zBT(p:zI)(xs xb:Int)(n L:Nat)(x:Int)(i:Nat):Int:=if i=plc n L then x else yo p (qy p xs xb n L) (yk p xs xb n L) i
def zBR(p:zI)(xs xb:Int)(n L:Nat)(y:Int)(i:Nat):Int:=if i=plc n L then y else zAI p (qy p xs xb n L) (yk p xs xb n L) i
noncomputable def zNl(p:zI)(xs xb:Int)(n:Nat)(b:Int)(o:zD0)(L:Nat):zD0:=zFJ o.zRd (zBT p xs xb n L o.ps) (zBR p xs xb n L o.pb) b
noncomputable def layS(p:zI)(xs xb:Int)(n:Nat)(b:Int)(o:zD0):Nat->zD0
 | 0=>o
 | k+1=>zNl p xs xb n b (layS p xs xb n b o k) (1 - k)
theorem zIE:qC (zEV 0)=0:=rfl
theorem zFO(p:zI)(s:zL):qC (qx p s).zRd<=qC p+zAN s:=by
 unfold qx;split
 ·split
  ·exact zJJ _ _ _
  ·show qC (zEV 0)<=_;rw[zIE];omega
 ·show qC (zEV 0)<=_;rw[zIE];omega
theorem zNJ(p:zI)(f g:Nat->Int)(b:Int):qC (zFJ p f g b).zRd<=qC p+8:=by
 unfold zFJ;split
 ·show qC p<=_;omega
 ·exact zFO p (zAk f g b)
theorem zGk(p:zI)(xs xb:Int)(n:Nat)(b:Int)(o:zD0):∀k,qC (layS p xs xb n b o k).zRd<=qC o.zRd+8*k
 | 0=>Nat.le_refl _
 | k+1=>by
  have h1:=zGk p xs xb n b o k;have h2:=zNJ (layS p xs xb n b o k).zRd (zBT p xs xb n (1 - k) (layS p xs xb n b o k).ps) (zBR p xs xb n (1 - k) (layS p xs xb n b o k).pb) b;show qC (zFJ _ _ _ _).zRd<=_;omega
theorem zOZ{p:zI}{xs xb:Int}{n M L:Nat}{o:Value}{w:World}{B:Nat}(hL:L<2)(h:yN w B (yq p xs xb n 2 M o)):w.rangeAt B (2+L*16) (zp (zCK p xs xb n L)).toList:=fun j v hv=>by
 have hj:j<16:=by
  have:=(List.getElem?_eq_some_iff.1 hv).1;simpa[qB]using this
 have e:(zp (zCK p xs xb n L)).toList[j]?=some (.int .i64 (zCK p xs xb n L j)):=by rw[Array.getElem?_toList];exact yO (zCK p xs xb n L) hj
 rw[e]at hv;simp only[Option.some.injEq]at hv;rw[<-hv,(h (2+L*16+j) (by omega)).1];unfold yq;rw[if_neg (by omega),if_pos (by omega),show(2+L*16+j - 2) / 16=L by omega,show(2+L*16+j - 2) % 16=j by omega,if_pos (by omega)]
theorem zP9(p:zI)(xs xb:Int)(n L:Nat)(x y:Int)(hn:n<64):zp (fun j=>if j=plc n L*2 then x else if j=plc n L*2+1 then y else zCK p xs xb n L j)=zp (mix (zBT p xs xb n L x) (zBR p xs xb n L y)):=by
 refine zJb fun j hj=>?_
 unfold mix zBT zBR;by_cases h1:j=plc n L*2
 ·rw[if_pos h1,if_pos (by omega),if_pos (by omega)]
 rw[if_neg h1];by_cases h2:j=plc n L*2+1
 ·rw[if_pos h2,if_neg (by omega),if_pos (by omega)]
 rw[if_neg h2];unfold zCK yo zAI zb zt;by_cases h3:j % 2=0
 ·rw[if_pos h3,if_neg (show ¬j / 2=plc n L by omega),show j / 2*2=j by omega]
 ·rw[if_neg h3,if_neg (show ¬j / 2=plc n L by omega),show j / 2*2+1=j by omega]
structure zCO where
 zRd:zI
 rs:Int
 rb:Int
 old:List (Int×Int)
 code:Int
def zAS(c:Int):zCO:=⟨zEV 0,0,0,[],c⟩
def zHb(t:zCO)(w:World)(e:Ending)(w':World):Prop:=
 ∃v0 v1 vo lo hi,e = .returned (.agg #[v0,v1,.int .i64 t.rs,.int .i64 t.rb,vo,.int .i64 t.code])/\w.heap.size<=lo/\hi<=w'.heap.size/\zy w' lo hi v0 v1 t.zRd/\zw w' w.heap.size vo t.old/\(∀k,vo.ownBlock=some k->k<lo\/hi<=k)/\Below w.heap.size w w'
open Classical in
noncomputable def zBi(p:zI)(xs xb:Int)(n:Nat)(b:Int)(o:zD0):zCO:=
 if (layS p xs xb n b o 1).code≠0 then zAS (layS p xs xb n b o 1).code
 else if (layS p xs xb n b o 2).code≠0 then zAS (layS p xs xb n b o 2).code
 else⟨(layS p xs xb n b o 2).zRd,(layS p xs xb n b o 2).ps,(layS p xs xb n b o 2).pb,yf p xs xb n 3,0⟩
theorem zKQ{p:zI}{xs xb:Int}{n:Nat}{b:Int}{o:zD0}{k:Nat}(hk:k<2)(h:∀j,j<=k->(layS p xs xb n b o j).code=0)(hc:(layS p xs xb n b o (k+1)).code≠0):zBi p xs xb n b o=zAS (layS p xs xb n b o (k+1)).code:=by
 unfold zBi;rcases k with _ | _ | k
 ·rw[if_pos hc]
 ·rw[if_neg (fun hh=>hh (h 1 (by omega))),if_pos hc]
 ·omega
theorem zK7{p:zI}{xs xb:Int}{n:Nat}{b:Int}{o:zD0}(h:∀j,j<=2->(layS p xs xb n b o j).code=0):zBi p xs xb n b o=⟨(layS p xs xb n b o 2).zRd,(layS p xs xb n b o 2).ps,(layS p xs xb n b o 2).pb,yf p xs xb n 3,0⟩:=by
 unfold zBi;rw[if_neg (fun hh=>hh (h 1 (by omega))),if_neg (fun hh=>hh (h 2 (by omega)))]
end Go.Proofs.YtmgeglgboadfiaaGreatDoor

/- A list of pointers is put behind what was dropped: what append answers. -/
import Derived.Test.YtmgeglgboadfiaaGreatDoorT18
set_option linter.unusedVariables false
set_option maxRecDepth 20000
set_option maxHeartbeats 4000000
namespace Go.Proofs.YtmgeglgboadfiaaGreatDoor
open Go.RowKit
theorem zK4{w:World}(ty:TypeId)(a ao:Option Addr)(c:Nat):(Builtin.append_ #[62,62] ty #[.slice a 0 0,.slice ao 0 c]).run Tryz.prog w = .ok (.slice a 0 0) w:=by
 obtain⟨i0,aA,bA⟩:=Option.map_eq_some_iff.1 zCe;have ht:Tryz.prog.underlying 62=some (.slice 61):=by kernel_rfl
 cases a<;>cases ao<;>simp[Builtin.append_,run_underlying ht,sizeOf,typeInfo,aA,Builtin.lenOf,Builtin.firstCells,storeCells,loadCells,loadCellsFrom]
theorem zGu{w:World}{kb n lo hi:Nat}{kv vo:Value}{f g:Nat->Int}{l:List (Int×Int)}(ho:zj w kb kv n f g)(hB:yh w 61 2 kv n)(hv:zR w lo hi vo l.length (zf l) (zh l))(hn:n+l.length<=4000000)(ty:TypeId) :
  ∃a c w' nb,(Builtin.append_ #[62,62] ty #[kv,vo]).run Tryz.prog w = .ok (.slice a (n+l.length) c) w'/\zj w' nb (.slice a (n+l.length) c) (zBF n f g ++ l).length (zf (zBF n f g ++ l)) (zh (zBF n f g ++ l))/\zF (fun j=>0<n/\j=kb) w w'/\(0<n+l.length->(0<n/\nb=kb)\/(w.heap.size<=nb/\nb<w'.heap.size)):=by
 obtain⟨i0,kA,nA⟩:=Option.map_eq_some_iff.1 zCe;simp only[Prod.mk.injEq]at nA;obtain⟨tA,bB,cB⟩:=nA;have ht:Tryz.prog.underlying 62=some (.slice 61):=by kernel_rfl
 have gA:(zBF n f g ++ l).length=n+l.length:=by rw[List.length_append,zAl]
 have jA:0<n->kv.ownBlock=some kb:=fun h0=>by
  obtain⟨_,a,c,hv,_,hx⟩:=ho;obtain⟨off,ha,_⟩:=hx h0;rw[hv,ha];rfl
 have cA:0<n->∀q,kv.ownBlock=some q->∀j u,(pcl (zBF n f g))[j]?=some u->w.cell? ⟨q,j,none⟩=some u:=fun h0 q hq j u hj=>by
  have rA:j<n*2:=by
   have:=(List.getElem?_eq_some_iff.1 hj).1
   rwa [zA4,zAl]at this
  obtain⟨_,a,c,lA,_,hx⟩:=ho;obtain⟨off,mA,aA⟩:=hx h0;rcases hB with⟨e,_⟩ | ⟨_,g',pA,eB,dA,_⟩
  ·omega
  ·rw[lA,mA]at dA;simp only[Value.slice.injEq,Option.some.injEq,Addr.mk.injEq,and_true,true_and]at dA;obtain⟨⟨rfl,rfl⟩,rfl⟩:=dA;rw[lA,mA]at hq;obtain rfl:kb=q:=(by injection hq);obtain⟨i,hd,eA⟩:∃i,i<n/\(j=i*2\/j=i*2+1):=⟨j / 2,by omega,by omega⟩;have h8:=aA i hd;obtain⟨e1,e2⟩:=zBa (zBF n f g) i (by rw[zAl];exact hd);have e3:=zHu f g hd;unfold zf zh at e3;rw[e3.1]at e1;rw[e3.2]at e2;rcases eA with rfl | rfl
   ·rw[e1]at hj;replace hj:=Option.some.inj hj;have h9:=h8.1.1;rw[Nat.zero_add]at h9;rw[h9,hj]
   ·rw[e2]at hj;replace hj:=Option.some.inj hj;have h9:=h8.2.1;rw[Nat.zero_add]at h9;rw[h9,hj]
 by_cases iA:l.length=0
 ·obtain rfl:l = []:=List.eq_nil_of_length_eq_zero iA;obtain⟨_,ao,co,rfl,_,_⟩:=hv;have bA:∀a c,kv = .slice a n c->zj w kb (.slice a n c) (zBF n f g ++ []).length (zf (zBF n f g ++ [])) (zh (zBF n f g ++ [])):=fun a c e=>by
   rw[List.append_nil,zAl];obtain⟨h1,a',c',h2,h3,hx⟩:=ho;rw[e]at h2;cases h2;refine⟨h1,a,c,rfl,h3,fun h0=>?_⟩;obtain⟨off,ha,aA⟩:=hx h0;exact⟨off,ha,fun i hi=>by rw[(zHu f g hi).1,(zHu f g hi).2];exact aA i hi⟩
  rcases Nat.eq_zero_or_pos n with h0 | h0
  ·rcases hB with⟨_,a,rfl⟩ | ⟨hp,_⟩
   ·subst h0;exact⟨a,0,w,kb,zK4 ty a ao co,bA a 0 rfl,zF.refl _ _,fun h=>by simp at h⟩
   ·omega
  ·obtain⟨a,c,hv⟩:∃a c,kv = .slice a n c:=(by obtain⟨_,a,c,h,_⟩:=ho;exact⟨a,c,h⟩);have fA:=hB.owns (base:=0) (xs:=pcl (zBF n f g)) h0 (by rw[zA4,zAl]) (fun _ _=>Nat.zero_le _) (cA h0);exact⟨a,c,w,kb,by rw[show(Value.slice a (n+([]:List (Int×Int)).length) c)=kv from hv.symm];exact zA5 0 62 ty 61 i0 2 co ao ht kA kv n _ fA,bA a c hv,zF.refl _ _,fun _=>Or.inl ⟨h0,rfl⟩⟩
 ·obtain⟨-,ao,co,rfl,-,hx⟩:=hv;obtain⟨b,off,rfl,-,-,aA⟩:=hx (by omega);obtain⟨q,vA,w',row,hr,bA,hg,sA,dB,aB⟩:=yh.append (P:=Tryz.prog) 62 ty 61 i0 _ 2 16 0 ht kA tA bB cB rfl (by decide) hB (xs:=pcl (zBF n f g)) (by rw[zA4,zAl]) (fun _ _ _=>Nat.zero_le _) cA
   ⟨b,off,none⟩ l.length co (pcl l) (zA4 l) (fun j u hj=>by
    have rA:j<l.length*2:=by
     have:=(List.getElem?_eq_some_iff.1 hj).1
     rwa [zA4]at this
    obtain⟨i,hd,eA⟩:∃i,i<l.length/\(j=i*2\/j=i*2+1):=⟨j / 2,by omega,by omega⟩;have h8:=aA i hd;obtain⟨e1,e2⟩:=zBa l i hd;rcases eA with rfl | rfl
    ·rw[e1]at hj;replace hj:=Option.some.inj hj;rw[<-hj,show(⟨b,off,none⟩:Addr).add (i*2)=⟨b,off+i*2,none⟩from by simp[Addr.add]];exact h8.1
    ·rw[e2]at hj;replace hj:=Option.some.inj hj;rw[<-hj,show(⟨b,off,none⟩:Addr).add (i*2+1)=⟨b,off+i*2+1,none⟩from by simp[Addr.add,Nat.add_assoc]];exact h8.2) (zFr l) (by omega) (by unfold maxLen;omega) (by omega) (Nat.zero_le _)
  have hR:zw w' 0 (.slice (some ⟨q,0,none⟩) (n+l.length) vA) (zBF n f g ++ l):=by
   unfold zw;rw[gA,zBC];exact bA
  obtain⟨nb,h1,h2⟩:=hR.own (by rw[gA];unfold maxLen;omega);have oA:q=nb:=by
   have:=(h2 (by rw[gA];exact Nat.add_pos_right n (Nat.pos_of_ne_zero iA))).1;simp only[Value.ownBlock]at this;injection this
  subst oA;refine⟨_,_,w',q,hr,h1,(zKS hg).mono ?_,fun _=>?_⟩
  ·intro j hj;rcases sA with h | ⟨h0,h⟩
   ·rw[h]at hj;cases hj
   ·rw[h,jA h0]at hj;injection hj with hj;exact⟨h0,hj.symm⟩
  ·rcases dB with⟨h0,h⟩ | h
   ·rw[jA h0]at h;injection h with h;exact Or.inl ⟨h0,h.symm⟩
   ·exact Or.inr ⟨by omega,aB⟩
theorem zHn{w w':World}{Q:Nat->Prop}{bs off n c:Nat}{kb:Nat->Nat}{kv:Nat->Value}{f:Nat->qC}(hS:yN w bs kb kv (.slice (some ⟨bs,off,none⟩) n c) n f)(aA:zBI kb n f)(cA:∀j,zCA bs kb n f j->Q j){k:Nat}(hk:k<n){s':qC}{nb:Nat}{nv:Value}
  (ht:zF (fun j=>j=bs\/(0<(f k).dn/\j=kb k)) w w') (hx:∀j,j<n->j≠k->∀r,r<6->∀u,zX w bs (off+j*6+r) u->zX w' bs (off+j*6+r) u) (hs:zAE w' bs (off+k*6) nb nv s') (dA:0<s'.dn->((0<(f k).dn/\nb=kb k)\/∀j,zCA bs kb n f j->j≠nb)/\Q nb) :
  zBW w' Q (.slice (some ⟨bs,off,none⟩) n c) n (fun j=>if j=k then s' else f j):=by
 have eA:∀i,i<n->i≠k->0<(f i).dn->0<s'.dn->kb i≠nb:=fun i hi jA h1 h2 e=>by
  rcases(dA h2).1 with⟨h3,h4⟩ | h3
  ·exact aA i k hi hk jA h1 h3 (by rw[e,h4])
  ·exact h3 (kb i) (Or.inr ⟨i,hi,h1,rfl⟩) e
 refine⟨bs,(fun j=>if j=k then nb else kb j),(fun j=>if j=k then nv else kv j),?_,?_,?_⟩
 ·obtain⟨hm,a,kA,hv,hc,iA⟩:=hS;simp only[Value.slice.injEq,true_and]at hv;obtain⟨rfl,rfl⟩:=hv;refine⟨hm,_,_,rfl,hc,fun h0=>?_⟩;obtain⟨gA,e,bA⟩:=iA h0;simp only[Option.some.injEq,Addr.mk.injEq,true_and,and_true]at e;subst e;refine⟨off,rfl,fun j hj=>?_⟩;by_cases e:j=k
  ·subst e;simp only[if_true];exact hs
  ·simp only[if_neg e];have h:=bA j hj;exact⟨hx j hj e 0 (by omega) _ h.c0,hx j hj e 1 (by omega) _ h.c1,hx j hj e 2 (by omega) _ h.c2,hx j hj e 3 (by omega) _ h.c3,hx j hj e 4 (by omega) _ h.c4,hx j hj e 5 (by omega) _ h.c5,h.zRX.zRR ht (fun h0 hh=>by
    rcases hh with hh | ⟨h1,hh⟩
    ·exact h.zRW h0 hh
    ·exact aA j k hj hk e h0 h1 hh),h.zRZ,h.zRW⟩
 ·intro i j hi hj fA h1 h2;show(if i=k then nb else kb i)≠(if j=k then nb else kb j);by_cases e1:i=k
  ·by_cases e2:j=k
   ·exact absurd (e1.trans e2.symm) fA
   ·simp only[if_pos e1]at h1;simp only[if_neg e2]at h2;rw[if_pos e1,if_neg e2];exact fun e=>eA j hj e2 h2 h1 e.symm
  ·simp only[if_neg e1]at h1;by_cases e2:j=k
   ·simp only[if_pos e2]at h2;rw[if_neg e1,if_pos e2];exact eA i hi e1 h1 h2
   ·simp only[if_neg e2]at h2;rw[if_neg e1,if_neg e2];exact aA i j hi hj fA h1 h2
 ·rintro j (⟨h0,rfl⟩ | ⟨i,hi,h0,rfl⟩)
  ·exact cA _ (Or.inl ⟨h0,rfl⟩)
  ·by_cases e:i=k
   ·simp only[if_pos e]at h0 ⊢;exact(dA h0).2
   ·simp only[if_neg e]at h0 ⊢;exact cA _ (Or.inr ⟨i,hi,h0,rfl⟩)
theorem yh.turnedL{S:Nat->Prop}{w w1 w':World}{e:TypeId}{s:Nat}{v:Value}{n:Nat}(h:yh w e s v n)(hb:Below w.heap.size w w1)(t:zF S w1 w')(eA:0<n->∃q,v.ownBlock=some q/\¬S q):yh w' e s v n:=by
 rcases h with h | ⟨h0,g,cA,bA,hv,hg,h1,h2,h3⟩
 ·exact Or.inl h
 ·obtain⟨q,hq,hS⟩:=eA h0;rw[hv]at hq;have dA:g=q:=(by simpa[Value.ownBlock]using hq);subst dA;have aA:=(Array.getElem?_eq_some_iff.1 hg).1;exact Or.inr ⟨h0,g,cA,bA,hv,((t.block g (Nat.lt_of_lt_of_le aA hb.size) hS).trans (hb.block g aA)).trans hg,h1,h2,h3⟩
theorem zIr(W:zH)(q:zJ)(x:Int):zN {W with zRQ:=q} x=zN W x:=rfl
theorem zGn(v0 v1:Value)(lo hi:Nat)(p:zJ)(xs xb:Int)(w:World)(h1:zy w lo hi v0 v1 p)(hn:qD p<=1048576) :
    Calls Tryz.prog 153 #[.agg #[v0,v1],.agg #[.int .i64 xs,.int .i64 xb]] w (zMs (zHl p xs xb) w):=by
  have Hp:=zU h1;obtain⟨a,c,a',c',rfl,rfl⟩:=h1.form;have Hn:=zU hn;have nC:p.hn<=1048576:=(by unfold qD at hn;omega);have aC:p.n<=1048576:=(by unfold qD at hn;omega);have jC:Hid (∀j,j<p.n->(p.s j).kn<=1048576):=fun j hj=>by have h2:=zFm p.s hj;unfold zAV at h2;unfold qD at hn;omega
  have lC:p.hn<=c':=(by obtain⟨_,⟨_,_,_,e,h,_⟩⟩:=h1;simp only[Value.slice.injEq,true_and]at e;omega);have mB:=zQw w (.slice a p.n c) (.slice a' p.hn c') (.int .i64 xs) (.int .i64 xb) 33 61 151;obtain⟨i0,lB,jB⟩:=Option.map_eq_some_iff.1 zDQ;simp only[Prod.mk.injEq]at jB;have HI:=zU (And.intro lB jB);clear h1 hn lB jB;go_enter Tryz.func153,Tryz.ntmps153;go_wp2_with fail;generalize ((w.alloc (.cells #[.slice a p.n c,.slice a' p.hn c'] 33)).alloc (.cells #[.int .i64 xs,.int .i64 xb] 61)).alloc (.cells #[.slice none 0 0,.slice none 0 0,.int .i64 0,.int .i64 0,.int .i64 0] 151)=W at mB ⊢;obtain⟨hB,hX,hR,eB,hz⟩:=mB;refine(yy _ _ lo hi p _ (Hp.out.zRJ eB)).mono ?_;rintro e w1 ⟨⟨t,rfl,ht⟩,rA⟩;have gB:=zU (hB.zRJ rA);have fB:=zU (hX.zRJ rA);have bB:=zU (hR.zRJ rA);have cB:=zA eB rA;have oB:w.heap.size+3<=w1.heap.size:=(by have:=rA.size;omega);clear hB hX hR eB rA hz;by_cases mA:zv p
  · have nA:=zU mA
    obtain rfl:t=true:=ht.2 mA;clear ht mA;obtain⟨⟨x0,x1⟩,⟨x2,x3⟩⟩:=gB.out;obtain⟨⟨y0,y1⟩,⟨y2,y3⟩⟩:=fB.out;go_wp2_with fail;refine(zEa _ p.n lo hi p.s _ _ _ (Hp.out.1.zRJ cB)).mono ?_;rintro e w2 ⟨⟨t,rfl,ht⟩,pA⟩;rw[zEh nA.out]at ht;have tA:=zU (gB.out.zRJ pA);have dB:=zU (fB.out.zRJ pA);have kA:=zU (bB.out.zRJ pA);have jA:=zA cB pA;have mC:w.heap.size+3<=w2.heap.size:=(by have:=pA.size;omega);clear pA cB gB fB bB oB x0 x1 x2 x3 y0 y1 y2 y3;by_cases hP:zr p xs xb
    · have HP:=zU hP
      obtain rfl:t=true:=ht.2 hP;clear ht hP;obtain⟨⟨x0,x1⟩,⟨x2,x3⟩⟩:=tA.out;obtain⟨⟨y0,y1⟩,⟨y2,y3⟩⟩:=dB.out;go_wp2_with fail;refine(zCI _ p.hn lo hi p.h _ _ (Hp.out.2.zRJ jA)).mono ?_;rintro e w3 ⟨⟨t,rfl,ht⟩,eC⟩;subst eC;by_cases hH:Has p.hn p.h xs
      · have HH:=zU hH
        obtain rfl:t=true:=ht.2 hH;clear ht hH;obtain⟨⟨u0,u1⟩,⟨u2,u3⟩,⟨u4,u5⟩,⟨u6,u7⟩,⟨u8,u9⟩⟩:=kA.out;go_wp2;have fA:=kA.out.put (.slice none 0 0) (.slice none 0 0) (.int .i64 0) (.int .i64 0) (.int .i64 4);have iA:=zCg (R:=w.heap.size+1+1) (u2:=.int .i64 0) (u3:=.int .i64 0) (u4:=.int .i64 4) (by omega) jA;rw[zJY nA.out (fun h=>h.2 HH.out)];exact bodyPost_ret (v:=.agg #[.slice none 0 0,.slice none 0 0,.int .i64 0,.int .i64 0,.int .i64 4]) (by simp[results,Tryz.results153,go_sem,fA.1.1,fA.2.1.1,fA.2.2.1.1,fA.2.2.2.1.1,fA.2.2.2.2.1]) rfl ⟨_,_,rfl,iA.1,iA.2⟩
      · have HH:=zU hH
        obtain rfl:t=false:=zQ ht hH;clear ht hH;obtain⟨⟨u0,u1⟩,⟨u2,u3⟩,⟨u4,u5⟩,⟨u6,u7⟩,⟨u8,u9⟩⟩:=kA.out;have vB:(p.hn:Int)<=(c':Int):=(by omega);have n0:w.heap.size+1+1≠w.heap.size:=(by omega);have n1:w.heap.size+1+1≠w.heap.size+1:=(by omega);go_wp2_with fail;go_region_held3 (fun w'=>w'.cell? ⟨w.heap.size,0,none⟩=some (.slice a p.n c)/\w'.cell? ⟨w.heap.size,1,none⟩=some (.slice a' p.hn c')/\w'.cell? ⟨w.heap.size+1,0,none⟩=some (.int .i64 xs)) (go_keep)
          (first
            | (go_at_call 193;refine(zD6 _ p.n lo hi p.s _ ?_ aC jC.out).mono ?_;(first | exact Hp.out.1.zRJ jA.drew | exact Hp.out.1.zRJ (zA jA (zC _ _)).drew);rintro e w5 ⟨v5,bs,kb,kv,rfl,iB,sA,lA,aB⟩;obtain⟨_,sa,kB,rfl,_⟩:=id iB;(first | (have nB:w5.cell? ⟨w3.heap.size,0,none⟩=some (.int .i64 xs):=((zI (i:=0) (v:=.int .i64 xs) (heap_alloc_new w3 (.cells #[.int .i64 xs] 2)) rfl).zRJ (zK aB)).1) | skip);have dA:Below w3.heap.size w3 w5:=(by first | exact zK aB | exact zA (zC _ _) (zK aB));have gA:∀k,yp bs kb p.n p.s k->w3.heap.size<=k/\k<w5.heap.size:=(by first | exact lA | exact fun k hk=>(by have:=lA k hk;simp at this;omega));have z0:=(tA.out.zRJ dA).1.1;have z1:=(tA.out.zRJ dA).2.1;have z2:=(dB.out.zRJ dA).1.1)
            | (refine step_append_grows rfl (.tmp 33) (.tmp 36) 23 rfl 2 i0 (.int .i64 0) 1 8 (by kernel_rfl) HI.out.1 HI.out.2.1 HI.out.2.2.1 HI.out.2.2.2 rfl (by decide) a' p.hn p.hn (ic p.h p.hn) (by simp[Act.eval]) (zL3 Hp.out.2) (zBl _ _) (zNF Hp.out.2 (zA jA (zA dA (zC w5 _)))) ⟨w5.heap.size,0,none⟩ 1 1 [.int .i64 xs] (by simp[Act.eval]) rfl (zRB _ _ _) (zQI _) (by omega) (by unfold maxLen;omega) (by omega) ?_
               intro v6 w6 bA aA;obtain⟨a6,c6,rfl,_⟩:=zW bA;have oA:Below w5.heap.size w5 w6:=zA (zC w5 _) (zCc aA);have eA:w6.ownsRow w5.heap.size 2 1 (.slice a6 (p.hn+1) c6) (p.hn+1) (ic p.h p.hn ++ [.int .i64 xs]):=zD4 bA (by simp);have cA:=zA dA oA;obtain⟨⟨p0,p1⟩,⟨p2,p3⟩⟩:=tA.out.zRJ cA;obtain⟨⟨p4,p5⟩,⟨p6,p7⟩⟩:=dB.out.zRJ cA;obtain⟨⟨p8,p9⟩,⟨dC,bC⟩,⟨fC,gC⟩,⟨pB,tB⟩,⟨sB,rB⟩⟩:=kA.out.zRJ cA;clear bA aA)
            | (refine step_append_grows rfl (.tmp 33) (.tmp 36) 23 rfl 2 i0 (.int .i64 0) 1 8 (by kernel_rfl) HI.out.1 HI.out.2.1 HI.out.2.2.1 HI.out.2.2.2 rfl (by decide) a' p.hn p.hn (ic p.h p.hn) (by simp[Act.eval]) (zL3 Hp.out.2) (zBl _ _) (zNF Hp.out.2 (zA jA dA)) ⟨w3.heap.size,0,none⟩ 1 1 [.int .i64 xs] (by simp[Act.eval]) rfl (zFh nB) (zQI _) (by omega) (by unfold maxLen;omega) (by omega) ?_
               intro v6 w6 bA aA;obtain⟨a6,c6,rfl,_⟩:=zW bA;have oA:Below w5.heap.size w5 w6:=zCc aA;have eA:w6.ownsRow w5.heap.size 2 1 (.slice a6 (p.hn+1) c6) (p.hn+1) (ic p.h p.hn ++ [.int .i64 xs]):=zD4 bA (by simp);have cA:=zA dA oA;obtain⟨⟨p0,p1⟩,⟨p2,p3⟩⟩:=tA.out.zRJ cA;obtain⟨⟨p4,p5⟩,⟨p6,p7⟩⟩:=dB.out.zRJ cA;obtain⟨⟨p8,p9⟩,⟨dC,bC⟩,⟨fC,gC⟩,⟨pB,tB⟩,⟨sB,rB⟩⟩:=kA.out.zRJ cA;clear bA aA))
        all_goals
          have kC:=zU (zJZ (p:=zAK p xs) (B:=w3.heap.size) (M:=w3.heap.size) (iB.zRJ oA) sA (fun k hk=>by have:=gA k hk;have:=oA.size;omega) (by show p.hn+1<=maxLen;unfold maxLen;omega) (by rw[<-zNK]at eA;exact eA) (fun k e=>by
            have h1:=eA.lt k e;refine⟨by have:=dA.size;omega,Or.inr (Or.inr ⟨h1.2,fun hx=>?_⟩)⟩;have:=gA k hx;omega) (Nat.le_refl _) (fun e=>absurd e (Nat.succ_ne_zero _)))
          have cC:=zU (kA.out.zRJ cA);have iC:=zA jA cA;clear iB sA lA gA aB dA oA cA eA;go_wp2;have vA:=cC.out.put (.slice sa p.n kB) (.slice a6 (p.hn+1) c6) (.int .i64 0) (.int .i64 0) (.int .i64 0);have iA:=zHI (R:=w.heap.size+1+1) (u2:=.int .i64 0) (u3:=.int .i64 0) (u4:=.int .i64 0) kC.out (by omega) (by omega) (Nat.le_refl _) iC;rw[zNL nA.out HP.out HH.out];exact bodyPost_ret (v:=.agg #[.slice sa p.n kB,.slice a6 (p.hn+1) c6,.int .i64 0,.int .i64 0,.int .i64 0]) (by simp[results,Tryz.results153,go_sem,vA.1.1,vA.2.1.1,vA.2.2.1.1,vA.2.2.2.1.1,vA.2.2.2.2.1]) rfl ⟨_,_,rfl,iA.1,iA.2⟩
    · have HP:=zU hP
      obtain rfl:t=false:=zQ ht hP;clear ht hP;obtain⟨⟨u0,u1⟩,⟨u2,u3⟩,⟨u4,u5⟩,⟨u6,u7⟩,⟨u8,u9⟩⟩:=kA.out;go_wp2;have fA:=kA.out.put (.slice none 0 0) (.slice none 0 0) (.int .i64 0) (.int .i64 0) (.int .i64 4);have iA:=zCg (R:=w.heap.size+1+1) (u2:=.int .i64 0) (u3:=.int .i64 0) (u4:=.int .i64 4) (by omega) jA;rw[zJY nA.out (fun h=>HP.out h.1)];exact bodyPost_ret (v:=.agg #[.slice none 0 0,.slice none 0 0,.int .i64 0,.int .i64 0,.int .i64 4]) (by simp[results,Tryz.results153,go_sem,fA.1.1,fA.2.1.1,fA.2.2.1.1,fA.2.2.2.1.1,fA.2.2.2.2.1]) rfl ⟨_,_,rfl,iA.1,iA.2⟩
  · have nA:=zU mA
    obtain rfl:t=false:=zQ ht mA;clear ht mA;obtain⟨⟨u0,u1⟩,⟨u2,u3⟩,⟨u4,u5⟩,⟨u6,u7⟩,⟨u8,u9⟩⟩:=bB.out;go_wp2;have fA:=bB.out.put (.slice none 0 0) (.slice none 0 0) (.int .i64 0) (.int .i64 0) (.int .i64 1);have iA:=zCg (R:=w.heap.size+1+1) (u2:=.int .i64 0) (u3:=.int .i64 0) (u4:=.int .i64 1) (by omega) cB;rw[zOF nA.out];exact bodyPost_ret (v:=.agg #[.slice none 0 0,.slice none 0 0,.int .i64 0,.int .i64 0,.int .i64 1]) (by simp[results,Tryz.results153,go_sem,fA.1.1,fA.2.1.1,fA.2.2.1.1,fA.2.2.2.1.1,fA.2.2.2.2.1]) rfl ⟨_,_,rfl,iA.1,iA.2⟩
theorem zOK(v0 v1:Value)(a b c:Int)(w:World):(Instr.field 151 (.agg #[v0,v1,.int .i64 a,.int .i64 b,.int .i64 c]) 0).run Tryz.prog w = .ok (.agg #[v0,v1]) w:=by kernel_rfl
theorem zMP(C lo hi:Nat)(z0 z1 z2 z3 u8:Value)(tm nx id m:Int)(p q:zJ)(x:Int×Int)(w:World)(hC:yn w C z0 z1 (.int .i64 tm) (.int .i64 nx) z2 z3 (.int .i64 id) (.int .i64 m) u8)(hP:zy w lo hi z0 z1 p)(hn:qD p<=1048576)(hh:zHl p x.1 x.2=⟨q,0,0,0⟩)(hm:0<=m)(iB:m<=1000000) :
  Calls Tryz.prog 96 #[.pointer (some ⟨C,0,none⟩),.agg #[.int .i64 x.1,.int .i64 x.2]] w fun e w'=>(∃v,e = .returned v)/\∃y0 y1,yn w' C y0 y1 (.int .i64 tm) (.int .i64 nx) z2 z3 (.int .i64 id) (.int .i64 (m+1)) u8/\zt w' w.heap.size w'.heap.size y0 y1 q/\zF (fun j=>j=C) w w':=by
 obtain⟨a0,c0,a1,c1,rfl,rfl⟩:=hP.form;have kB:=hC.1.lt;have iA:=zC w (.cells #[.int .i64 x.1,.int .i64 x.2] 61);have HX:=zB (zc.zRL w (.int .i64 x.1) (.int .i64 x.2) 61);have HC:=zB (hC.zRJ iA);have jB:IntKind.i64.wrap (m+1)=m+1:=by first | exact wrap_small (by omega) (by omega) | exact wrap_small _ (by omega) (by omega)
 have tA:(w.alloc (.cells #[.int .i64 x.1,.int .i64 x.2] 61)).heap.size=w.heap.size+1:=World.size_alloc _ _;have cA:=zB (show ∀w',Below (w.alloc (.cells #[.int .i64 x.1,.int .i64 x.2] 61)).heap.size (w.alloc (.cells #[.int .i64 x.1,.int .i64 x.2] 61)) w'->Calls Tryz.prog 153 #[.agg #[.slice a0 p.n c0,.slice a1 p.hn c1],.agg #[.int .i64 x.1,.int .i64 x.2]] w' fun e mA=>∃b0 d0 b1 d1,e = .returned (.agg #[.slice b0 q.n d0,.slice b1 q.hn d1,.int .i64 0,.int .i64 0,.int .i64 0])/\zt mA w'.heap.size mA.heap.size (.slice b0 q.n d0) (.slice b1 q.hn d1) q/\Below w'.heap.size w' mA from fun w' vA=>by
  refine(zGn _ _ lo hi p x.1 x.2 w' ((hP.zRJ iA).zRJ vA) hn).mono ?_;rw[hh];rintro e w2 ⟨y0,y1,rfl,ho,aB⟩;obtain⟨b0,d0,b1,d1,rfl,rfl⟩:=ho.at.form;exact⟨b0,d0,b1,d1,rfl,ho,aB⟩)
 clear hP hh hC hn;go_enter Tryz.func96,Tryz.ntmps96;go_wp2_with fail;generalize w.alloc (.cells #[.int .i64 x.1,.int .i64 x.2] 61)=w1 at iA HX HC tA cA ⊢;have gA:Below w1.heap.size w1 w1.drew:=(Below.refl _ _).drew;have kA:=zB (show ∀w',Below w1.drew.heap.size w1.drew w'->(fun w':World=>w'.cell? ⟨w.heap.size,0,none⟩=some (.int .i64 x.1)/\w'.cell? ⟨w.heap.size,1,none⟩=some (.int .i64 x.2)) w' from fun w' hb=>by
  have h:=(HX.out.zRJ gA).zRJ hb;exact⟨h.1.1,h.2.1⟩)
 obtain⟨⟨x0,-⟩,⟨x1,-⟩,-⟩:=HC.out.zRJ gA;refine wp_region_held_drew (S:=(fun w':World=>w'.cell? ⟨w.heap.size,0,none⟩=some (.int .i64 x.1)/\w'.cell? ⟨w.heap.size,1,none⟩=some (.int .i64 x.2))) (by kernel_rfl) (kA.out _ (Below.refl _ _)) (fun hHeld=>?_);have eA:=gA;generalize w1.drew=q0 at hHeld kA x0 x1 gA eA ⊢;refine tk 0 (h:=tk 1 (h:=tk 2 (h:=tk 3 (h:=tk 4 (h:=tk 6 (h:=?_))))));refine rd [5] (rc (fun K hK=>?_) .nil);go_simp
 (try go_wp2_with fail)
 refine hK.out _ _ (kA.out _ (Below.refl _ _)) ?_;clear hK K;intro hHeld
 try simp only[Act.put,s1,s2,s3]
 refine rd [7] (rc (fun K hK=>?_) .nil);go_simp;go_at_call 153;refine(cA.out q0 eA).mono ?_;rintro e w3 ⟨b0,d0,b1,d1,rfl,rA,pA⟩;have oA:=zB rA;have dA:Below w1.heap.size w1 w3:=zA eA pA;have aA:=zB (HC.out.zRJ dA);have fA:=zB (HX.out.zRJ dA);clear rA
 (try go_wp2_with fail)
 refine hK.out _ _ ⟨fA.out.1.1,fA.out.2.1⟩ ?_;clear hK K hHeld;intro hHeld
 try simp only[Act.put,s1,s2,s3]
 have bB:=zOK (.slice b0 q.n d0) (.slice b1 q.hn d1) 0 0 0;refine tk 8 (h:=tk 9 (h:=tk 10 (h:=tk 11 (h:=?_))));refine rd [12] (rc (fun K hK=>?_) .nil);obtain⟨⟨t0,dB⟩,⟨t1,cB⟩,-⟩:=aA.out;go_simp
 (try go_wp2_with fail)
 have hT:=(zF.put w3 C 0 (.slice b0 q.n d0)).trans (zF.put (w3.setCell ⟨C,0,none⟩ (.slice b0 q.n d0)) C 1 (.slice b1 q.hn d1));have jA:=fA.out.zRR hT (fun h=>by omega);refine hK.out _ _ ⟨jA.1.1,jA.2.1⟩ ?_;clear hK K hHeld t0 dB t1 cB;intro hHeld
 try simp only[Act.put,s1,s2,s3]
 refine wpAnyH_done (by kernel_rfl) ?_ _;have bA:=zB (show yn ((w3.setCell ⟨C,0,none⟩ (.slice b0 q.n d0)).setCell ⟨C,1,none⟩ (.slice b1 q.hn d1)) C (.slice b0 q.n d0) (.slice b1 q.hn d1) (.int .i64 tm) (.int .i64 nx) z2 z3 (.int .i64 id) (.int .i64 m) u8 from⟨(aA.out.1.set _).zRK _ (Or.inr (by decide)),(aA.out.2.1.zRK _ (Or.inr (by decide))).set _,(aA.out.2.2.1.zRK _ (Or.inr (by decide))).zRK _ (Or.inr (by decide)),(aA.out.2.2.2.1.zRK _ (Or.inr (by decide))).zRK _ (Or.inr (by decide)),(aA.out.2.2.2.2.1.zRK _ (Or.inr (by decide))).zRK _ (Or.inr (by decide)),(aA.out.2.2.2.2.2.1.zRK _ (Or.inr (by decide))).zRK _ (Or.inr (by decide)),(aA.out.2.2.2.2.2.2.1.zRK _ (Or.inr (by decide))).zRK _ (Or.inr (by decide)),(aA.out.2.2.2.2.2.2.2.1.zRK _ (Or.inr (by decide))).zRK _ (Or.inr (by decide)),(aA.out.2.2.2.2.2.2.2.2.zRK _ (Or.inr (by decide))).zRK _ (Or.inr (by decide))⟩);have eB:Below w.heap.size w w3:=zA iA dA;have nA:=zB (show zF (fun j=>j=C) w ((w3.setCell ⟨C,0,none⟩ (.slice b0 q.n d0)).setCell ⟨C,1,none⟩ (.slice b1 q.hn d1))from(zF.zRM eB).trans hT);have gB:=pA.size;have lB:=eA.size;have sA:=zB ((oA.out.zRR hT (fun k e=>by omega)).zRO (show w.heap.size<=q0.heap.size by omega) hT.size);clear jA hT bB aA fA oA;generalize ((w3.setCell ⟨C,0,none⟩ (.slice b0 q.n d0)).setCell ⟨C,1,none⟩ (.slice b1 q.hn d1))=w4 at bA nA sA ⊢;obtain⟨y7,fB⟩:=bA.out.2.2.2.2.2.2.2.1;go_wp2_with fail;have lA:=zF.put w4 C 7 (.int .i64 (m+1));go_end0;refine⟨⟨_,rfl⟩,_,_,⟨bA.out.1.zRK _ (Or.inr (by decide)),bA.out.2.1.zRK _ (Or.inr (by decide)),bA.out.2.2.1.zRK _ (Or.inr (by decide)),bA.out.2.2.2.1.zRK _ (Or.inr (by decide)),bA.out.2.2.2.2.1.zRK _ (Or.inr (by decide)),bA.out.2.2.2.2.2.1.zRK _ (Or.inr (by decide)),bA.out.2.2.2.2.2.2.1.zRK _ (Or.inr (by decide)),bA.out.2.2.2.2.2.2.2.1.set _,bA.out.2.2.2.2.2.2.2.2.zRK _ (Or.inr (by decide))⟩,?_,nA.out.trans lA⟩;exact(sA.out.zRR lA (fun k e=>by omega)).zRO (Nat.le_refl _) lA.size
theorem zNx(C lo hi n:Nat)(P:Nat->Prop)(z0 z1 z2 z3 u8 v:Value)(tm nx id m t:Int)(p:zJ)(f g:Nat->Int)(w:World)(hv:zR w lo hi v n f g)(jA:qx n f g)(ht:zB4 t)(hH:yY p (qd f g t n))(hC:yn w C z0 z1 (.int .i64 tm) (.int .i64 nx) z2 z3 (.int .i64 id) (.int .i64 m) u8)(hP:qZ w P z0 z1 p)(jB:∀k,P k->C<k/\k<w.heap.size)(hm:0<=m)(sB:m<=900000) :
  Calls Tryz.prog 94 #[v,.int .i64 t,.func (.func 96) #[.pointer (some ⟨C,0,none⟩)] #[]] w fun e w'=>∃vo y0 y1,e = .returned vo/\zw w' w.heap.size vo (zBm f g t n)/\yn w' C y0 y1 (.int .i64 tm) (.int .i64 nx) z2 z3 (.int .i64 id) (.int .i64 (m+((qd f g t n).length:Int))) u8/\qZ w' (fun j=>P j\/(w.heap.size<=j/\j<w'.heap.size)) y0 y1 (zx p (qd f g t n))/\zF (fun j=>j=C) w w':=by
 have tB:=hC.1.lt;have kA:(qd f g t n).length<=200:=by have:=zCL f g t n;have:=jA.1;omega
 have HS:=zB (show Calls Tryz.prog 151 #[v,.int .i64 t] w fun e w'=>∃vy vo,e = .returned (.agg #[vy,vo])/\zDB (qd f g t n) (zBm f g t n) w w' vy vo by
  refine(zA1 v n lo hi f g t w hv).mono ?_;rintro e w1 ⟨vy,vo,l,l',rfl,hy,ho,hr⟩;rw[hy.1 ⟨jA,ht⟩,ho.1 ⟨jA,ht⟩]at hr;exact⟨vy,vo,rfl,hr⟩)
 have HC:=zB hC;have HP:=zB hP;have HH:=zB hH;obtain⟨-,av,cv,rfl,-,-⟩:=(show zR w lo hi v n f g from hv);clear hv jA ht hC hP hH;generalize qd f g t n=l at HS HH kA ⊢;generalize zBm f g t n=l' at HS ⊢;go_enter Tryz.func94,Tryz.ntmps94;go_wp2_with fail;refine HS.out.mono ?_;clear HS;rintro e w1 ⟨vy,vo,rfl,lA,oA,-,eB⟩;obtain⟨ay,cy,rfl,-⟩:=zW lA;obtain⟨ao,co,rfl,-⟩:=zW oA;obtain⟨bo,bA,tA⟩:=lA.own (by unfold maxLen;omega);have iA:=zC w1 (.cells #[.slice ay l.length cy,.slice ao l'.length co] 201);have HX:=zB (zc.zRL w1 (.slice ay l.length cy) (.slice ao l'.length co) 201);have gA:=zA eB iA;have rA:=zB (HC.out.zRJ gA);have gB:=zB (HP.out.zRJ gA);have nA:=zB (zw.zRJ oA iA);have fB:=zB (bA.zRJ iA);have mB:=zB tA;have oB:=eB.size;have kB:(w1.alloc (.cells #[.slice ay l.length cy,.slice ao l'.length co] 201)).heap.size=w1.heap.size+1:=World.size_alloc _ _;obtain⟨⟨x0,-⟩,⟨x1,-⟩⟩:=HX.out;clear lA oA bA tA HC HP;go_wp2_with fail;clear x0 x1;generalize w1.alloc (.cells #[.slice ay l.length cy,.slice ao l'.length co] 201)=w2 at iA HX gA rA gB nA fB kB ⊢
 go_loopw [16] (fun i wr=>∃(k:Nat) (y0 y1:Value),k<=l.length/\i = .int .i64 k/\yn wr C y0 y1 (.int .i64 tm) (.int .i64 nx) z2 z3 (.int .i64 id) (.int .i64 (m+(k:Int))) u8/\qZ wr (fun j=>P j\/(w.heap.size<=j/\j<wr.heap.size)) y0 y1 (zx p (l.take k))/\zF (fun j=>j=C) w2 wr) (fun i _=>l.length - (intOf i).toNat)
 case atStart=>exact⟨0,_,_,Nat.zero_le _,rfl,by simpa using rA.out,gB.out.mono (fun j h=>Or.inl h),zF.refl _ _⟩
 case round=>
  obtain⟨k,y0,y1,hk,rfl,vA,sA,fA⟩:=hrel;have cB:=zB vA;have mA:=zB sA;have dA:=zB fA;have vB:=fA.size;have hX:=HX.out.zRR fA (fun h=>by omega);obtain⟨⟨x0,-⟩,⟨x1,-⟩⟩:=hX;clear vA sA fA;by_cases eA:k<l.length
  ·have nB:(k:Int)<(l.length:Int):=(by omega);have bA:=fB.out.zRR dA.out (fun h0 e=>by
    obtain⟨_,h,_⟩:=mB.out h0;omega)
   obtain⟨_,a,c,e1,_,hx⟩:=bA;obtain⟨off,rfl,cA⟩:=hx (by omega);simp only[Value.slice.injEq,true_and]at e1;obtain⟨rfl,rfl⟩:=e1;obtain⟨⟨q0,-⟩,⟨q1,-⟩⟩:=cA k eA;have hn:=HH.out.next eA;have e0:l[k]=(zf l k,zh l k):=by
    unfold zf zh;rw[List.getD_eq_getElem?_getD,List.getElem?_eq_getElem eA];rfl
   rw[e0]at hn;have HN:=zB hn;clear hn e0 cA hx;have aA:=zC wr (.cells #[.int .i64 (zf l k),.int .i64 (zh l k)] 61);obtain⟨⟨r0,-⟩,⟨r1,-⟩⟩:=zc.zRL wr (.int .i64 (zf l k)) (.int .i64 (zh l k)) 61;go_wp2_with fail;have pB:=aA.size;refine(zMP C 0 wr.heap.size y0 y1 z2 z3 u8 tm nx id (m+(k:Int)) (zx p (l.take k)) (zx p (l.take (k+1))) (zf l k,zh l k) _ (cB.out.zRJ aA) (((mA.out.at (lo:=0) (hi:=wr.heap.size) (fun j h=>⟨Nat.zero_le _,by
    rcases h with h | h
    ·have:=jB j h;omega
    ·omega⟩))).zRJ aA) (by have:=zEF HN.out.2;omega) HN.out.1 (by omega) (by omega)).mono ?_
   rintro e w4 ⟨⟨ve,rfl⟩,t0,t1,dB,bB,aB⟩;have lB:=zB dB;have iB:=zB bB;have pA:=zB aB;clear r0 r1 q0 q1 x0 x1 dB bB aB;go_wp2_with fail;go_roundw
   case rel=>
    have rB:=pA.out.size;refine⟨k+1,t0,t1,by omega,by go_num,?_,iB.out.isIn (fun j h1 h2=>Or.inr ⟨by omega,h2⟩),dA.out.trans ((zF.zRM aA).trans pA.out)⟩;have e:m+((k+1:Nat):Int)=m+(k:Int)+1:=(by omega);rw[e];exact lB.out
   case measure=>simp[intOf];omega
  ·obtain rfl:k=l.length:=(by omega);go_wp2_with fail;rw[List.take_length]at mA;go_ret;refine⟨_,y0,y1,rfl,?_,cB.out,mA.out,((zF.zRM gA).trans dA.out)⟩;exact nA.out.zRR (row:=some C) ⟨dA.out.os,dA.out.tape,dA.out.output,dA.out.size,fun k hk hn=>dA.out.block k hk (fun e=>hn (by rw[e]))⟩ (fun q hq e=>by
    injection e with e;have:=zw.lt nA.out hq;omega)
open Go.Extern.Stop Go.Stop Go.Extern
theorem zG1(p:Nat->Addr)(c:Int)(n:Nat)(v:Value)(hn:(n=7/\c=0/\v = .nilIface)\/(n<7/\c=zBU n/\v=qN (p n)))(w:World)(h:zEp w p):Calls Tryz.prog 93 #[.int .i64 c] w fun e w'=>e = .returned v/\Below w.heap.size w w':=by
 have HE:=zd h;have HN:=zd hn;have gA:n<=7:=by omega
 have fA:=zd (show ∀k,k<n->zBU k≠c from fun k hk=>by
  rcases hn with⟨_,rfl,_⟩ | ⟨h7,rfl,_⟩
  ·exact zPh k
  ·exact zQO (by omega) h7 (by omega))
 clear h hn;have ha:=zC w (.cells (zNs p) 199);have HR:=zd (zFn.zRL p w);go_enter Tryz.func93,Tryz.ntmps93;go_wp2_with fail;refine(zFp p _ HE.out).mono ?_;rintro e wa ⟨rfl,rfl⟩;go_wp2
 go_loopw [7] (fun i' wr=>∃k:Nat,k<=n/\i' = .int .i64 k/\zFn wr w.heap.size p/\Below w.heap.size w wr) (fun i _=>7 - (intOf i).toNat)
 case atStart=>exact⟨0,Nat.zero_le _,rfl,HR.out,ha⟩
 case round=>
  obtain⟨k,hk,rfl,hR,hb⟩:=hrel;by_cases dA:k<7
  ·have eA:(k:Int)<7:=(by omega);obtain⟨q0,q1⟩:=hR k dA;have cA:=zd hR;clear hR;have hn:=zC wr (.cells #[qN (p k),.int .i64 (zBU k)] 199);have aA:=zA hb hn;have bA:=zd (cA.out.zRJ hn);have z0:(wr.alloc (.cells #[qN (p k),.int .i64 (zBU k)] 199)).cell? ⟨wr.heap.size,0,none⟩=some (qN (p k)):=(zI (heap_alloc_new _ _) rfl).1;have z1:(wr.alloc (.cells #[qN (p k),.int .i64 (zBU k)] 199)).cell? ⟨wr.heap.size,1,none⟩=some (.int .i64 (zBU k)):=(zI (heap_alloc_new _ _) rfl).1;by_cases he:k=n
   ·subst he;obtain⟨hc,hv⟩:=(HN.out.resolve_left (fun h=>by omega)).2;subst hc hv;go_wp2;go_ret;exact⟨rfl,aA⟩
   ·have iA:(zBU k == c)=false:=(by simpa using fA.out k (by omega));go_wp2;go_roundw
    case rel=>exact⟨k+1,by omega,by go_num,bA.out,aA⟩
    case measure=>simp[intOf];omega
  ·obtain rfl:k=7:=(by omega);obtain rfl:n=7:=(by omega);have hv:=(HN.out.resolve_right (fun h=>by omega)).2.2;subst hv;go_wp2;go_ret;exact⟨rfl,hb⟩
theorem zKO(g:Nat)(lb:Array Value)(eg:Enters Tryz.prog g)(P:Nat->Prop)(v:Value)(n lo hi:Nat)(f:Nat->qC)(w:World)(h:yW w lo hi v n f)(hn:n<=1000)
  (hP:∀i,i<n->∀a c w',Below w.heap.size w w'->zR w' lo hi (.slice a (f i).dn c) (f i).dn (f i).ds (f i).db->Calls Tryz.prog g (#[.agg #[.string (f i).name,.int .i64 (f i).origin,.int .i64 (f i).zRT,.int .i64 (f i).rs,.int .i64 (f i).rb,.slice a (f i).dn c]] ++ lb) w' fun e fA=>zG (P i) e/\Below w'.heap.size w' fA) :
  Calls Tryz.prog 103 #[v,.func (.func g) #[] lb] w fun e w'=>((∃i:Nat,i<n/\P i/\(∀j,j<i->¬P j)/\e = .returned (.int .i64 (i:Int)))\/((∀j,j<n->¬P j)/\e = .returned (.int .i64 (-1))))/\Below w.heap.size w w':=by
 have Hp:=zB h;obtain⟨-,a,c,rfl,-,-⟩:=h;have HP:=zB hP;clear hP;have e0:∀(args:Array Value) (w:World),(callFunc g args).run Tryz.prog w = .ok (.enter g args) w:=eg;clear eg;go_enter Tryz.func103,Tryz.ntmps103;go_wp2
 go_loopw [8] (fun i wr=>∃k:Nat,k<=n/\i = .int .i64 k/\(∀j,j<k->¬P j)/\Below w.heap.size w wr) (fun i _=>n - (intOf i).toNat)
 case atStart=>exact⟨0,Nat.zero_le _,rfl,fun j hj=>absurd hj (Nat.not_lt_zero _),Below.refl _ _⟩
 case round=>
  obtain⟨k,hk,rfl,bA,hb⟩:=hrel;have aA:=zB bA;clear bA;by_cases cA:k<n
  ·have gA:(k:Int)<(n:Int):=(by omega);obtain⟨b,off,vd,rfl,hs⟩:=(Hp.out.zRJ hb).cells cA;obtain⟨-,ad,cd,rfl,-,-⟩:=id hs.zRX;have Hs:=zB hs.zRX;obtain⟨q0,q1,q2,q3,q4,q5,-,-⟩:=hs;go_wp2_with fail;clear q0 q1 q2 q3 q4 q5;refine(HP.out k cA ad cd wr hb Hs.out).mono ?_;rintro e w1 ⟨⟨t,rfl,ht⟩,dA⟩;have eA:=zA hb dA;clear dA Hs;by_cases hf:P k
   ·obtain rfl:t=true:=ht.2 hf;have HF:=zB hf;clear ht hf;go_wp2;go_ret;exact⟨Or.inl ⟨k,cA,HF.out,aA.out,rfl⟩,eA⟩
   ·obtain rfl:t=false:=zQ ht hf;have HF:=zB hf;clear ht hf;go_wp2;go_roundw
    case rel=>
     refine⟨k+1,by omega,by go_num,fun j hj=>?_,eA⟩;by_cases e:j=k
     ·subst e;exact HF.out
     ·exact aA.out j (by omega)
    case measure=>simp[intOf];omega
  ·obtain rfl:k=n:=(by omega);go_wp2;go_ret;exact⟨Or.inr ⟨aA.out,rfl⟩,hb⟩
theorem zMj(s:qC)(a:Option Addr)(c B:Nat)(name:ByteArray)(w:World)(h0:w.cell? ⟨B,0,none⟩=some (.string name)) :
  Calls Tryz.prog 104 #[.agg #[.string s.name,.int .i64 s.origin,.int .i64 s.zRT,.int .i64 s.rs,.int .i64 s.rb,.slice a s.dn c],.pointer (some ⟨B,0,none⟩)] w fun e w'=>zG (s.name=name) e/\Below w.heap.size w w':=by
 have ha:=zC w (.cells #[.string s.name,.int .i64 s.origin,.int .i64 s.zRT,.int .i64 s.rs,.int .i64 s.rb,.slice a s.dn c] 67);have k0:=(ha.cell (zD h0)).trans h0;clear h0;obtain⟨⟨x0,-⟩,⟨x1,-⟩,⟨x2,-⟩,⟨x3,-⟩,⟨x4,-⟩,⟨x5,-⟩⟩:=zi.zRL w (.string s.name) (.int .i64 s.origin) (.int .i64 s.zRT) (.int .i64 s.rs) (.int .i64 s.rb) (.slice a s.dn c) 67;by_cases e1:s.name=name
 ·skip;have a1:=zCa e1;have H:=zB e1;clear e1;go_enter Tryz.func104,Tryz.ntmps104;go_wp2;go_ret;exact⟨zG.yes H.out,ha⟩
 ·skip;have a1:=zD1 e1;have H:=zB e1;clear e1;go_enter Tryz.func104,Tryz.ntmps104;go_wp2;go_ret;exact⟨zG.no H.out,ha⟩
theorem zPW{n k:Nat}{f:Nat->qC}{name:ByteArray}{e:Ending}(hn:(f k).name=name)(hf:∀j,j<k->(f j).name≠name)(hk:k<n)
  (hr:(∃i:Nat,i<n/\(f i).name=name/\(∀j,j<i->¬(f j).name=name)/\e = .returned (.int .i64 (i:Int)))\/((∀j,j<n->¬(f j).name=name)/\e = .returned (.int .i64 (-1)))):e = .returned (.int .i64 (k:Int)):=by
 rcases hr with⟨i,hi,h1,h2,rfl⟩ | ⟨h1,_⟩
 ·obtain rfl:i=k:=by
   rcases Nat.lt_trichotomy i k with h | h | h
   ·exact absurd h1 (hf i h)
   ·exact h
   ·exact absurd hn (h2 k h)
  rfl
 ·exact absurd hn (h1 k hk)
theorem zJI(C lo hi n k c2:Nat)(a2:Option Addr)(f:Nat->qC)(name:ByteArray)(w:World)(hc:w.cell? ⟨C,4,none⟩=some (.slice a2 n c2))(hS:yW w lo hi (.slice a2 n c2) n f)(hn:n<=8)(hk:k<n)(bA:(f k).name=name)(aA:∀j,j<k->(f j).name≠name) :
  Calls Tryz.prog 37 #[.pointer (some ⟨C,0,none⟩),.string name] w fun e w'=>(∃b off,a2=some ⟨b,off,none⟩/\e = .returned (.pointer (some ⟨b,off+k*6,none⟩)))/\Below w.heap.size w w':=by
 have Hp:=zB hS;have Hn:=zB bA;have Hf:=zB aA;obtain⟨b,off,vd,rfl,-⟩:=hS.cells hk;clear hS bA aA;have ha:=zC w (.cells #[.string name] 9);have c0:(w.alloc (.cells #[.string name] 9)).cell? ⟨w.heap.size,0,none⟩=some (.string name):=World.cell?_alloc_at _ _ _ _ rfl;have dA:=(ha.cell (zD hc)).trans hc;have C0:=zB c0;have jA:(k:Int)<(n:Int):=by omega
 clear c0 hc;go_enter Tryz.func37,Tryz.ntmps37;go_wp2_with fail;generalize w.alloc (.cells #[.string name] 9)=W1 at ha dA C0 ⊢;have IX:=zB (show ∀w',Below W1.heap.size W1 w'->Calls Tryz.prog 103 #[.slice (some ⟨b,off,none⟩) n c2,.func (.func 104) #[] #[.pointer (some ⟨w.heap.size,0,none⟩)]] w' fun e fA=>e = .returned (.int .i64 (k:Int))/\Below w'.heap.size w' fA from fun w' gA=>by
  refine(zKO 104 #[.pointer (some ⟨w.heap.size,0,none⟩)] (enters_of Tryz.func104 (by kernel_rfl) rfl) (fun i=>(f i).name=name) _ n lo hi f w' ((Hp.out.zRJ ha).zRJ gA) (by omega) (fun i hi' a c fA iA hp=>zMj (f i) a c _ name fA (((zA gA iA).cell (zD C0.out)).trans C0.out))).mono ?_;rintro e w2 ⟨hr,eA⟩;exact⟨zPW Hn.out Hf.out hk hr,eA⟩)
 go_region_held3 (fun w'=>w'.cell? ⟨C,4,none⟩=some (.slice (some ⟨b,off,none⟩) n c2)) (go_keep)
  (first | (go_at_call 103;refine(IX.out _ (Below.refl _ _).drew).mono ?_;rintro e w2 ⟨rfl,eA⟩;have cA:=zK eA;have kA:=(cA.cell (zD dA)).trans dA))
 go_wp2;go_ret;exact⟨⟨b,off,rfl,rfl⟩,zA ha cA⟩
theorem yv{P:Program}{w w1:World}{bA:Array Oper}{o:Oper}{a:Act}{K:Act->World->Prop}{Q:Exit->Act->World->Prop}{E:Prop}(cA:o.guard=none)(s x:Operand)(t:TypeId)
  (ho:o.op = .call {callee:=.builtin .append,args:=#[s,x],argTypes:=#[t,t]}) (vs vx v':Value) (hs:a.eval s=vs) (hx:a.eval x=vx) (aA:(Builtin.append_ #[t,t] o.type #[vs,vx]).run P w = .ok v' w1)
  (h:K (a.put o.dst v') w1):if Region.wanted o (yielded bA a.tmps)=true then Oper.wp P o a w K Q else E:=by
 have hw:Region.wanted o (yielded bA a.tmps)=true:=by simp[Region.wanted,cA]
 rw[if_pos hw];unfold Oper.wp;simp[execOp,ho,resolve,invoke,builtin,hs,hx,aA,Result.andThen];exact h
theorem yN.nth{w:World}{bs n:Nat}{kb:Nat->Nat}{kv:Nat->Value}{v:Value}{f:Nat->qC}(h:yN w bs kb kv v n f){k:Nat}(hk:k<n):∃off c,v = .slice (some ⟨bs,off,none⟩) n c/\zAE w bs (off+k*6) (kb k) (kv k) (f k):=by
 obtain⟨_,a,c,hv,_,hx⟩:=h;obtain⟨off,ha,h⟩:=hx (by omega);exact⟨off,c,by rw[hv,ha],h k hk⟩
theorem zME(v:Value)(s:zm)(w:World):(Instr.field 99 (.agg #[.int .i64 s.id,.string s.name,.string s.set,.int .i64 s.zRT,.int .i64 s.time,.int .i64 s.rs,.int .i64 s.rb,v]) 4).run Tryz.prog w = .ok (.int .i64 s.time) w:=by kernel_rfl
theorem zL6(C lo hi:Nat)(z0 z1 z2 z3 u6 u7 u8:Value)(W:zH)(x:Int)(w:World)(h:zl w lo hi z0 z1 z2 z3 W)(hC:yn w C z0 z1 (.int .i64 W.time) (.int .i64 W.next) z2 z3 u6 u7 u8)(hn:W.pn<=20)(cA:zNd W.pn W.zRP)(hD:zCK W)(hx:(Lit.int .i64 x).wf=true) :
  Calls Tryz.prog 95 #[.pointer (some ⟨C,0,none⟩),.int .i64 x] w fun e w'=>∃a c,e = .returned (yf (.slice a (zN W x).dn c) (zN W x))/\Below w.heap.size w w':=by
 have Hp:=zB h;obtain⟨l0,lA,l1,iA,l2,jA,l3,kA,rfl,rfl,rfl,rfl⟩:=h.form;have HD:=zB hD;have fA:=zB cA;have Hx:=zB hx;have ha:=zC w (.cells #[.int .i64 0,.string ⟨#[]⟩,.string ⟨#[]⟩,.int .i64 0,.int .i64 0,.int .i64 0,.int .i64 0,.slice none 0 0] 99);obtain⟨⟨x0,-⟩,⟨x1,-⟩,⟨x2,-⟩,⟨x3,-⟩,⟨x4,-⟩,⟨x5,-⟩,-⟩:=hC.zRJ ha;have HR:=zB (zCH.zRL w (.int .i64 0) (.string ⟨#[]⟩) (.string ⟨#[]⟩) (.int .i64 0) (.int .i64 0) (.int .i64 0) (.int .i64 0) (.slice none 0 0) 99);clear h hD cA hx hC;obtain⟨S,hS⟩:∃S,S=zN W x:=⟨_,rfl⟩;rw[<-hS];unfold yf;have HS:=zB hS;clear hS;go_enter Tryz.func95,Tryz.ntmps95;go_wp2_with fail;clear x0 x1 x2 x3 x4 x5;generalize w.alloc (.cells #[.int .i64 0,.string ⟨#[]⟩,.string ⟨#[]⟩,.int .i64 0,.int .i64 0,.int .i64 0,.int .i64 0,.slice none 0 0] 99)=W1 at ha HR ⊢;refine(zGx _ _ _ _ lo hi W W1 (Hp.out.zRJ ha) hn fA.out).mono ?_;rintro e w2 ⟨A,rfl,hA,bA⟩;have HA:=zB hA;clear hA;go_wp2_with fail;refine(zBo lo hi W A x w2 HA.out HD.out Hx.out hn).mono ?_;rw[<-HS.out];unfold yf;rintro e w3 ⟨a,c,rfl,gA,eA⟩;have hb:=zA (zA ha bA) eA;have dA:=zB ((HR.out.zRJ bA).zRJ eA);clear gA;obtain⟨⟨⟨r0,g0⟩,⟨r1,g1⟩,⟨r2,g2⟩,⟨r3,g3⟩⟩,⟨r4,g4⟩,⟨r5,g5⟩,⟨r6,g6⟩,⟨r7,g7⟩⟩:=dA.out;go_wp2_with fail;have aA:=dA.out.put (.int .i64 S.id) (.string S.name) (.string S.set) (.int .i64 S.zRT) (.int .i64 S.time) (.int .i64 S.rs) (.int .i64 S.rb) (.slice a S.dn c);have hT:=zF.put8 w3 w.heap.size (.int .i64 S.id) (.string S.name) (.string S.set) (.int .i64 S.zRT) (.int .i64 S.time) (.int .i64 S.rs) (.int .i64 S.rb) (.slice a S.dn c);clear r0 g0 r1 g1 r2 g2 r3 g3 r4 g4 r5 g5 r6 g6 r7 g7;refine bodyPost_ret (v:=.agg #[.int .i64 S.id,.string S.name,.string S.set,.int .i64 S.zRT,.int .i64 S.time,.int .i64 S.rs,.int .i64 S.rb,.slice a S.dn c]) (by simp[results,Tryz.results95,go_sem,aA.1.1.1,aA.1.2.1.1,aA.1.2.2.1.1,aA.1.2.2.2.1,aA.2.1.1,aA.2.2.1.1,aA.2.2.2.1.1,aA.2.2.2.2.1]) rfl ⟨a,c,rfl,?_⟩
 ·exact hb.trans (hT.zRJ (B:=w.heap.size) hb.size (fun k e=>by omega))
theorem zMS{W:zH}(h:zBM W)(x:Int):zB4 (zN W x).time:=by
 by_cases hx:∃k,qz W x k
 ·obtain⟨k,hk⟩:=hx;rw[yB hk];have h1:=(h.2.2.2.2.2 k hk.1).1;have h2:=h.1;unfold zBq at h2;exact⟨by have:=h1.2.2.1;omega,by have:=h1.2.2.2.1;omega⟩
 ·have e:zN W x=yO:=(by unfold zN;rw[dif_neg hx]);rw[e];exact⟨by decide,by decide⟩
theorem zP6(p:Nat->Addr)(C k hw nB dC:Nat)(z0 z1 z2 z3 jE oF vo:Value)(W:zH)(y:zCB)(name:ByteArray)(w:World)(hE:zEp w p)(hI:zAu W)(hy:zG2 y)(ht:zB4 (zN W (W.zRS k).zRT).time)(hx:(Lit.int .i64 (W.zRS k).zRT).wf=true)(hk:zFe W name k)(hD:(W.zRS k).dn<=1048576)(tH:C<hw)(cI:hw<=w.heap.size)
  (ho:qR w (C+1) hw z0 z1 z2 z3 W) (hC:yn w C z0 z1 (.int .i64 W.time) (.int .i64 W.next) z2 z3 (.int .i64 0) (.int .i64 0) .nilIface) (mD:zt w nB dC jE oF y.zRQ) (jI:hw<=nB) (pH:dC<=w.heap.size) (vD:zR w hw w.heap.size vo y.old.length (zf y.old) (zh y.old)) :
  Calls Tryz.prog 35 #[.pointer (some ⟨C,0,none⟩),.string name,.agg #[jE,oF,.int .i64 y.rs,.int .i64 y.rb,vo,.int .i64 y.code]] w (zLH p (zBA W k y) C w):=by
 have h8:=hI.zRa.zRS.1;have bH:=hI.zRa.zRP.1;have jA:=hk.1;have aI:=hy.2.1;have HE:=zB hE;have HC:=zB hC;have HI:=zB hI;have HY:=zB hy;have Ht:=zB ht;have Hx:=zB hx;have Hk:=zB hk;obtain⟨gA,fA,iA,kA,rfl,rfl⟩:=mD.at.form;obtain⟨-,oo,oc,rfl,-,-⟩:=id vD;obtain⟨P,Q,R,lA,tA⟩:=ho;obtain⟨jB,kb,kv,hS,eF,tC,-,lE⟩:=lA.zRS;obtain⟨off,c,rfl,pE⟩:=hS.nth jA;have dE:Q jB:=tC _ (Or.inl ⟨by omega,rfl⟩);have dI:=tA jB (Or.inr (Or.inl dE));obtain⟨bs,rE⟩:∃bs,bs=jB:=⟨_,rfl⟩;obtain⟨o2,kC⟩:∃o2,o2=off+k*6:=⟨_,rfl⟩;have bC:=zB (show ∀w',yN w' jB kb kv (.slice (some ⟨jB,off,none⟩) W.sn c) W.sn W.zRS->w'.cell? ⟨C,4,none⟩=some (.slice (some ⟨jB,off,none⟩) W.sn c)->Calls Tryz.prog 37 #[.pointer (some ⟨C,0,none⟩),.string name] w' fun e gE=>e = .returned (.pointer (some ⟨bs,o2,none⟩))/\Below w'.heap.size w' gE from fun w' mG hc=>by
  refine(zJI C (C+1) hw W.sn k c _ W.zRS name w' hc (mG.at (lo:=C+1) (hi:=hw) (fun j hj=>tA j (Or.inr (Or.inl (tC j hj))))) h8 jA hk.2.1 hk.2.2).mono ?_;rintro e w2 ⟨⟨b,aH,e1,rfl⟩,oA⟩;simp only[Option.some.injEq,Addr.mk.injEq,and_true]at e1;obtain⟨rfl,rfl⟩:=e1;exact⟨by rw[rE,kC],oA⟩)
 subst rE;have dA:=zB tA;have tF:=zB hS;have mH:=zB eF;have mB:=zB tC;have lB:=zB pE;have fG:=zB dE;have vF:=zB (lE k jA);have HZ:=zB lA.zRP.isIn;have oD:=zB lA.qr;have lG:=zB kC;have gG:=zB mD;have sG:=zB vD;clear lA tA hS eF tC pE hC hI hE hy ht hx hk dE lE mD vD;rw[<-kC]at lB;clear kC;have ha:=zC w (.cells #[.slice gA y.zRQ.n fA,.slice iA y.zRQ.hn kA,.int .i64 y.rs,.int .i64 y.rb,.slice oo y.old.length oc,.int .i64 y.code] 64);have HX:=zB (zi.zRL w (.slice gA y.zRQ.n fA) (.slice iA y.zRQ.hn kA) (.int .i64 y.rs) (.int .i64 y.rb) (.slice oo y.old.length oc) (.int .i64 y.code) 64);have gF:(w.alloc (.cells #[.slice gA y.zRQ.n fA,.slice iA y.zRQ.hn kA,.int .i64 y.rs,.int .i64 y.rb,.slice oo y.old.length oc,.int .i64 y.code] 64)).heap.size=w.heap.size+1:=World.size_alloc _ _;have bI:C<w.heap.size:=by omega
 obtain⟨⟨x0,-⟩,⟨x1,-⟩,⟨x2,-⟩,⟨x3,-⟩,⟨x4,-⟩,⟨x5,-⟩⟩:=HX.out;by_cases lC:y.code=0;rotate_left
 ·obtain⟨i,fF,rF⟩:=HY.out.1.resolve_left lC;have pF:=zB rF;clear rF;go_enter Tryz.func35,Tryz.ntmps35;go_wp2_with fail;generalize w.alloc (.cells #[.slice gA y.zRQ.n fA,.slice iA y.zRQ.hn kA,.int .i64 y.rs,.int .i64 y.rb,.slice oo y.old.length oc,.int .i64 y.code] 64)=w1 at ha HX gF x0 x1 x2 x3 x4 x5 ⊢;refine(zG1 p y.code i (qN (p i)) (Or.inr ⟨fF,pF.out,rfl⟩) w1 (HE.out.zRJ ha)).mono ?_;rintro e w2 ⟨rfl,oA⟩;have gB:=zA ha oA;have eB:=zB (HC.out.zRJ gB);clear x0 x1 x2 x3 x4 x5;obtain⟨-,-,-,-,-,-,-,-,⟨x8,mF⟩⟩:=eB.out;go_wp2_with fail;go_end0;have hT:=zF.put w2 C 8 (qN (p i));have pG:=gB.size;have kH:=hT.size;have sA:=eB.out;refine⟨⟨_,rfl⟩,((zF.zRM gB).trans hT).zRJ (B:=C) (by omega) (fun j (h:j=C)=>by omega),Nat.lt_of_lt_of_le (show C<w2.heap.size by omega) kH,Or.inr ⟨i,fF,?_,_,_,_,_,_,_,_,_,⟨sA.1.zRK _ (Or.inr (by decide)),sA.2.1.zRK _ (Or.inr (by decide)),sA.2.2.1.zRK _ (Or.inr (by decide)),sA.2.2.2.1.zRK _ (Or.inr (by decide)),sA.2.2.2.2.1.zRK _ (Or.inr (by decide)),sA.2.2.2.2.2.1.zRK _ (Or.inr (by decide)),sA.2.2.2.2.2.2.1.zRK _ (Or.inr (by decide)),sA.2.2.2.2.2.2.2.1.zRK _ (Or.inr (by decide)),sA.2.2.2.2.2.2.2.2.set _⟩⟩⟩;unfold zBA;rw[if_neg lC,pF.out]
 have vC:=zB lC;obtain⟨yc,lH⟩:∃yc,yc=y.code:=⟨_,rfl⟩;go_enter Tryz.func35,Tryz.ntmps35;clear lC lH yc;go_wp2_with fail;generalize w.alloc (.cells #[.slice gA y.zRQ.n fA,.slice iA y.zRQ.hn kA,.int .i64 y.rs,.int .i64 y.rb,.slice oo y.old.length oc,.int .i64 y.code] 64)=w1 at ha HX gF x0 x1 x2 x3 x4 x5 ⊢;refine(zG1 p y.code 7 .nilIface (Or.inl ⟨rfl,vC.out,rfl⟩) w1 (HE.out.zRJ ha)).mono ?_;rintro e w2 ⟨rfl,oA⟩;have gB:=zA ha oA;have eB:=zB (HC.out.zRJ gB);have bF:=zB (HX.out.zRJ oA);have pG:=oA.size;clear x0 x1 x2 x3 x4 x5;obtain⟨-,-,-,-,-,-,-,-,⟨x8,mF⟩⟩:=eB.out;go_upto_region 3 with fail;clear x8 mF;have aD:=zF.put w2 C 8 .nilIface;have lD:=zB (show zF (fun j=>j=C) w (w2.setCell ⟨C,8,none⟩ .nilIface)from(zF.zRM gB).trans aD);have rC:=zB (show yn (w2.setCell ⟨C,8,none⟩ .nilIface) C z0 z1 (.int .i64 W.time) (.int .i64 W.next) (.slice (some ⟨bs,off,none⟩) W.sn c) z3 (.int .i64 0) (.int .i64 0) .nilIface from by
  have h:=eB.out;exact⟨h.1.zRK _ (Or.inr (by decide)),h.2.1.zRK _ (Or.inr (by decide)),h.2.2.1.zRK _ (Or.inr (by decide)),h.2.2.2.1.zRK _ (Or.inr (by decide)),h.2.2.2.2.1.zRK _ (Or.inr (by decide)),h.2.2.2.2.2.1.zRK _ (Or.inr (by decide)),h.2.2.2.2.2.2.1.zRK _ (Or.inr (by decide)),h.2.2.2.2.2.2.2.1.zRK _ (Or.inr (by decide)),h.2.2.2.2.2.2.2.2.set _⟩)
 have mC:=zB (bF.out.zRR aD (by omega));have dH:=aD.size;clear aD eB bF;generalize w2.setCell ⟨C,8,none⟩ .nilIface=w3 at lD rC mC dH ⊢;obtain⟨⟨x0,-⟩,⟨x1,-⟩,⟨x2,-⟩,⟨x3,-⟩,⟨x4,-⟩,⟨x5,-⟩⟩:=mC.out;obtain⟨⟨c0,gH⟩,⟨c1,bG⟩,-⟩:=rC.out;have n1:w.heap.size≠C:=by omega
 have n2:C≠w.heap.size:=by omega
 go_upto_region 4 with fail;clear x0 x1 x2 x3 x4 x5 c0 gH c1 bG;have oC:zF (fun j=>j=C) w3 ((w3.setCell ⟨C,0,none⟩ (.slice gA y.zRQ.n fA)).setCell ⟨C,1,none⟩ (.slice iA y.zRQ.hn kA)):=(zF.put _ C _ _).trans (zF.put _ C _ _);have fD:=zB (lD.out.trans oC);have fE:=zB (show yn ((w3.setCell ⟨C,0,none⟩ (.slice gA y.zRQ.n fA)).setCell ⟨C,1,none⟩ (.slice iA y.zRQ.hn kA)) C (.slice gA y.zRQ.n fA) (.slice iA y.zRQ.hn kA) (.int .i64 W.time) (.int .i64 W.next) (.slice (some ⟨bs,off,none⟩) W.sn c) z3 (.int .i64 0) (.int .i64 0) .nilIface from by
  have h:=rC.out;exact⟨(h.1.set _).zRK _ (Or.inr (by decide)),(h.2.1.zRK _ (Or.inr (by decide))).set _,(h.2.2.1.zRK _ (Or.inr (by decide))).zRK _ (Or.inr (by decide)),(h.2.2.2.1.zRK _ (Or.inr (by decide))).zRK _ (Or.inr (by decide)),(h.2.2.2.2.1.zRK _ (Or.inr (by decide))).zRK _ (Or.inr (by decide)),(h.2.2.2.2.2.1.zRK _ (Or.inr (by decide))).zRK _ (Or.inr (by decide)),(h.2.2.2.2.2.2.1.zRK _ (Or.inr (by decide))).zRK _ (Or.inr (by decide)),(h.2.2.2.2.2.2.2.1.zRK _ (Or.inr (by decide))).zRK _ (Or.inr (by decide)),(h.2.2.2.2.2.2.2.2.zRK _ (Or.inr (by decide))).zRK _ (Or.inr (by decide))⟩)
 have sF:=zB (mC.out.zRR oC (by omega));have eH:=oC.size;clear oC rC mC lD;generalize ((w3.setCell ⟨C,0,none⟩ (.slice gA y.zRQ.n fA)).setCell ⟨C,1,none⟩ (.slice iA y.zRQ.hn kA))=w4 at fD fE sF eH ⊢;have vA:∀j,zCA bs kb W.sn W.zRS j->¬j=C:=fun j hj e=>by have:=dA.out j (Or.inr (Or.inl (mB.out j hj)));omega
 have iF:=zB (tF.out.zRR fD.out vA);have eA:=zB vA;clear vA;obtain⟨c4,-⟩:=fE.out.2.2.2.2.1;go_wp2_with fail;refine(bC.out w4 iF.out c4).mono ?_;clear bC c4;rintro e w5 ⟨rfl,fC⟩;have iI:=fC.size;have iB:=zB (fD.out.trans (zF.zRM fC));have kE:=zB (fE.out.zRJ fC);have iE:=zB (sF.out.zRJ fC);have vE:=zB (iF.out.zRJ fC);have cB:=lB.out.zRR iB.out (by omega) (fun h0=>eA.out _ (Or.inr ⟨k,jA,h0,rfl⟩));have jD:=zB cB;have tE:=zB ((gG.out.zRR iB.out (fun j e=>by omega)).isIn (S:=fun j=>nB<=j/\j<dC) (fun j h1 h2=>⟨h1,h2⟩));have aE:=zB (sG.out.same (fun j h1 h2=>iB.out.block j h2 (by omega)));have bE:=zB (vF.out.kept (zB7 iB.out) (fun h0=>by
  rw[(show(kv k).ownBlock=some (kb k)by
   obtain⟨_,a,c,hv,_,hx⟩:=lB.out.zRX;obtain⟨off,ha,_⟩:=hx h0;rw[hv,ha];rfl)]
  intro e;injection e with e;exact eA.out _ (Or.inr ⟨k,jA,h0,rfl⟩) e))
 have sE:=zB (HZ.out.zRR iB.out (fun j hj e=>by have:=dA.out j (Or.inr (Or.inr hj));omega));have kD:bs≠C:=by omega
 have oB:zl w5 0 w5.heap.size (.slice gA y.zRQ.n fA) (.slice iA y.zRQ.hn kA) (.slice (some ⟨bs,off,none⟩) W.sn c) z3 {W with zRQ:=y.zRQ}:=⟨tE.out.at (fun j hj=>⟨Nat.zero_le _,by omega⟩),vE.out.at (fun j hj=>⟨Nat.zero_le _,by have:=dA.out j (Or.inr (Or.inl (mB.out j hj)));omega⟩),sE.out.at (fun j hj=>⟨Nat.zero_le _,by have:=dA.out j (Or.inr (Or.inr hj));omega⟩)⟩;have sC:=zB (show ∀w',Below w5.heap.size w5 w'->Calls Tryz.prog 95 #[.pointer (some ⟨C,0,none⟩),.int .i64 (W.zRS k).zRT] w' fun e gE=>(∃a c,e = .returned (yf (.slice a (zN W (W.zRS k).zRT).dn c) (zN W (W.zRS k).zRT)))/\Below w'.heap.size w' gE from fun w' nF=>by
  refine(zL6 C 0 w5.heap.size _ _ _ _ _ _ _ {W with zRQ:=y.zRQ} (W.zRS k).zRT w' (oB.zRJ nF) (kE.out.zRJ nF) bH HI.out.zRa.idsWf HI.out.zRa.dist Hx.out).mono ?_;rw[zIr];rintro e w2 ⟨a,c,rfl,oA⟩;exact⟨⟨a,c,rfl⟩,oA⟩)
 have iD:bs<w5.heap.size:=by omega
 obtain⟨x4,-⟩:=iE.out.2.2.2.2.1;obtain⟨q2,-⟩:=cB.c2;have bD:=zB (show ∀w',Below w5.heap.size w5 w'->(fun w':World=>w'.cell? ⟨w.heap.size,4,none⟩=some (.slice oo y.old.length oc)/\w'.cell? ⟨bs,o2+2,none⟩=some (.int .i64 (W.zRS k).zRT)) w' from fun w' hb=>⟨(hb.cell (p:=⟨w.heap.size,4,none⟩) (zD x4)).trans x4,(hb.cell (p:=⟨bs,o2+2,none⟩) iD).trans q2⟩);have nH:∀(fn:Fn) (first kF:Array Value) (w:World),(Instr.makeFunc fn first kF).run Tryz.prog w = .ok (.func fn first kF) w:=fun _ _ _ _=>rfl
 have nC:Below w5.heap.size w5 w5.drew:=(Below.refl _ _).drew;have cE:=zB (zPu (W:=W) (k:=k) HY.out vC.out);have aG:=zB ((HY.out.2.2 vC.out).ptrs (by omega));obtain⟨A,hA⟩:∃A,A=zN W (W.zRS k).zRT:=⟨_,rfl⟩;have HA:=zB hA;unfold zEt at cE;rw[<-hA]at sC cE Ht;unfold yf at sC;have fH:=fun (a:Option Addr) (c:Nat) (w:World)=>zME (.slice a A.dn c) A w
 clear hA oB x4 q2 cB;go_upto_region 5 with fail;refine wp_region_held_drew (S:=(fun w':World=>w'.cell? ⟨w.heap.size,4,none⟩=some (.slice oo y.old.length oc)/\w'.cell? ⟨bs,o2+2,none⟩=some (.int .i64 (W.zRS k).zRT))) (by kernel_rfl) (bD.out _ nC) (fun hHeld=>?_);generalize w5.drew=q0 at hHeld nC ⊢;refine tk 0 (h:=tk 1 (h:=tk 2 (h:=tk 3 (h:=tk 4 (h:=tk 5 (h:=tk 6 (h:=tk 9 (h:=tk 10 (h:=?_)))))))));refine rd [7] (rc (fun K hK=>?_) .nil);go_simp;go_at_call 95;refine(sC.out _ nC).mono ?_;rintro e w6 ⟨⟨a6,c6,rfl⟩,iH⟩;have aA:=zA nC iH
 (try go_wp2_with fail)
 refine hK.out _ _ (bD.out _ aA) ?_;clear hK K;intro hHeld
 try simp only[Act.put,s1,s2,s3]
 refine tk 8 (h:=?_);refine rd [11] (rc (fun K hK=>?_) .nil);go_simp;go_at_call 94;have sH:=aA.size;refine(zNx C hw w.heap.size y.old.length (fun j=>nB<=j/\j<dC) _ _ _ _ .nilIface _ W.time W.next 0 0 A.time y.zRQ (zf y.old) (zh y.old) w6 (aE.out.zRJ aA) aG.out Ht.out cE.out (kE.out.zRJ aA) (tE.out.zRJ aA) (fun k hk=>by omega) (by omega) (by omega)).mono ?_;rintro e w7 ⟨v7,y0,y1,rfl,kB,dF,mE,eC⟩;obtain⟨a7,c7,rfl,-⟩:=zW kB;have nE:(fun w':World=>w'.cell? ⟨w.heap.size,4,none⟩=some (.slice oo y.old.length oc)/\w'.cell? ⟨bs,o2+2,none⟩=some (.int .i64 (W.zRS k).zRT)) w7:=by
  have h:=bD.out _ aA;exact⟨(eC.cell (o:=4) (show w.heap.size<w6.heap.size by omega) (by omega)).trans h.1,(eC.cell (o:=o2+2) (show bs<w6.heap.size by omega) kD).trans h.2⟩
 have aF:=zB kB;have jH:=zB dF;have oG:=zB mE;have sD:zF (fun j=>j=C) w5 w7:=(zF.zRM aA).trans eC;have fI:=eC.size;have dB:=zB sD;clear dF mE kB
 (try go_wp2_with fail)
 refine hK.out _ _ nE ?_;clear hK K hHeld nE eC;intro hHeld
 try simp only[Act.put,s1,s2,s3]
 refine tk 12 (h:=?_);refine wpAnyH_done (by kernel_rfl) ?_ _;clear hHeld fH sC bD;go_upto_region 6 with fail;have bA:=jD.out.zRR dB.out kD (fun h0=>eA.out _ (Or.inr ⟨k,jA,h0,rfl⟩));have lF:=iE.out.zRR dB.out (show ¬w.heap.size=C by omega);have vB:=bE.out.kept (zB7 dB.out) (fun h0=>by
  rw[(show(kv k).ownBlock=some (kb k)by
   obtain⟨_,a,c,hv,_,hx⟩:=lB.out.zRX;obtain⟨off,ha,_⟩:=hx h0;rw[hv,ha];rfl)]
  intro e;injection e with e;exact eA.out _ (Or.inr ⟨k,jA,h0,rfl⟩) e)
 have tG:=zB (vE.out.zRR dB.out eA.out);obtain⟨L,hL⟩:∃L,L=zBm (zf y.old) (zh y.old) A.time y.old.length:=⟨_,rfl⟩;rw[<-hL]at aF;simp only[<-hL];have eI:L.length<=3:=by
  rw[hL];have:=zLd (zf y.old) (zh y.old) A.time y.old.length;omega
 have rG:=zB hL;have cA:Below w7.heap.size w7 w7.drew:=(Below.refl _ _).drew;have kB:=zw.zRJ aF.out cA;obtain⟨-,ak,ck,pC,-,-⟩:=id bA.zRX;have cD:=bA.zRX.zRJ cA;have rD:=vB.zRJ cA;rw[pC]at cD rD;obtain⟨da,dc,wb,nb,aC,gC,iC,jF⟩:=zGu (lo:=0) (hi:=w7.drew.heap.size) cD rD (by
  obtain⟨bb,ho,cG⟩:=zw.own kB (by unfold maxLen;omega);exact ho.at (fun h0=>⟨Nat.zero_le _,(cG h0).2.2⟩)) (by omega) 62
 have dD:=zB gC;have aB:=zB iC;have cF:=zB jF;have rA:∀j,(0<(W.zRS k).dn/\j=kb k)->j≠bs/\j≠C/\j≠w.heap.size:=fun j hj=>by
  have h1:=dA.out j (Or.inr (Or.inl (mB.out j (Or.inr ⟨k,jA,hj.1,hj.2⟩))));exact⟨fun e=>lB.out.zRW hj.1 (by rw[<-hj.2];exact e),by omega,by omega⟩
 have pD:bs<w7.drew.heap.size:=show bs<w7.heap.size by omega
 have cC:=lF.zRJ cA;have eG:=cC.zRR iC (fun h=>(rA _ h).2.2 rfl);have mA:=fun (r:Nat) (u:Value) (h:zX w7 bs (o2+r) u)=>(h.zRJ cA).zRR iC (fun h=>(rA _ h).1 rfl)
 have c5:=bA.c5;rw[pC]at c5;obtain⟨d5,oE⟩:=c5.zRJ cA;obtain⟨m3,vG⟩:=mA 3 _ bA.c3;obtain⟨m4,iG⟩:=mA 4 _ bA.c4;obtain⟨m5,cH⟩:=mA 5 _ c5;obtain⟨-,-,⟨x2,-⟩,⟨x3,-⟩,-⟩:=cC;obtain⟨-,-,⟨u2,-⟩,⟨u3,-⟩,-⟩:=eG;have tD:=zB bA;have nA:=zB rA;have vH:=zB pC;have n3:bs≠w.heap.size:=by omega
 have n4:w.heap.size≠bs:=by omega
 clear lF mA c5 cD rD gC iC jF bA vB kB hL rA pC;have E1:zF (fun j=>j=bs) wb ((wb.setCell ⟨bs,o2+3,none⟩ (.int .i64 y.rs)).setCell ⟨bs,o2+3+1,none⟩ (.int .i64 y.rb)):=(zF.put _ bs _ _).trans (zF.put _ bs _ _);have E2:zF (fun j=>j=bs) wb (((wb.setCell ⟨bs,o2+3,none⟩ (.int .i64 y.rs)).setCell ⟨bs,o2+3+1,none⟩ (.int .i64 y.rb)).setCell ⟨bs,o2+5,none⟩ (.slice da ((W.zRS k).dn+L.length) dc)):=E1.trans (zF.put _ bs _ _);have jC:w.heap.size<wb.heap.size:=zD u2;have nG:=zB (show(fun w':World=>w'.cell? ⟨w.heap.size,2,none⟩=some (.int .i64 y.rs)/\w'.cell? ⟨w.heap.size,3,none⟩=some (.int .i64 y.rb)) ((wb.setCell ⟨bs,o2+3,none⟩ (.int .i64 y.rs)).setCell ⟨bs,o2+3+1,none⟩ (.int .i64 y.rb))from⟨(E1.cell (o:=2) jC n4).trans u2,(E1.cell (o:=3) jC n4).trans u3⟩);have kG:=zB (show(fun w':World=>w'.cell? ⟨w.heap.size,2,none⟩=some (.int .i64 y.rs)/\w'.cell? ⟨w.heap.size,3,none⟩=some (.int .i64 y.rb)) (((wb.setCell ⟨bs,o2+3,none⟩ (.int .i64 y.rs)).setCell ⟨bs,o2+3+1,none⟩ (.int .i64 y.rb)).setCell ⟨bs,o2+5,none⟩ (.slice da ((W.zRS k).dn+L.length) dc))from⟨(E2.cell (o:=2) jC n4).trans u2,(E2.cell (o:=3) jC n4).trans u3⟩);have sB:=zB E2;have rB:=zB aC;have HU:=zB (show(fun w':World=>w'.cell? ⟨w.heap.size,2,none⟩=some (.int .i64 y.rs)/\w'.cell? ⟨w.heap.size,3,none⟩=some (.int .i64 y.rb)) wb from⟨u2,u3⟩);have gD:=zB (show(fun w':World=>w'.cell? ⟨w.heap.size,2,none⟩=some (.int .i64 y.rs)/\w'.cell? ⟨w.heap.size,3,none⟩=some (.int .i64 y.rb)) w7.drew from⟨x2,x3⟩);clear aC E1 E2 u2 u3;refine wp_region_held_drew (S:=(fun w':World=>w'.cell? ⟨w.heap.size,2,none⟩=some (.int .i64 y.rs)/\w'.cell? ⟨w.heap.size,3,none⟩=some (.int .i64 y.rb))) (by kernel_rfl) gD.out (fun hHeld=>?_);generalize w7.drew=q7 at hHeld gD rB aB cF d5 oE x2 x3 cA pD ⊢;refine tk 0 (h:=tk 1 (h:=tk 2 (h:=tk 3 (h:=tk 4 (h:=tk 5 (h:=tk 6 (h:=tk 8 (h:=?_))))))));refine rd [7] (rc (fun K hK=>?_) .nil);go_simp
 (try go_wp2_with fail)
 refine hK.out _ _ (gD.out) ?_;clear hK K;intro hHeld
 try simp only[Act.put,s1,s2,s3]
 refine rd [9] (rc (fun K hK=>?_) .nil);refine yv rfl (.tmp 47) (.tmp 48) 62 rfl _ _ _ rfl rfl rB.out ?_
 (try go_wp2_with fail)
 refine hK.out _ _ (HU.out) ?_;clear hK K;intro hHeld
 try simp only[Act.put,s1,s2,s3]
 clear d5 oE x2 x3;refine tk 10 (h:=tk 11 (h:=?_));refine rd [12] (rc (fun K hK=>?_) .nil);go_simp
 (try go_wp2_with fail)
 refine hK.out _ _ (nG.out) ?_;clear hK K;intro hHeld
 try simp only[Act.put,s1,s2,s3]
 refine tk 13 (h:=tk 14 (h:=?_));refine rd [15] (rc (fun K hK=>?_) .nil);go_simp
 (try go_wp2_with fail)
 refine hK.out _ _ (kG.out) ?_;clear hK K;intro hHeld
 try simp only[Act.put,s1,s2,s3]
 refine wpAnyH_done (by kernel_rfl) ?_ _;clear hHeld m3 vG m4 iG m5 cH;go_wp2_with fail;go_end0;have eO:zBA W k y=⟨zLx W k y,0,((zEt W k y).length:Int),0⟩:=if_pos vC.out;have eY:zEt W k y=qd (zf y.old) (zh y.old) A.time y.old.length:=by unfold zEt;rw[HA.out]
 have eD:zDm W k y=zBF (W.zRS k).dn (W.zRS k).ds (W.zRS k).db ++ L:=by unfold zDm zPn;rw[rG.out,HA.out]
 have jG:yn (((wb.setCell ⟨bs,o2+3,none⟩ (.int .i64 y.rs)).setCell ⟨bs,o2+3+1,none⟩ (.int .i64 y.rb)).setCell ⟨bs,o2+5,none⟩ (.slice da ((W.zRS k).dn+L.length) dc)) C y0 y1 (.int .i64 W.time) (.int .i64 W.next) (.slice (some ⟨bs,off,none⟩) W.sn c) z3 (.int .i64 0) (.int .i64 ((zEt W k y).length:Int)) .nilIface:=by
  have h:=jH.out;rw[Int.zero_add,<-eY]at h;exact((h.zRJ cA).zRR aB.out (fun e=>(nA.out _ e).2.1 rfl)).zRR sB.out (fun e=>kD e.symm)
 have rH:=cA.size;have oH:=aB.out.size;have gI:=sB.out.size;have tB:zF (fun j=>j=C\/j=bs\/(0<(W.zRS k).dn/\j=kb k)) w (((wb.setCell ⟨bs,o2+3,none⟩ (.int .i64 y.rs)).setCell ⟨bs,o2+3+1,none⟩ (.int .i64 y.rb)).setCell ⟨bs,o2+5,none⟩ (.slice da ((W.zRS k).dn+L.length) dc)):=((((iB.out.mono (fun j e=>Or.inl e)).trans (dB.out.mono (fun j e=>Or.inl e))).trans (zF.zRM cA)).trans (aB.out.mono (fun j e=>Or.inr (Or.inr e)))).trans (sB.out.mono (fun j e=>Or.inr (Or.inl e)));have pA:∀j,(0<(W.zRS k).dn/\j=kb k)->C+1<=j/\j<hw/\Q j:=fun j hj=>by
  have h1:=mB.out j (Or.inr ⟨k,jA,hj.1,hj.2⟩);have:=dA.out j (Or.inr (Or.inl h1));exact⟨this.1,this.2,h1⟩
 rw[eO];refine⟨⟨_,rfl⟩,tB.zRJ (B:=C) (by omega) (fun j h=>by
  rcases h with h | h | h
  ·omega
  ·omega
  ·have:=pA j h;omega),by omega,Or.inl ⟨rfl,_,_,_,_,jG,?_⟩⟩
 have bB:zF (fun j=>j=bs\/(0<(W.zRS k).dn/\j=kb k)) q7 (((wb.setCell ⟨bs,o2+3,none⟩ (.int .i64 y.rs)).setCell ⟨bs,o2+3+1,none⟩ (.int .i64 y.rb)).setCell ⟨bs,o2+5,none⟩ (.slice da ((W.zRS k).dn+L.length) dc)):=(aB.out.mono (fun j e=>Or.inr e)).trans (sB.out.mono (fun j e=>Or.inl e));have fB:∀o u,zX w7 bs o u->zX wb bs o u:=fun o u h=>(h.zRJ cA).zRR aB.out (fun h=>(nA.out _ h).1 rfl)
 have e2:=lG.out;have eE:0<(zBY W k y).dn->((0<(W.zRS k).dn/\nb=kb k)\/(q7.heap.size<=nb/\nb<wb.heap.size)):=fun h=>cF.out (by
  have:(zBY W k y).dn=(W.zRS k).dn+L.length:=(by show(zDm W k y).length=_;rw[eD,List.length_append,zAl]);omega)
 have pB:0<(zBY W k y).dn->nb≠bs:=fun h=>by
  rcases eE h with h | h
  ·exact(nA.out nb h).1
  ·omega
 have nD:zAE (((wb.setCell ⟨bs,o2+3,none⟩ (.int .i64 y.rs)).setCell ⟨bs,o2+3+1,none⟩ (.int .i64 y.rb)).setCell ⟨bs,o2+5,none⟩ (.slice da ((W.zRS k).dn+L.length) dc)) bs (off+k*6) nb (.slice da ((W.zRS k).dn+L.length) dc) (zBY W k y):=by
  rw[<-e2];have hs:=tD.out;refine⟨?_,?_,?_,?_,?_,?_,?_,lB.out.zRZ,pB⟩
  ·exact(((fB _ _ hs.c0).zRK _ (Or.inr (by omega))).zRK _ (Or.inr (by omega))).zRK _ (Or.inr (by omega))
  ·exact(((fB _ _ hs.c1).zRK _ (Or.inr (by omega))).zRK _ (Or.inr (by omega))).zRK _ (Or.inr (by omega))
  ·exact(((fB _ _ hs.c2).zRK _ (Or.inr (by omega))).zRK _ (Or.inr (by omega))).zRK _ (Or.inr (by omega))
  ·exact(((fB _ _ hs.c3).set _).zRK _ (Or.inr (by omega))).zRK _ (Or.inr (by omega))
  ·exact(((fB _ _ hs.c4).zRK _ (Or.inr (by omega))).set _).zRK _ (Or.inr (by omega))
  ·exact(((fB _ _ hs.c5).zRK _ (Or.inr (by omega))).zRK _ (Or.inr (by omega))).set _
  ·have h:=dD.out.zRR sB.out (fun h0=>pB (by show 0<(zDm W k y).length;rw[eD];exact h0));show zj _ nb _ (zDm W k y).length (zf (zDm W k y)) (zh (zDm W k y));rw[eD];exact h
 show qO _ (C+1) _ _ _ _ _ (zLx W k y);refine⟨(fun j=>(nB<=j/\j<dC)\/(w6.heap.size<=j/\j<w7.heap.size)),(fun j=>Q j\/(q7.heap.size<=j/\j<wb.heap.size)),R,⟨?_,?_,?_,?_,?_,?_⟩,?_⟩
 ·have h:=(oG.out.zRJ cA).zRR bB (fun j hj e=>by
   rcases e with e | e
   ·omega
   ·have:=pA j e;omega)
  show qZ _ _ _ _ (zx y.zRQ (zEt W k y));rw[eY];exact h
 ·refine zHn (w:=q7) (tG.out.zRJ cA) mH.out (fun j hj=>Or.inl (mB.out j hj)) jA bB (fun j hj dG r hr u hc=>?_) nD (fun h=>⟨(eE h).imp id (fun h j hj e=>?_),?_⟩)
  ·exact(((hc.zRR aB.out (fun h=>(nA.out _ h).1 rfl)).zRK _ (Or.inr (by omega))).zRK _ (Or.inr (by omega))).zRK _ (Or.inr (by omega))
  ·have:=dA.out j (Or.inr (Or.inl (mB.out j hj)));omega
  ·rcases eE h with h | h
   ·exact Or.inl (pA nb h).2.2
   ·exact Or.inr h
 ·exact((sE.out.zRR dB.out (fun j hj e=>by have:=dA.out j (Or.inr (Or.inr hj));omega)).zRJ cA).zRR bB (fun j hj e=>by
   rcases e with e | e
   ·exact oD.out bs fG.out (by rw[<-e];exact hj)
   ·exact oD.out j (pA j e).2.2 hj)
 ·intro j hj hq;rcases hq with hq | hq
  ·have:=dA.out j (Or.inr (Or.inl hq));omega
  ·omega
 ·intro j hj hq;have:=dA.out j (Or.inr (Or.inr hq));omega
 ·intro j hj hq;rcases hj with hj | hj
  ·exact oD.out j hj hq
  ·have:=dA.out j (Or.inr (Or.inr hq));omega
 ·rintro j (h | h | h)
  ·omega
  ·rcases h with h | h
   ·have:=dA.out j (Or.inr (Or.inl h));omega
   ·omega
  ·have:=dA.out j (Or.inr (Or.inr h));omega
end Go.Proofs.YtmgeglgboadfiaaGreatDoor

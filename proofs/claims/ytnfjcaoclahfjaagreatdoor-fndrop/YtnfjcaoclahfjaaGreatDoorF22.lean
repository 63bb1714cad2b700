/- A part of the proof. -/
import Derived.Test.YtnfjcaoclahfjaaGreatDoorF20
import Derived.ArgAppend
set_option linter.unusedVariables false
set_option maxRecDepth 20000
set_option maxHeartbeats 4000000
namespace Go.Proofs.YtnfjcaoclahfjaaGreatDoor
open Go.RowKit
variable{w:World}
theorem zBh(ty:TypeId)(a d:Option Addr)(c:Nat):(Builtin.append_ #[41,41] ty #[.slice a 0 0,.slice d 0 c]).run Tryz.prog w = .ok (.slice a 0 0) w:=by
 obtain⟨i0,b,f⟩:=Option.map_eq_some_iff.1 Kb;have e:Tryz.prog.underlying 41=some (.slice 40):=by kernel_rfl
 cases a<;>cases d<;>simp[Builtin.append_,run_underlying e,sizeOf,typeInfo,b,Builtin.lenOf,Builtin.firstCells,storeCells,loadCells,loadCellsFrom]
variable{n:Nat}{f g:Nat->Int}{l:List (Int×Int)}
theorem zBK{kb lo hi:Nat}{kv vo:Value}(M:Bm w kb kv n f g)(L:C3 w 40 2 kv n)(hv:Ay w lo hi vo l.length (AI l) (AK l))(hn:n+l.length<=4000000)(ty:TypeId) :
 ∃a c w' nb,(Builtin.append_ #[41,41] ty #[kv,vo]).run Tryz.prog w = .ok (.slice a (n+l.length) c) w'/\Bm w' nb (.slice a (n+l.length) c) (B3 n f g ++ l).length (AI (B3 n f g ++ l)) (AK (B3 n f g ++ l))/\AC (fun j=>0<n/\j=kb) w w'/\(0<n+l.length->(0<n/\nb=kb)\/(w.heap.size<=nb/\nb<w'.heap.size)):=by
 obtain⟨i0,B,G⟩:=Option.map_eq_some_iff.1 Kb;simp only[Prod.mk.injEq]at G;obtain⟨Z,Y,S⟩:=G;have ht:Tryz.prog.underlying 41=some (.slice 40):=by kernel_rfl
 have s:(B3 n f g ++ l).length=n+l.length:=by rw[List.length_append,Eo]
 have D:0<n->kv.ownBlock=some kb:=fun k=>by
  obtain⟨_,a,c,hv,_,v⟩:=M;obtain⟨off,R,_⟩:=v k;rw[hv,R];rfl
 have p:0<n->∀q,kv.ownBlock=some q->∀j u,(pcl (B3 n f g))[j]?=some u->w.cell? ⟨q,j,none⟩=some u:=fun k q hq j u d=>by
  have V:j<n*2:=by
   have:=(List.getElem?_eq_some_iff.1 d).1
   rwa [F8,Eo]at this
  obtain⟨_,a,c,F,_,v⟩:=M;obtain⟨off,A,m⟩:=v k;rcases L with⟨e,_⟩ | ⟨_,g',aA,dA,t,_⟩
  ·omega
  ·rw[F,A]at t;simp only[Value.slice.injEq,Option.some.injEq,Addr.mk.injEq,and_true,true_and]at t;obtain⟨⟨rfl,rfl⟩,rfl⟩:=t;rw[F,A]at hq;obtain rfl:kb=q:=(by injection hq);obtain⟨i,x,r⟩:∃i,i<n/\(j=i*2\/j=i*2+1):=⟨j / 2,by omega,by omega⟩;have y:=m i x;obtain⟨I,J⟩:=KQ (B3 n f g) i (by rw[Eo];exact x);have O:=Lu f g x;unfold AI AK at O;rw[O.1]at I;rw[O.2]at J;rcases r with rfl | rfl
   ·rw[I]at d;replace d:=Option.some.inj d;have z:=y.1.1;rw[Nat.zero_add]at z;rw[z,d]
   ·rw[J]at d;replace d:=Option.some.inj d;have z:=y.2.1;rw[Nat.zero_add]at z;rw[z,d]
 by_cases C:l.length=0
 ·obtain rfl:l = []:=List.eq_nil_of_length_eq_zero C;obtain⟨_,N,H,rfl,_,_⟩:=hv;have o:∀a c,kv = .slice a n c->Bm w kb (.slice a n c) (B3 n f g ++ []).length (AI (B3 n f g ++ [])) (AK (B3 n f g ++ [])):=fun a c e=>by
   rw[List.append_nil,Eo];obtain⟨Q,a',c',K,h3,v⟩:=M;rw[e]at K;cases K;refine⟨Q,a,c,rfl,h3,fun k=>?_⟩;obtain⟨off,R,m⟩:=v k;exact⟨off,R,fun i hi=>by rw[(Lu f g hi).1,(Lu f g hi).2];exact m i hi⟩
  rcases Nat.eq_zero_or_pos n with k | k
  ·rcases L with⟨_,a,rfl⟩ | ⟨hp,_⟩
   ·subst k;exact⟨a,0,w,kb,zBh ty a N H,o a 0 rfl,AC.refl _ _,fun h=>by simp at h⟩
   ·omega
  ·obtain⟨a,c,hv⟩:∃a c,kv = .slice a n c:=(by obtain⟨_,a,c,h,_⟩:=M;exact⟨a,c,h⟩);have E:=L.owns (base:=0) (xs:=pcl (B3 n f g)) k (by rw[F8,Eo]) (fun _ _=>Nat.zero_le _) (p k);exact⟨a,c,w,kb,by rw[show(Value.slice a (n+([]:List (Int×Int)).length) c)=kv from hv.symm];exact Ra 0 41 ty 40 i0 2 H N ht B kv n _ E,o a c hv,AC.refl _ _,fun _=>Or.inl ⟨k,rfl⟩⟩
 ·obtain⟨-,N,H,rfl,-,v⟩:=hv;obtain⟨b,off,rfl,-,-,m⟩:=v (by omega);obtain⟨q,cap,w',row,hr,o,hg,X,T,U⟩:=C3.append (P:=Tryz.prog) 41 ty 40 i0 _ 2 16 0 ht B Z Y S rfl (by decide) L (xs:=pcl (B3 n f g)) (by rw[F8,Eo]) (fun _ _ _=>Nat.zero_le _) p
   ⟨b,off,none⟩ l.length H (pcl l) (F8 l) (fun j u d=>by
    have V:j<l.length*2:=by
     have:=(List.getElem?_eq_some_iff.1 d).1
     rwa [F8]at this
    obtain⟨i,x,r⟩:∃i,i<l.length/\(j=i*2\/j=i*2+1):=⟨j / 2,by omega,by omega⟩;have y:=m i x;obtain⟨I,J⟩:=KQ l i x;rcases r with rfl | rfl
    ·rw[I]at d;replace d:=Option.some.inj d;rw[<-d,show(⟨b,off,none⟩:Addr).add (i*2)=⟨b,off+i*2,none⟩from by simp[Addr.add]];exact y.1
    ·rw[J]at d;replace d:=Option.some.inj d;rw[<-d,show(⟨b,off,none⟩:Addr).add (i*2+1)=⟨b,off+i*2+1,none⟩from by simp[Addr.add,Nat.add_assoc]];exact y.2) (NQ l) (by omega) (by unfold maxLen;omega) (by omega) (Nat.zero_le _)
  have hR:B6 w' 0 (.slice (some ⟨q,0,none⟩) (n+l.length) cap) (B3 n f g ++ l):=by
   unfold B6;rw[s,Kx];exact o
  obtain⟨nb,Q,K⟩:=hR.own (by rw[s];unfold maxLen;omega);have W:q=nb:=by
   have:=(K (by rw[s];exact Nat.add_pos_right n (Nat.pos_of_ne_zero C))).1;simp only[Value.ownBlock]at this;injection this
  subst W;refine⟨_,_,w',q,hr,Q,(YG hg).mono ?_,fun _=>?_⟩
  ·intro j d;rcases X with h | ⟨k,h⟩
   ·rw[h]at d;cases d
   ·rw[h,D k]at d;injection d with d;exact⟨k,d.symm⟩
  ·rcases T with⟨k,h⟩ | h
   ·rw[D k]at h;injection h with h;exact Or.inl ⟨k,h.symm⟩
   ·exact Or.inr ⟨by omega,U⟩
variable{w':World}
theorem zCO{kb lo hi:Nat}{kv vo r:Value}(J:Bm w kb kv n f g)(W:C3 w 40 2 kv n)(hv:Ay w lo hi vo l.length (AI l) (AK l))(hn:n+l.length<=4000000)(ty:TypeId)
 (hr:(Builtin.append_ #[41,41] ty #[kv,vo]).run Tryz.prog w = .ok r w'):Bm w' kb kv n f g:=by
 obtain⟨i0,C,R⟩:=Option.map_eq_some_iff.1 Kb;simp only[Prod.mk.injEq]at R;obtain⟨jA,O,Y⟩:=R;have ht:Tryz.prog.underlying 41=some (.slice 40):=by kernel_rfl
 rcases Nat.eq_zero_or_pos n with s | s
 ·obtain⟨hm,a,c,v,hc,-⟩:=J;exact⟨hm,a,c,v,hc,fun h=>by omega⟩
 have eA:0<n->kv.ownBlock=some kb:=fun s=>by
  obtain⟨_,a,c,hv,_,Q⟩:=J;obtain⟨off,ha,_⟩:=Q s;rw[hv,ha];rfl
 have o:0<n->∀q,kv.ownBlock=some q->∀j u,(pcl (B3 n f g))[j]?=some u->w.cell? ⟨q,j,none⟩=some u:=fun s q hq j u d=>by
  have bA:j<n*2:=by
   have:=(List.getElem?_eq_some_iff.1 d).1
   rwa [F8,Eo]at this
  obtain⟨_,a,c,v,_,Q⟩:=J;obtain⟨off,L,m⟩:=Q s;rcases W with⟨e,_⟩ | ⟨_,g',k,U,F,_⟩
  ·omega
  ·rw[v,L]at F;simp only[Value.slice.injEq,Option.some.injEq,Addr.mk.injEq,and_true,true_and]at F;obtain⟨⟨rfl,rfl⟩,rfl⟩:=F;rw[v,L]at hq;obtain rfl:kb=q:=(by injection hq);obtain⟨i,I,D⟩:∃i,i<n/\(j=i*2\/j=i*2+1):=⟨j / 2,by omega,by omega⟩;have y:=m i I;obtain⟨A,x⟩:=KQ (B3 n f g) i (by rw[Eo];exact I);have V:=Lu f g I;unfold AI AK at V;rw[V.1]at A;rw[V.2]at x;rcases D with rfl | rfl
   ·rw[A]at d;replace d:=Option.some.inj d;have K:=y.1.1;rw[Nat.zero_add]at K;rw[K,d]
   ·rw[x]at d;replace d:=Option.some.inj d;have K:=y.2.1;rw[Nat.zero_add]at K;rw[K,d]
 have z:=W.owns (base:=0) (xs:=pcl (B3 n f g)) s (by rw[F8,Eo]) (fun _ _=>Nat.zero_le _) (o s);by_cases cA:l.length=0
 ·obtain rfl:l = []:=List.eq_nil_of_length_eq_zero cA;obtain⟨_,ao,S,rfl,_,_⟩:=hv;have h1:=(Ra 0 41 ty 40 i0 2 S ao ht C kv n _ z).symm.trans hr;have h2:w=w':=(by injection h1);rw[<-h2];exact J
 ·obtain⟨-,ao,S,rfl,-,Q⟩:=hv;obtain⟨b,off,rfl,-,-,m⟩:=Q (by omega);have p:∀j u,(pcl l)[j]?=some u->w.cell? ((⟨b,off,none⟩:Addr).add j)=some u:=(fun j u d=>by
   have bA:j<l.length*2:=by
    have:=(List.getElem?_eq_some_iff.1 d).1
    rwa [F8]at this
   obtain⟨i,I,D⟩:∃i,i<l.length/\(j=i*2\/j=i*2+1):=⟨j / 2,by omega,by omega⟩;have y:=m i I;obtain⟨A,x⟩:=KQ l i I;rcases D with rfl | rfl
   ·rw[A]at d;replace d:=Option.some.inj d;rw[<-d,show(⟨b,off,none⟩:Addr).add (i*2)=⟨b,off+i*2,none⟩from by simp[Addr.add]];exact y.1
   ·rw[x]at d;replace d:=Option.some.inj d;rw[<-d,show(⟨b,off,none⟩:Addr).add (i*2+1)=⟨b,off+i*2+1,none⟩from by simp[Addr.add,Nat.add_assoc]];exact y.2)
  rcases W with⟨h,_⟩ | ⟨_,g',k,U,rfl,hg,h1,h2,h3⟩
  ·omega
  obtain rfl:g'=kb:=by
   have:=eA s;simpa[Value.ownBlock]using this
  by_cases M:n+l.length<=k
  ·obtain⟨T,E,N,-⟩:=run_append_fits (P:=Tryz.prog) w 0 41 ty 40 i0 2 ht C O g' n k _ z ⟨b,off,none⟩ l.length S (pcl l) (F8 l) p (NQ l) M;have e:=E.symm.trans hr;have x:T=w':=(by injection e);subst x;have t:(B3 n f g ++ l).length=n+l.length:=(by rw[List.length_append,Eo]);have hR:B6 T 0 (.slice (some ⟨g',0,none⟩) (n+l.length) k) (B3 n f g ++ l):=by
    unfold B6;rw[t,Kx];exact N
   obtain⟨nb,⟨_,a,c,G,_,iA⟩,_⟩:=hR.own (by rw[t];unfold maxLen;omega);obtain⟨oA,X,B⟩:=iA (by rw[t];omega);rw[X]at G;simp only[Value.slice.injEq,Option.some.injEq,Addr.mk.injEq,and_true]at G;obtain⟨⟨rfl,rfl⟩,-,-⟩:=G;obtain⟨hm,a4,c4,H,Z,-⟩:=J;refine⟨hm,a4,c4,H,Z,fun _=>?_⟩;simp only[Value.slice.injEq,true_and]at H;refine⟨0,H.1.symm,fun i hi=>?_⟩;have y:=B i (by rw[t];omega);have A:AI (B3 n f g ++ l) i=f i/\AK (B3 n f g ++ l) i=g i:=by
    have:=Lu f g hi;unfold AI AK at this ⊢;simp only[List.getD_eq_getElem?_getD]at this ⊢;rw[List.getElem?_append_left (by rw[Eo];exact hi)];exact this
   rw[A.1,A.2]at y;exact y
  ·obtain⟨v2,T,E,-,aA⟩:=run_append_arg_grows (P:=Tryz.prog) w 41 ty 40 i0 _ 2 16 ht C jA O Y rfl (by decide) ⟨g',0,none⟩ n k (pcl (B3 n f g)) (by rw[F8,Eo]) (fun j u d=>by
    rw[show(⟨g',0,none⟩:Addr).add j=⟨g',j,none⟩from by simp[Addr.add];omega];exact o s g' rfl j u d) ⟨b,off,none⟩ l.length S (pcl l) (F8 l) p (by omega) (by unfold maxLen;omega) (by omega)
   have e:=E.symm.trans hr;have x:T=w':=(by injection e);subst x;exact J.AD (YG aA) (fun _ h=>by cases h)
theorem zAS{Q:Nat->Prop}{bs off c:Nat}{kb:Nat->Nat}{kv:Nat->Value}{f:Nat->Ac}(G:Dw w bs kb kv (.slice (some ⟨bs,off,none⟩) n c) n f)(p:MD kb n f)(s:∀j,GM bs kb n f j->Q j){k:Nat}(D:k<n){s':Ac}{nb:Nat}{nv:Value}
 (J:AC (fun j=>j=bs\/(0<(f k).dn/\j=kb k)) w w') (q:∀j,j<n->j≠k->∀r,r<6->∀u,AF w bs (off+j*6+r) u->AF w' bs (off+j*6+r) u) (hs:E9 w' bs (off+k*6) nb nv s') (z:0<s'.dn->((0<(f k).dn/\nb=kb k)\/∀j,GM bs kb n f j->j≠nb)/\Q nb) :
 Du w' Q (.slice (some ⟨bs,off,none⟩) n c) n (fun j=>if j=k then s' else f j):=by
 have v:∀i,i<n->i≠k->0<(f i).dn->0<s'.dn->kb i≠nb:=fun i hi B g m e=>by
  rcases(z m).1 with⟨A,F⟩ | A
  ·exact p i k hi D B g A (by rw[e,F])
  ·exact A (kb i) (Or.inr ⟨i,hi,g,rfl⟩) e
 refine⟨bs,(fun j=>if j=k then nb else kb j),(fun j=>if j=k then nv else kv j),?_,?_,?_⟩
 ·obtain⟨I,a,cap,hv,H,C⟩:=G;simp only[Value.slice.injEq,true_and]at hv;obtain⟨rfl,rfl⟩:=hv;refine⟨I,_,_,rfl,H,fun b=>?_⟩;obtain⟨E,e,t⟩:=C b;simp only[Option.some.injEq,Addr.mk.injEq,true_and,and_true]at e;subst e;refine⟨off,rfl,fun j d=>?_⟩;by_cases e:j=k
  ·subst e;simp only[if_true];exact hs
  ·simp only[if_neg e];have h:=t j d;exact⟨q j d e 0 (by omega) _ h.c0,q j d e 1 (by omega) _ h.c1,q j d e 2 (by omega) _ h.c2,q j d e 3 (by omega) _ h.c3,q j d e 4 (by omega) _ h.c4,q j d e 5 (by omega) _ h.c5,h.dead.AD J (fun b x=>by
    rcases x with x | ⟨g,x⟩
    ·exact h.BY b x
    ·exact p j k d D e b g x),h.Bo,h.BY⟩
 ·intro i j hi d y g m;show(if i=k then nb else kb i)≠(if j=k then nb else kb j);by_cases o:i=k
  ·by_cases l:j=k
   ·exact absurd (o.trans l.symm) y
   ·simp only[if_pos o]at g;simp only[if_neg l]at m;rw[if_pos o,if_neg l];exact fun e=>v j d l m g e.symm
  ·simp only[if_neg o]at g;by_cases l:j=k
   ·simp only[if_pos l]at m;rw[if_neg o,if_pos l];exact v i hi o g m
   ·simp only[if_neg l]at m;rw[if_neg o,if_neg l];exact p i j hi d y g m
 ·rintro j (⟨b,rfl⟩ | ⟨i,hi,b,rfl⟩)
  ·exact s _ (Or.inl ⟨b,rfl⟩)
  ·by_cases e:i=k
   ·simp only[if_pos e]at b ⊢;exact(z b).2
   ·simp only[if_neg e]at b ⊢;exact s _ (Or.inr ⟨i,hi,b,rfl⟩)
theorem C3.turnedL{S:Nat->Prop}{w1:World}{e:TypeId}{s:Nat}{v:Value}(h:C3 w e s v n)(i:Below w.heap.size w w1)(t:AC S w1 w')(d:0<n->∃q,v.ownBlock=some q/\¬S q):C3 w' e s v n:=by
 rcases h with h | ⟨f,g,cap,b,hv,j,l,m,o⟩
 ·exact Or.inl h
 ·obtain⟨q,k,p⟩:=d f;rw[hv]at k;have c:g=q:=(by simpa[Value.ownBlock]using k);subst c;have a:=(Array.getElem?_eq_some_iff.1 j).1;exact Or.inr ⟨f,g,cap,b,hv,((t.block g (Nat.lt_of_lt_of_le a i.size) p).trans (i.block g a)).trans j,l,m,o⟩
theorem zD9(v0 v1:Value)(lo hi:Nat)(p:A7)(xs xb:Int)(w:World)(Y:DU w lo hi v0 v1 p)(hn:As p<=1048576) :
 Calls Tryz.prog 104 #[.agg #[v0,v1],.agg #[.int .i64 xs,.int .i64 xb]] w (zHb (JA p xs xb) w):=by
 have K:=Al Y;obtain⟨a,c,a',c',rfl,rfl⟩:=Y.Bv;have Hn:=Al hn;have nC:p.hn<=1048576:=(by unfold As at hn;omega);have rA:p.n<=1048576:=(by unfold As at hn;omega);have mA:Hid (∀j,j<p.n->(p.s j).kn<=1048576):=fun j hj=>by have h2:=UF p.s hj;unfold Ci at h2;unfold As at hn;omega
 have sC:p.hn<=c':=(by obtain⟨_,⟨_,_,_,e,h,_⟩⟩:=Y;simp only[Value.slice.injEq,true_and]at e;omega);have fA:=zII w (.slice a p.n c) (.slice a' p.hn c') (.int .i64 xs) (.int .i64 xb) 26 40 150;obtain⟨i0,eA,X⟩:=Option.map_eq_some_iff.1 VI;simp only[Prod.mk.injEq]at X;have O:=Al (And.intro eA X);clear Y hn eA X;go_enter Tryz.func104,Tryz.ntmps104;go_wp2_with fail;generalize ((w.alloc (.cells #[.slice a p.n c,.slice a' p.hn c'] 26)).alloc (.cells #[.int .i64 xs,.int .i64 xb] 40)).alloc (.cells #[.slice none 0 0,.slice none 0 0,.int .i64 0,.int .i64 0,.int .i64 0] 150)=W at fA ⊢;obtain⟨hB,hX,hR,U,hz⟩:=fA;refine(Rb _ _ lo hi p _ (K.out.A1 U)).mono ?_;rintro e w1 ⟨⟨t,rfl,x⟩,A⟩;have S:=Al (hB.A1 A);have T:=Al (hX.A1 A);have I:=Al (hR.A1 A);have L:=A8 U A;have vA:w.heap.size+3<=w1.heap.size:=(by have:=A.size;omega);clear hB hX hR U A hz;by_cases z:AX p
 · have y:=Al z
   obtain rfl:t=true:=x.2 z;clear x z;obtain⟨⟨x0,x1⟩,⟨x2,x3⟩⟩:=S.out;obtain⟨⟨y0,y1⟩,⟨y2,y3⟩⟩:=T.out;go_wp2_with fail;refine(OC _ p.n lo hi p.s _ _ _ (K.out.1.A1 L)).mono ?_;rintro e w2 ⟨⟨t,rfl,x⟩,C⟩;rw[OD y.out]at x;have F:=Al (S.out.A1 C);have J:=Al (T.out.A1 C);have q:=Al (I.out.A1 C);have r:=A8 L C;have rC:w.heap.size+3<=w2.heap.size:=(by have:=C.size;omega);clear C L S T I vA x0 x1 x2 x3 y0 y1 y2 y3;by_cases hP:BA p xs xb
   · have HP:=Al hP
     obtain rfl:t=true:=x.2 hP;clear x hP;obtain⟨⟨x0,x1⟩,⟨x2,x3⟩⟩:=F.out;obtain⟨⟨y0,y1⟩,⟨y2,y3⟩⟩:=J.out;go_wp2_with fail;refine(Oj _ p.hn lo hi p.h _ _ (K.out.2.A1 r)).mono ?_;rintro e Q ⟨⟨t,rfl,x⟩,tA⟩;subst tA;by_cases Z:Has p.hn p.h xs
     · have HH:=Al Z
       obtain rfl:t=true:=x.2 Z;clear x Z;obtain⟨⟨u0,u1⟩,⟨u2,u3⟩,⟨u4,u5⟩,⟨u6,u7⟩,⟨u8,u9⟩⟩:=q.out;go_wp2;have b:=q.out.put (.slice none 0 0) (.slice none 0 0) (.int .i64 0) (.int .i64 0) (.int .i64 4);have m:=QM (R:=w.heap.size+1+1) (u2:=.int .i64 0) (u3:=.int .i64 0) (u4:=.int .i64 4) (by omega) r;rw[VE y.out (fun h=>h.2 HH.out)];exact bodyPost_ret (v:=.agg #[.slice none 0 0,.slice none 0 0,.int .i64 0,.int .i64 0,.int .i64 4]) (by simp[results,Tryz.results104,go_sem,b.1.1,b.2.1.1,b.2.2.1.1,b.2.2.2.1.1,b.2.2.2.2.1]) rfl ⟨_,_,rfl,m.1,m.2⟩
     · have HH:=Al Z
       obtain rfl:t=false:=Bb x Z;clear x Z;obtain⟨⟨u0,u1⟩,⟨u2,u3⟩,⟨u4,u5⟩,⟨u6,u7⟩,⟨u8,u9⟩⟩:=q.out;have vB:(p.hn:Int)<=(c':Int):=(by omega);have n0:w.heap.size+1+1≠w.heap.size:=(by omega);have n1:w.heap.size+1+1≠w.heap.size+1:=(by omega);go_wp2_with fail;go_region_held3 (fun w'=>w'.cell? ⟨w.heap.size,0,none⟩=some (.slice a p.n c)/\w'.cell? ⟨w.heap.size,1,none⟩=some (.slice a' p.hn c')/\w'.cell? ⟨w.heap.size+1,0,none⟩=some (.int .i64 xs)) (go_keep)
        (first
          | (go_at_call 146;refine(Yb _ p.n lo hi p.s _ ?_ rA mA.out).mono ?_;(first | exact K.out.1.A1 r.drew | exact K.out.1.A1 (A8 r (A9 _ _)).drew);rintro e E ⟨v5,bs,kb,kv,rfl,V,P,H,N⟩;obtain⟨_,sa,gA,rfl,_⟩:=id V;(first | (have sA:E.cell? ⟨Q.heap.size,0,none⟩=some (.int .i64 xs):=((At (i:=0) (v:=.int .i64 xs) (heap_alloc_new Q (.cells #[.int .i64 xs] 2)) rfl).A1 (Cs N)).1) | skip);have g:Below Q.heap.size Q E:=(by first | exact Cs N | exact A8 (A9 _ _) (Cs N));have u:∀k,Fd bs kb p.n p.s k->Q.heap.size<=k/\k<E.heap.size:=(by first | exact H | exact fun k hk=>(by have:=H k hk;simp at this;omega));have z0:=(F.out.A1 g).1.1;have z1:=(F.out.A1 g).2.1;have z2:=(J.out.A1 g).1.1)
          | (refine step_append_grows rfl (.tmp 33) (.tmp 36) 24 rfl 2 i0 (.int .i64 0) 1 8 (by kernel_rfl) O.out.1 O.out.2.1 O.out.2.2.1 O.out.2.2.2 rfl (by decide) a' p.hn p.hn (ic p.h p.hn) (by simp[Act.eval]) (U4 K.out.2) (Ih _ _) (Sd K.out.2 (A8 r (A8 g (A9 E _)))) ⟨E.heap.size,0,none⟩ 1 1 [.int .i64 xs] (by simp[Act.eval]) rfl (zIZ _ _ _) (yF _) (by omega) (by unfold maxLen;omega) (by omega) ?_
             intro v6 w6 f l;obtain⟨a6,c6,rfl,_⟩:=C6 f;have D:Below E.heap.size E w6:=A8 (A9 E _) (YZ l);have o:w6.ownsRow E.heap.size 2 1 (.slice a6 (p.hn+1) c6) (p.hn+1) (ic p.h p.hn ++ [.int .i64 xs]):=QP f (by simp);have d:=A8 g D;obtain⟨⟨p0,p1⟩,⟨p2,p3⟩⟩:=F.out.A1 d;obtain⟨⟨p4,p5⟩,⟨p6,p7⟩⟩:=J.out.A1 d;obtain⟨⟨p8,p9⟩,⟨aB,bB⟩,⟨cB,eB⟩,⟨fB,gB⟩,⟨iB,jB⟩⟩:=q.out.A1 d;clear f l)
          | (refine step_append_grows rfl (.tmp 33) (.tmp 36) 24 rfl 2 i0 (.int .i64 0) 1 8 (by kernel_rfl) O.out.1 O.out.2.1 O.out.2.2.1 O.out.2.2.2 rfl (by decide) a' p.hn p.hn (ic p.h p.hn) (by simp[Act.eval]) (U4 K.out.2) (Ih _ _) (Sd K.out.2 (A8 r g)) ⟨Q.heap.size,0,none⟩ 1 1 [.int .i64 xs] (by simp[Act.eval]) rfl (zF0 sA) (yF _) (by omega) (by unfold maxLen;omega) (by omega) ?_
             intro v6 w6 f l;obtain⟨a6,c6,rfl,_⟩:=C6 f;have D:Below E.heap.size E w6:=YZ l;have o:w6.ownsRow E.heap.size 2 1 (.slice a6 (p.hn+1) c6) (p.hn+1) (ic p.h p.hn ++ [.int .i64 xs]):=QP f (by simp);have d:=A8 g D;obtain⟨⟨p0,p1⟩,⟨p2,p3⟩⟩:=F.out.A1 d;obtain⟨⟨p4,p5⟩,⟨p6,p7⟩⟩:=J.out.A1 d;obtain⟨⟨p8,p9⟩,⟨aB,bB⟩,⟨cB,eB⟩,⟨fB,gB⟩,⟨iB,jB⟩⟩:=q.out.A1 d;clear f l))
       all_goals
        have nA:=Al (zDP (p:=C9 p xs) (B:=Q.heap.size) (M:=Q.heap.size) (V.A1 D) P (fun k hk=>by have:=u k hk;have:=D.size;omega) (by show p.hn+1<=maxLen;unfold maxLen;omega) (by rw[<-zGd]at o;exact o) (fun k e=>by
         have Y:=o.lt k e;refine⟨by have:=g.size;omega,Or.inr (Or.inr ⟨Y.2,fun hx=>?_⟩)⟩;have:=u k hx;omega) (Nat.le_refl _) (fun e=>absurd e (Nat.succ_ne_zero _)))
        have lA:=Al (q.out.A1 d);have oA:=A8 r d;clear V P H u N g D d o;go_wp2;have G:=lA.out.put (.slice sa p.n gA) (.slice a6 (p.hn+1) c6) (.int .i64 0) (.int .i64 0) (.int .i64 0);have m:=zGq (R:=w.heap.size+1+1) (u2:=.int .i64 0) (u3:=.int .i64 0) (u4:=.int .i64 0) nA.out (by omega) (by omega) (Nat.le_refl _) oA;rw[TL y.out HP.out HH.out];exact bodyPost_ret (v:=.agg #[.slice sa p.n gA,.slice a6 (p.hn+1) c6,.int .i64 0,.int .i64 0,.int .i64 0]) (by simp[results,Tryz.results104,go_sem,G.1.1,G.2.1.1,G.2.2.1.1,G.2.2.2.1.1,G.2.2.2.2.1]) rfl ⟨_,_,rfl,m.1,m.2⟩
   · have HP:=Al hP
     obtain rfl:t=false:=Bb x hP;clear x hP;obtain⟨⟨u0,u1⟩,⟨u2,u3⟩,⟨u4,u5⟩,⟨u6,u7⟩,⟨u8,u9⟩⟩:=q.out;go_wp2;have b:=q.out.put (.slice none 0 0) (.slice none 0 0) (.int .i64 0) (.int .i64 0) (.int .i64 4);have m:=QM (R:=w.heap.size+1+1) (u2:=.int .i64 0) (u3:=.int .i64 0) (u4:=.int .i64 4) (by omega) r;rw[VE y.out (fun h=>HP.out h.1)];exact bodyPost_ret (v:=.agg #[.slice none 0 0,.slice none 0 0,.int .i64 0,.int .i64 0,.int .i64 4]) (by simp[results,Tryz.results104,go_sem,b.1.1,b.2.1.1,b.2.2.1.1,b.2.2.2.1.1,b.2.2.2.2.1]) rfl ⟨_,_,rfl,m.1,m.2⟩
 · have y:=Al z
   obtain rfl:t=false:=Bb x z;clear x z;obtain⟨⟨u0,u1⟩,⟨u2,u3⟩,⟨u4,u5⟩,⟨u6,u7⟩,⟨u8,u9⟩⟩:=I.out;go_wp2;have b:=I.out.put (.slice none 0 0) (.slice none 0 0) (.int .i64 0) (.int .i64 0) (.int .i64 1);have m:=QM (R:=w.heap.size+1+1) (u2:=.int .i64 0) (u3:=.int .i64 0) (u4:=.int .i64 1) (by omega) L;rw[yr y.out];exact bodyPost_ret (v:=.agg #[.slice none 0 0,.slice none 0 0,.int .i64 0,.int .i64 0,.int .i64 1]) (by simp[results,Tryz.results104,go_sem,b.1.1,b.2.1.1,b.2.2.1.1,b.2.2.2.1.1,b.2.2.2.2.1]) rfl ⟨_,_,rfl,m.1,m.2⟩
theorem Ie{j i:Nat}(h:j≠i):(j == i)=false:=by simpa using h
def C5(d:Nat->Nat)(x:Nat->Value):List Nat->Act->Act
 | [],a=>a
 | i :: r,a=>C5 d x r (a.put (some (d i)) (x i))
theorem zEc(a:Act)(k:Nat)(u v:Value):(a.put (some k) u).put (some k) v=a.put (some k) v:=by
 unfold Act.put;simp[Array.setIfInBounds_setIfInBounds]
theorem zDT(a:Act){k j:Nat}(u v:Value)(h:k≠j):(a.put (some k) u).put (some j) v=(a.put (some j) v).put (some k) u:=
 Act.put_comm a u v (fun d e b=>h (by injection e with e;injection b with b;omega))
theorem Vj(d:Nat->Nat)(x:Nat->Value)(k:Nat)(v:Value):∀(M:List Nat) (a:Act),(∀i∈M,d i≠k)->(C5 d x M a).put (some k) v=C5 d x M (a.put (some k) v)
 | [],_,_=>rfl
 | i :: r,a,h=>by
  show(C5 d x r (a.put (some (d i)) (x i))).put (some k) v=C5 d x r ((a.put (some k) v).put (some (d i)) (x i));rw[Vj d x k v r _ (fun j b=>h j (List.mem_cons_of_mem _ b)),zDT a _ _ (h i List.mem_cons_self)]
theorem Y6{d:Nat->Nat}{x y:Nat->Value}:∀{M:List Nat} {a:Act},(∀i∈M,x i=y i)->C5 d x M a=C5 d y M a
 | [],_,_=>rfl
 | i :: r,a,h=>by
  show C5 d x r (a.put (some (d i)) (x i))=C5 d y r (a.put (some (d i)) (y i));rw[h i List.mem_cons_self];exact Y6 (fun j b=>h j (List.mem_cons_of_mem _ b))
def GK(x:Nat->Value)(i:Nat)(v:Value)(j:Nat):Value:=if j=i then v else x j
theorem Vk(d:Nat->Nat)(x:Nat->Value)(i:Nat)(v:Value):∀(M:List Nat) (a:Act),i∈M->M.Pairwise (fun p q=>d p≠d q)->(C5 d x M a).put (some (d i)) v=C5 d (GK x i v) M a
 | [],_,h,_=>by cases h
 | j :: r,a,h,c=>by
  obtain⟨g,k⟩:=List.pairwise_cons.1 c;show(C5 d x r (a.put (some (d j)) (x j))).put (some (d i)) v=C5 d (GK x i v) r (a.put (some (d j)) (GK x i v j));by_cases e:j=i
  ·subst e;have b:∀p∈r,d p≠d j:=fun p c e=>g p c e.symm
   rw[Vj d x (d j) v r _ b,zEc];have f:GK x j v j=v:=(by unfold GK;rw[if_pos rfl]);rw[f];refine Y6 (fun p c=>?_);unfold GK;rw[if_neg (fun e=>b p c (by rw[e]))]
  ·have f:GK x i v j=x j:=(by unfold GK;rw[if_neg e]);rw[f];rcases List.mem_cons.1 h with h | h
   ·exact absurd h.symm e
   ·exact Vk d x i v r _ h k
def DB(b:Nat->Bool):List Nat->Array Bool->Array Bool
 | [],l=>l
 | i :: r,l=>DB b r (if b i then l.setIfInBounds i true else l)
def CT(b:Nat->Bool)(i:Nat)(j:Nat):Bool:=j == i || b j
theorem Qv(b:Nat->Bool)(k:Nat):∀(M:List Nat) (l:Array Bool),(DB b M l).setIfInBounds k true=DB b M (l.setIfInBounds k true)
 | [],_=>rfl
 | i :: r,l=>by
  show(DB b r (if b i then l.setIfInBounds i true else l)).setIfInBounds k true=DB b r (if b i then(l.setIfInBounds k true).setIfInBounds i true else l.setIfInBounds k true);rw[Qv b k r];by_cases h:b i
  ·rw[if_pos h,if_pos h];by_cases e:i=k
   ·subst e;rfl
   ·rw[Array.setIfInBounds_comm _ _ e]
  ·rw[if_neg h,if_neg h]
theorem MJ{b c:Nat->Bool}:∀{M:List Nat} {l:Array Bool},(∀i∈M,b i=c i)->DB b M l=DB c M l
 | [],_,_=>rfl
 | i :: r,l,h=>by
  show DB b r (if b i then _ else _)=DB c r (if c i then _ else _);rw[h i List.mem_cons_self];exact MJ (fun j a=>h j (List.mem_cons_of_mem _ a))
theorem R5(b:Nat->Bool)(k:Nat):∀(M:List Nat) (l:Array Bool),k∈M->(DB b M l).setIfInBounds k true=DB (CT b k) M l
 | [],_,h=>by cases h
 | i :: r,l,h=>by
  show(DB b r (if b i then l.setIfInBounds i true else l)).setIfInBounds k true=DB (CT b k) r (if CT b k i then l.setIfInBounds i true else l);by_cases e:i=k
  ·subst e;have a:CT b i i=true:=(by unfold CT;simp);rw[if_pos a,Qv];have f:(if b i then l.setIfInBounds i true else l).setIfInBounds i true=l.setIfInBounds i true:=by
    by_cases c:b i
    ·rw[if_pos c,Array.setIfInBounds_setIfInBounds]
    ·rw[if_neg c]
   rw[f];by_cases d:i∈r
   ·rw[<-R5 b i r _ d,Qv,Array.setIfInBounds_setIfInBounds]
   ·refine MJ (fun j g=>?_);unfold CT;have:(j == i)=false:=Ie fun e=>d (e▸g)
    rw[this,Bool.false_or]
  ·have a:CT b k i=b i:=by
    unfold CT;have:(i == k)=false:=Ie e;rw[this,Bool.false_or]
   rw[a];rcases List.mem_cons.1 h with h | h
   ·exact absurd h.symm e
   ·exact R5 b k r _ h
def PG:List Nat->List (Nat->Bool)
 | []=>[fun _=>false]
 | i :: r=>(PG r).flatMap fun b=>[b,CT b i]
theorem XS(c:Nat->Bool):∀M:List Nat,M.Nodup->∃b∈PG M,(∀i∈M,b i=c i)/\∀i,i∉M->b i=false
 | [],_=>⟨_,List.mem_singleton.2 rfl,fun i h=>(by cases h),fun _ _=>rfl⟩
 | i :: r,hn=>by
  obtain⟨f,l⟩:=List.nodup_cons.1 hn;obtain⟨b,g,k,d⟩:=XS c r l;by_cases e:c i
  ·refine⟨CT b i,List.mem_flatMap.2 ⟨b,g,by simp⟩,fun j a=>?_,fun j a=>?_⟩
   ·unfold CT;rcases List.mem_cons.1 a with rfl | a
    ·simp[e]
    ·have:(j == i)=false:=Ie fun e=>f (e▸a)
     rw[this,Bool.false_or];exact k j a
   ·unfold CT;have m:(j == i)=false:=Ie fun e=>a (e▸List.mem_cons_self)
    rw[m,Bool.false_or];exact d j (fun h=>a (List.mem_cons_of_mem _ h))
  ·refine⟨b,List.mem_flatMap.2 ⟨b,g,by simp⟩,fun j a=>?_,fun j a=>?_⟩
   ·rcases List.mem_cons.1 a with rfl | a
    ·rw[d j f];simpa using e
    ·exact k j a
   ·exact d j (fun h=>a (List.mem_cons_of_mem _ h))
theorem V5(b:Nat->Bool)(i:Nat):∀M:List Nat,M.Nodup->i∈M->b i=false->(M.countP fun j=>!b j)=(M.countP fun j=>!CT b i j)+1
 | [],_,h,_=>by cases h
 | j :: r,hn,h,hbi=>by
  obtain⟨f,k⟩:=List.nodup_cons.1 hn;rw[List.countP_cons,List.countP_cons];rcases List.mem_cons.1 h with e | a
  ·subst e;have g:(r.countP fun j=>!b j)=r.countP fun j=>!CT b i j:=by
    refine List.countP_congr fun p l=>?_
    unfold CT;have:(p == i)=false:=Ie fun e=>f (e▸l)
    rw[this,Bool.false_or]
   have c:CT b i i=true:=(by unfold CT;simp);rw[g,hbi,c];simp
  ·have d:(j == i)=false:=Ie fun e=>f (e▸a)
   have c:CT b i j=b j:=(by unfold CT;rw[d,Bool.false_or]);have m:=V5 b i r k a hbi;rw[c];omega
def Pk(md:Region.Mode)(ops:Array Oper)(M:List Nat)(D:Nat->List Nat)(l0:Array Bool):Bool:=
 (PG M).all fun b=>!(M.all fun i=>!b i || (D i).all b) || (M.all b || (!(Region.ready md ops (DB b M l0)).isEmpty && (Region.ready md ops (DB b M l0)).all fun i=>M.contains i && !b i && (D i).all b))
section
variable {P : Program} {md : Region.Mode} {ops : Array Oper} {Q : Exit -> Act -> World -> Prop} {S G : World -> Prop}
variable{M:List Nat}{D:Nat->List Nat}{d:Nat->Nat}{F:Nat->Value->World->Prop}{l0:Array Bool}
theorem zDI{a0:Act}{l:Nat}
 (A:Pk md ops M D l0=true) (hn:M.Nodup) (hd:M.Pairwise (fun p q=>d p≠d q)) (o:∀i∈M,∀j∈D i,j∈M)
 (hF:∀i v w w',F i v w->Below w.heap.size w w'->F i v w') (Z:∀w w',G w->Below w.heap.size w w'->G w')
 (s:∀i∈M,∀x w,S w->G w->(∀j∈D i,F j (x j) w)->∀K:Act->World->Prop,Shut (∀J v w',J=(C5 d x M a0).put (some (d i)) v->S w'->F i v w'->Below w.heap.size w w'->K J w')->wpOp P ops Q i K (C5 d x M a0) w)
 (B:∀x w,S w->G w->(∀i∈M,F i (x i) w)->wpAnyH P md ops Q S l (DB (fun _=>true) M l0) (C5 d x M a0) w) :
 ∀(n:Nat) (b:Nat->Bool),(M.countP fun i=>!b i)=n->(∀i∈M,b i=true->∀j∈D i,b j=true)->∀x w,S w->G w->(∀i∈M,b i=true->F i (x i) w)->wpAnyH P md ops Q S (l+n) (DB b M l0) (C5 d x M a0) w:=by
 intro n
 induction n with
 | zero=>
  intro b Y O x w N H E;have m:∀i∈M,b i=true:=fun i hi=>by
   have:=(List.countP_eq_zero.1 Y) i hi;simpa using this
  rw[MJ (c:=fun _=>true) m];exact B x w N H (fun i hi=>E i hi (m i hi))
 | succ n ih=>
  intro b Y O x w N H E;obtain⟨c,U,f,bA⟩:=XS b M hn;have C:=List.all_eq_true.1 A c U;have T:(M.all fun i=>!c i || (D i).all c)=true:=List.all_eq_true.2 fun i hi=>by
   rw[f i hi];by_cases e:b i=true
   ·have:(D i).all c=true:=List.all_eq_true.2 fun j k=>by rw[f j (o i hi j k)];exact O i hi e j k
    rw[this];simp
   ·have:b i=false:=(by simpa using e);rw[this];rfl
  have V:(M.all c)=false:=by
   cases h:M.all c with
   | false=>rfl
   | true=>
    have X:(M.countP fun i=>!b i)=0:=List.countP_eq_zero.2 fun i hi=>by rw[<-f i hi,List.all_eq_true.1 h i hi];simp
    omega
  rw[T,V]at C;simp only[Bool.not_true,Bool.false_or,Bool.and_eq_true]at C;rw[MJ (c:=c) (fun i hi=>(f i hi).symm)];refine⟨fun X=>?_,fun i hi=>?_⟩
  ·rw[X]at C;simp at C
  ·have I:=List.all_eq_true.1 C.2 i hi;simp only[Bool.and_eq_true,Bool.not_eq_true']at I;have g:i∈M:=(by simpa using I.1.1);have R:b i=false:=(by rw[<-f i g];exact I.1.2);have t:∀j∈D i,b j=true:=fun j k=>by rw[<-f j (o i g j k)];exact List.all_eq_true.1 I.2 j k
   refine s i g x w N H (fun j k=>E j (o i g j k) (t j k)) _ ?_;intro J v w' ha u L y;refine⟨u,?_⟩;rw[ha,Vk d x i v M a0 g hd,R5 c i M l0 g];have z:∀j∈M,CT c i j=CT b i j:=fun j k=>by unfold CT;rw[f j k]
   rw[MJ (c:=CT b i) z];refine ih (CT b i) ?_ ?_ (GK x i v) w' u (Z w w' H y) ?_
   ·have h1:(M.countP fun j=>!b j)=(M.countP fun j=>!CT b i j)+1:=V5 b i M hn g R;omega
   ·intro p W a j k;unfold CT at a ⊢;by_cases e:p=i
    ·subst e;rw[t j k];simp
    ·have r:(p == i)=false:=Ie e;rw[r,Bool.false_or]at a;rw[O p W a j k];simp
   ·intro p W a;unfold GK;by_cases e:p=i
    ·subst e;rw[if_pos rfl];exact L
    ·rw[if_neg e];unfold CT at a;have r:(p == i)=false:=Ie e;rw[r,Bool.false_or]at a;exact hF p _ w w' (E p W a) y
theorem zEy{a0:Act}{c:Nat}(n:Nat->Value)
 (e:Pk md ops M D l0=true) (hn:M.Nodup) (m:M.Pairwise (fun p q=>d p≠d q)) (k:∀i∈M,∀j∈D i,j∈M)
 (hF:∀i v w w',F i v w->Below w.heap.size w w'->F i v w') (o:∀w w',G w->Below w.heap.size w w'->G w')
 (b:∀i∈M,∀x w,S w->G w->(∀j∈D i,F j (x j) w)->∀K:Act->World->Prop,Shut (∀l v w',l=(C5 d x M a0).put (some (d i)) v->S w'->F i v w'->Below w.heap.size w w'->K l w')->wpOp P ops Q i K (C5 d x M a0) w)
 (g:∀x w,S w->G w->(∀i∈M,F i (x i) w)->wpAnyH P md ops Q S c (DB (fun _=>true) M l0) (C5 d x M a0) w)
 {a:Act} {f:Nat} (t:a=C5 d n M a0) (u:f=c+M.length) (s:S w) (y:G w):wpAnyH P md ops Q S f l0 a w:=by
 subst t u;have e0:DB (fun _=>false) M l0=l0:=by
  clear e hn m k b g
  induction M with
  | nil=>rfl
  | cons i r ih=>exact ih
 have:=zDI (P:=P) (Q:=Q) e hn m k hF o b g M.length (fun _=>false) (by simp[List.countP_true]) (fun i hi h=>by cases h) n w s y (fun i hi h=>by cases h)
 rwa [e0]at this
theorem zEd(a:Act)(k:Nat):a.put (some k) (a.tmps.getD k undef)=a:=by
 unfold Act.put;have:a.tmps.setIfInBounds k (a.tmps.getD k undef)=a.tmps:=by
  refine Array.ext_getElem? fun j=>?_
  rw[Array.getElem?_setIfInBounds];by_cases e:k=j
  ·subst e;by_cases h:k<a.tmps.size
   ·simp[h,Array.getD]
   ·simp[h]
  ·simp[e]
 cases a;simp only[this]
theorem XT(d:Nat->Nat)(a:Act):∀M:List Nat,C5 d (fun i=>a.tmps.getD (d i) undef) M a=a
 | []=>rfl
 | i :: r=>by
  show C5 d _ r (a.put (some (d i)) (a.tmps.getD (d i) undef))=a;rw[zEd];exact XT d a r
theorem zDJ(M:List Nat)(D:Nat->List Nat)(d:Nat->Nat)(F:Nat->Value->World->Prop)(b:Nat){a:Act}
 (e:Pk md ops M D l0=true) (hn:M.Nodup) (m:M.Pairwise (fun p q=>d p≠d q)) (g:∀i∈M,∀j∈D i,j∈M)
 (hF:∀i v w w',F i v w->Below w.heap.size w w'->F i v w') (k:∀w w',G w->Below w.heap.size w w'->G w') (l:S w) (n:G w)
 (c:∀i∈M,∀x w,S w->G w->(∀j∈D i,F j (x j) w)->∀K:Act->World->Prop,Shut (∀h v w',h=(C5 d x M a).put (some (d i)) v->S w'->F i v w'->Below w.heap.size w w'->K h w')->wpOp P ops Q i K (C5 d x M a) w)
 (f:∀x w,S w->G w->(∀i∈M,F i (x i) w)->wpAnyH P md ops Q S b (DB (fun _=>true) M l0) (C5 d x M a) w):wpAnyH P md ops Q S (b+M.length) l0 a w:=
 zEy (fun i=>a.tmps.getD (d i) undef) e hn m g hF k c f (XT d a M).symm rfl l n
end
theorem yZ(d v1:Value)(a b c:Int)(w:World):(Instr.field 150 (.agg #[d,v1,.int .i64 a,.int .i64 b,.int .i64 c]) 0).run Tryz.prog w = .ok (.agg #[d,v1]) w:=by kernel_rfl
theorem zAo(C lo hi:Nat)(z0 z1 z2 Y u8:Value)(tm V id m:Int)(p q:A7)(x:Int×Int)(w:World)(N:BR w C z0 z1 (.int .i64 tm) (.int .i64 V) z2 Y (.int .i64 id) (.int .i64 m) u8)(O:DU w lo hi z0 z1 p)(hn:As p<=1048576)(Z:JA p x.1 x.2=⟨q,0,0,0⟩)(hm:0<=m)(fA:m<=1000000) :
 Calls Tryz.prog 51 #[.pointer (some ⟨C,0,none⟩),.agg #[.int .i64 x.1,.int .i64 x.2]] w fun e w'=>(∃v,e = .returned v)/\∃y0 y1,BR w' C y0 y1 (.int .i64 tm) (.int .i64 V) z2 Y (.int .i64 id) (.int .i64 (m+1)) u8/\CF w' w.heap.size w'.heap.size y0 y1 q/\AC (fun j=>j=C) w w':=by
 obtain⟨a0,c0,a1,c1,rfl,rfl⟩:=O.Bv;have eA:=N.1.lt;have r:=A9 w (.cells #[.int .i64 x.1,.int .i64 x.2] 40);have M:=A3 (Ad.new w (.int .i64 x.1) (.int .i64 x.2) 40);have L:=A3 (N.A1 r);have gA:IntKind.i64.wrap (m+1)=m+1:=by first | exact wrap_small (by omega) (by omega) | exact wrap_small _ (by omega) (by omega)
 have U:(w.alloc (.cells #[.int .i64 x.1,.int .i64 x.2] 40)).heap.size=w.heap.size+1:=World.size_alloc _ _;have f:=A3 (show ∀w',Below (w.alloc (.cells #[.int .i64 x.1,.int .i64 x.2] 40)).heap.size (w.alloc (.cells #[.int .i64 x.1,.int .i64 x.2] 40)) w'->Calls Tryz.prog 104 #[.agg #[.slice a0 p.n c0,.slice a1 p.hn c1],.agg #[.int .i64 x.1,.int .i64 x.2]] w' fun e B=>∃c d g i,e = .returned (.agg #[.slice c q.n d,.slice g q.hn i,.int .i64 0,.int .i64 0,.int .i64 0])/\CF B w'.heap.size B.heap.size (.slice c q.n d) (.slice g q.hn i) q/\Below w'.heap.size w' B from fun w' P=>by
  refine(zD9 _ _ lo hi p x.1 x.2 w' ((O.A1 r).A1 P) hn).mono ?_;rw[Z];rintro e w2 ⟨y0,y1,rfl,ho,Q⟩;obtain⟨c,d,g,i,rfl,rfl⟩:=ho.at.Bv;exact⟨c,d,g,i,rfl,ho,Q⟩)
 clear O Z N hn;go_enter Tryz.func51,Tryz.ntmps51;go_wp2_with fail;generalize w.alloc (.cells #[.int .i64 x.1,.int .i64 x.2] 40)=u at r M L U f ⊢;have s:Below u.heap.size u u.drew:=(Below.refl _ _).drew;have y:=A3 (show ∀w',Below u.drew.heap.size u.drew w'->(fun w':World=>w'.cell? ⟨w.heap.size,0,none⟩=some (.int .i64 x.1)/\w'.cell? ⟨w.heap.size,1,none⟩=some (.int .i64 x.2)) w' from fun w' hb=>by
  have h:=(M.out.A1 s).A1 hb;exact⟨h.1.1,h.2.1⟩)
 obtain⟨⟨x0,-⟩,⟨x1,-⟩,-⟩:=L.out.A1 s;refine wp_region_held_drew (S:=(fun w':World=>w'.cell? ⟨w.heap.size,0,none⟩=some (.int .i64 x.1)/\w'.cell? ⟨w.heap.size,1,none⟩=some (.int .i64 x.2))) (by kernel_rfl) (y.out _ (Below.refl _ _)) (fun hHeld=>?_);have t:=s;generalize u.drew=q0 at hHeld y x0 x1 s t ⊢;refine tk 0 (h:=tk 1 (h:=tk 2 (h:=tk 3 (h:=tk 4 (h:=tk 6 (h:=?_))))));refine rd [5] (rc (fun K hK=>?_) .nil);go_simp
 (try go_wp2_with fail)
 refine hK.out _ _ (y.out _ (Below.refl _ _)) ?_;clear hK K;intro hHeld
 try simp only[Act.put,s1,s2,s3]
 refine rd [7] (rc (fun K hK=>?_) .nil);go_simp;go_at_call 104;refine(f.out q0 t).mono ?_;rintro e D ⟨c,d,g,i,rfl,H,J⟩;have E:=A3 H;have l:Below u.heap.size u D:=A8 t J;have a:=A3 (L.out.A1 l);have o:=A3 (M.out.A1 l);clear H
 (try go_wp2_with fail)
 refine hK.out _ _ ⟨o.out.1.1,o.out.2.1⟩ ?_;clear hK K hHeld;intro hHeld
 try simp only[Act.put,s1,s2,s3]
 have T:=yZ (.slice c q.n d) (.slice g q.hn i) 0 0 0;refine tk 8 (h:=tk 9 (h:=tk 10 (h:=tk 11 (h:=?_))));refine rd [12] (rc (fun K hK=>?_) .nil);obtain⟨⟨t0,W⟩,⟨t1,X⟩,-⟩:=a.out;go_simp
 (try go_wp2_with fail)
 have I:=(AC.put D C 0 (.slice c q.n d)).trans (AC.put (D.setCell ⟨C,0,none⟩ (.slice c q.n d)) C 1 (.slice g q.hn i));have A:=o.out.AD I (fun h=>by omega);refine hK.out _ _ ⟨A.1.1,A.2.1⟩ ?_;clear hK K hHeld t0 W t1 X;intro hHeld
 try simp only[Act.put,s1,s2,s3]
 refine wpAnyH_done (by kernel_rfl) ?_ _;have b:=A3 (show BR ((D.setCell ⟨C,0,none⟩ (.slice c q.n d)).setCell ⟨C,1,none⟩ (.slice g q.hn i)) C (.slice c q.n d) (.slice g q.hn i) (.int .i64 tm) (.int .i64 V) z2 Y (.int .i64 id) (.int .i64 m) u8 from⟨(a.out.1.set _).other _ (Or.inr (by decide)),(a.out.2.1.other _ (Or.inr (by decide))).set _,(a.out.2.2.1.other _ (Or.inr (by decide))).other _ (Or.inr (by decide)),(a.out.2.2.2.1.other _ (Or.inr (by decide))).other _ (Or.inr (by decide)),(a.out.2.2.2.2.1.other _ (Or.inr (by decide))).other _ (Or.inr (by decide)),(a.out.2.2.2.2.2.1.other _ (Or.inr (by decide))).other _ (Or.inr (by decide)),(a.out.2.2.2.2.2.2.1.other _ (Or.inr (by decide))).other _ (Or.inr (by decide)),(a.out.2.2.2.2.2.2.2.1.other _ (Or.inr (by decide))).other _ (Or.inr (by decide)),(a.out.2.2.2.2.2.2.2.2.other _ (Or.inr (by decide))).other _ (Or.inr (by decide))⟩);have R:Below w.heap.size w D:=A8 r l;have G:=A3 (show AC (fun j=>j=C) w ((D.setCell ⟨C,0,none⟩ (.slice c q.n d)).setCell ⟨C,1,none⟩ (.slice g q.hn i))from(AC.CX R).trans I);have jA:=J.size;have iA:=t.size;have F:=A3 ((E.out.AD I (fun k e=>by omega)).wide (show w.heap.size<=q0.heap.size by omega) I.size);clear A I T a o E;generalize ((D.setCell ⟨C,0,none⟩ (.slice c q.n d)).setCell ⟨C,1,none⟩ (.slice g q.hn i))=w4 at b G F ⊢;obtain⟨y7,oA⟩:=b.out.2.2.2.2.2.2.2.1;go_wp2_with fail;have z:=AC.put w4 C 7 (.int .i64 (m+1));go_end0;refine⟨⟨_,rfl⟩,_,_,⟨b.out.1.other _ (Or.inr (by decide)),b.out.2.1.other _ (Or.inr (by decide)),b.out.2.2.1.other _ (Or.inr (by decide)),b.out.2.2.2.1.other _ (Or.inr (by decide)),b.out.2.2.2.2.1.other _ (Or.inr (by decide)),b.out.2.2.2.2.2.1.other _ (Or.inr (by decide)),b.out.2.2.2.2.2.2.1.other _ (Or.inr (by decide)),b.out.2.2.2.2.2.2.2.1.set _,b.out.2.2.2.2.2.2.2.2.other _ (Or.inr (by decide))⟩,?_,G.out.trans z⟩;exact(F.out.AD z (fun k e=>by omega)).wide (Nat.le_refl _) z.size
theorem zH(C lo hi n:Nat)(P:Nat->Prop)(z0 z1 z2 z3 u8 v:Value)(tm nx id m t:Int)(p:A7)(f g:Nat->Int)(w:World)(hv:Ay w lo hi v n f g)(z:C1 n f g)(ht:F2 t)(hH:CK p (BE f g t n))(hC:BR w C z0 z1 (.int .i64 tm) (.int .i64 nx) z2 z3 (.int .i64 id) (.int .i64 m) u8)(hP:Cg w P z0 z1 p)(jA:∀k,P k->C<k/\k<w.heap.size)(hm:0<=m)(lB:m<=900000) :
 Calls Tryz.prog 50 #[v,.int .i64 t,.func (.func 51) #[.pointer (some ⟨C,0,none⟩)] #[]] w fun e w'=>∃A y0 y1,e = .returned A/\B6 w' w.heap.size A (BS f g t n)/\BR w' C y0 y1 (.int .i64 tm) (.int .i64 nx) z2 z3 (.int .i64 id) (.int .i64 (m+((BE f g t n).length:Int))) u8/\Cg w' (fun j=>P j\/(w.heap.size<=j/\j<w'.heap.size)) y0 y1 (Ak p (BE f g t n))/\AC (fun j=>j=C) w w':=by
 have kB:=hC.1.lt;have U:(BE f g t n).length<=200:=by have:=Kr f g t n;have:=z.1;omega
 have W:=A3 (show Calls Tryz.prog 103 #[v,.int .i64 t] w fun e w'=>∃V A,e = .returned (.agg #[V,A])/\Ib (BE f g t n) (BS f g t n) w w' V A by
  refine(RX v n lo hi f g t w hv).mono ?_;rintro e G ⟨V,A,l,l',rfl,hy,ho,hr⟩;rw[hy.1 ⟨z,ht⟩,ho.1 ⟨z,ht⟩]at hr;exact⟨V,A,rfl,hr⟩)
 have HC:=A3 hC;have HP:=A3 hP;have HH:=A3 hH;obtain⟨-,av,cv,rfl,-,-⟩:=(show Ay w lo hi v n f g from hv);clear hv z ht hC hP hH;generalize BE f g t n=l at W HH U ⊢;generalize BS f g t n=l' at W ⊢;go_enter Tryz.func50,Tryz.ntmps50;go_wp2_with fail;refine W.out.mono ?_;clear W;rintro e G ⟨V,A,rfl,E,F,-,S⟩;obtain⟨Y,cy,rfl,-⟩:=C6 E;obtain⟨X,Z,rfl,-⟩:=C6 F;obtain⟨bo,o,T⟩:=E.own (by unfold maxLen;omega);have x:=A9 G (.cells #[.slice Y l.length cy,.slice X l'.length Z] 147);have HX:=A3 (Ad.new G (.slice Y l.length cy) (.slice X l'.length Z) 147);have y:=A8 S x;have H:=A3 (HC.out.A1 y);have K:=A3 (HP.out.A1 y);have D:=A3 (B6.A1 F x);have J:=A3 (o.A1 x);have gA:=A3 T;have pB:=S.size;have lA:(G.alloc (.cells #[.slice Y l.length cy,.slice X l'.length Z] 147)).heap.size=G.heap.size+1:=World.size_alloc _ _;obtain⟨⟨x0,-⟩,⟨x1,-⟩⟩:=HX.out;clear E F o T HC HP;go_wp2_with fail;clear x0 x1;generalize G.alloc (.cells #[.slice Y l.length cy,.slice X l'.length Z] 147)=w2 at x HX y H K D J lA ⊢
 go_loopw [16] (fun i wr=>∃(k:Nat) (y0 y1:Value),k<=l.length/\i = .int .i64 k/\BR wr C y0 y1 (.int .i64 tm) (.int .i64 nx) z2 z3 (.int .i64 id) (.int .i64 (m+(k:Int))) u8/\Cg wr (fun j=>P j\/(w.heap.size<=j/\j<wr.heap.size)) y0 y1 (Ak p (l.take k))/\AC (fun j=>j=C) w2 wr) (fun i _=>l.length - (intOf i).toNat)
 case atStart=>exact⟨0,_,_,Nat.zero_le _,rfl,by simpa using H.out,K.out.mono (fun j h=>Or.inl h),AC.refl _ _⟩
 case round=>
  obtain⟨k,y0,y1,hk,rfl,N,Q,u⟩:=hrel;have I:=A3 N;have B:=A3 Q;have b:=A3 u;have tB:=u.size;have hX:=HX.out.AD u (fun h=>by omega);obtain⟨⟨x0,-⟩,⟨x1,-⟩⟩:=hX;clear N Q u;by_cases s:k<l.length
  ·have cB:(k:Int)<(l.length:Int):=(by omega);have o:=J.out.AD b.out (fun h0 e=>by
    obtain⟨_,h,_⟩:=gA.out h0;omega)
   obtain⟨_,a,c,e1,_,hx⟩:=o;obtain⟨off,rfl,r⟩:=hx (by omega);simp only[Value.slice.injEq,true_and]at e1;obtain⟨rfl,rfl⟩:=e1;obtain⟨⟨q0,-⟩,⟨q1,-⟩⟩:=r k s;have hn:=HH.out.next s;have e0:l[k]=(AI l k,AK l k):=by
    unfold AI AK;rw[List.getD_eq_getElem?_getD,List.getElem?_eq_getElem s];rfl
   rw[e0]at hn;have HN:=A3 hn;clear hn e0 r hx;have d:=A9 wr (.cells #[.int .i64 (AI l k),.int .i64 (AK l k)] 40);obtain⟨⟨r0,-⟩,⟨r1,-⟩⟩:=Ad.new wr (.int .i64 (AI l k)) (.int .i64 (AK l k)) 40;go_wp2_with fail;have rB:=d.size;refine(zAo C 0 wr.heap.size y0 y1 z2 z3 u8 tm nx id (m+(k:Int)) (Ak p (l.take k)) (Ak p (l.take (k+1))) (AI l k,AK l k) _ (I.out.A1 d) (((B.out.at (lo:=0) (hi:=wr.heap.size) (fun j h=>⟨Nat.zero_le _,by
    rcases h with h | h
    ·have:=jA j h;omega
    ·omega⟩))).A1 d) (by have:=MK HN.out.2;omega) HN.out.1 (by omega) (by omega)).mono ?_
   rintro e w4 ⟨⟨ve,rfl⟩,t0,t1,M,O,R⟩;have dA:=A3 M;have eA:=A3 O;have L:=A3 R;clear r0 r1 q0 q1 x0 x1 M O R;go_wp2_with fail;go_roundw
   case rel=>
    have sB:=L.out.size;refine⟨k+1,t0,t1,by omega,by go_num,?_,eA.out.isIn (fun j h1 h2=>Or.inr ⟨by omega,h2⟩),b.out.trans ((AC.CX d).trans L.out)⟩;have e:m+((k+1:Nat):Int)=m+(k:Int)+1:=(by omega);rw[e];exact dA.out
   case measure=>simp[intOf];omega
  ·obtain rfl:k=l.length:=(by omega);go_wp2_with fail;rw[List.take_length]at B;go_ret;refine⟨_,y0,y1,rfl,?_,I.out,B.out,((AC.CX y).trans b.out)⟩;exact D.out.AD (row:=some C) ⟨b.out.os,b.out.tape,b.out.output,b.out.size,fun k hk hn=>b.out.block k hk (fun e=>hn (by rw[e]))⟩ (fun q hq e=>by
    injection e with e;have:=B6.lt D.out hq;omega)
theorem zBZ(v:Value)(s:AT)(w:World):(Instr.field 43 (.agg #[.int .i64 s.id,.string s.name,.string s.set,.int .i64 s.A5,.int .i64 s.time,.int .i64 s.rs,.int .i64 s.rb,v]) 4).run Tryz.prog w = .ok (.int .i64 s.time) w:=by kernel_rfl
theorem zBS(C lo hi:Nat)(z0 z1 z2 u u6 u7 u8:Value)(W:A4)(x:Int)(w:World)(h:BM w lo hi z0 z1 z2 u W)(q:BR w C z0 z1 (.int .i64 W.time) (.int .i64 W.next) z2 u u6 u7 u8)(hn:W.pn<=20)(i:GL W.pn W.A0)(r:EC W)(t:(Lit.int .i64 x).wf=true) :
 Calls Tryz.prog 48 #[.pointer (some ⟨C,0,none⟩),.int .i64 x] w fun e w'=>∃a c,e = .returned (BX (.slice a (AB W x).dn c) (AB W x))/\Below w.heap.size w w':=by
 have E:=A3 h;obtain⟨l0,O,l1,P,l2,Q,l3,R,rfl,rfl,rfl,rfl⟩:=h.Bv;have z:=A3 r;have l:=A3 i;have F:=A3 t;have j:=A9 w (.cells #[.int .i64 0,.string ⟨#[]⟩,.string ⟨#[]⟩,.int .i64 0,.int .i64 0,.int .i64 0,.int .i64 0,.slice none 0 0] 43);obtain⟨⟨x0,-⟩,⟨x1,-⟩,⟨x2,-⟩,⟨x3,-⟩,⟨x4,-⟩,⟨x5,-⟩,-⟩:=q.A1 j;have o:=A3 (CG.new w (.int .i64 0) (.string ⟨#[]⟩) (.string ⟨#[]⟩) (.int .i64 0) (.int .i64 0) (.int .i64 0) (.int .i64 0) (.slice none 0 0) 43);clear h r i t q;obtain⟨S,m⟩:∃S,S=AB W x:=⟨_,rfl⟩;rw[<-m];unfold BX;have D:=A3 m;clear m;go_enter Tryz.func48,Tryz.ntmps48;go_wp2_with fail;clear x0 x1 x2 x3 x4 x5;generalize w.alloc (.cells #[.int .i64 0,.string ⟨#[]⟩,.string ⟨#[]⟩,.int .i64 0,.int .i64 0,.int .i64 0,.int .i64 0,.slice none 0 0] 43)=W1 at j o ⊢;refine(Xq _ _ _ _ lo hi W W1 (E.out.A1 j) hn l.out).mono ?_;rintro e w2 ⟨A,rfl,p,f⟩;have y:=A3 p;clear p;go_wp2_with fail;refine(Ji lo hi W A x w2 y.out z.out F.out hn).mono ?_;rw[<-D.out];unfold BX;rintro e w3 ⟨a,c,rfl,n,g⟩;have s:=A8 (A8 j f) g;have d:=A3 ((o.out.A1 f).A1 g);clear n;obtain⟨⟨⟨r0,g0⟩,⟨r1,G⟩,⟨T,H⟩,⟨U,I⟩⟩,⟨V,J⟩,⟨X,K⟩,⟨Y,L⟩,⟨Z,M⟩⟩:=d.out;go_wp2_with fail;have b:=d.out.put (.int .i64 S.id) (.string S.name) (.string S.set) (.int .i64 S.A5) (.int .i64 S.time) (.int .i64 S.rs) (.int .i64 S.rb) (.slice a S.dn c);have N:=AC.put8 w3 w.heap.size (.int .i64 S.id) (.string S.name) (.string S.set) (.int .i64 S.A5) (.int .i64 S.time) (.int .i64 S.rs) (.int .i64 S.rb) (.slice a S.dn c);clear r0 g0 r1 G T H U I V J X K Y L Z M;refine bodyPost_ret (v:=.agg #[.int .i64 S.id,.string S.name,.string S.set,.int .i64 S.A5,.int .i64 S.time,.int .i64 S.rs,.int .i64 S.rb,.slice a S.dn c]) (by simp[results,Tryz.results48,go_sem,b.1.1.1,b.1.2.1.1,b.1.2.2.1.1,b.1.2.2.2.1,b.2.1.1,b.2.2.1.1,b.2.2.2.1.1,b.2.2.2.2.1]) rfl ⟨a,c,rfl,?_⟩
 ·exact s.trans (N.A1 (B:=w.heap.size) s.size (fun k e=>by omega))
end Go.Proofs.YtnfjcaoclahfjaaGreatDoor

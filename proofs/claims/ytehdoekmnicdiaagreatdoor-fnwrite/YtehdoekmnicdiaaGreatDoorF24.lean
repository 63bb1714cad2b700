/- A part of the proof. -/
import Derived.Test.YtehdoekmnicdiaaGreatDoorF23
import Derived.Stop.IfaceNil
set_option linter.unusedVariables false
set_option maxRecDepth 20000
set_option maxHeartbeats 4000000
namespace Go.Proofs.YtehdoekmnicdiaaGreatDoor
noncomputable section
open Go.RowKit
def S6(W:A4)(x:Int)(i:Nat):Prop:=i<W.pn/\(W.A2 i).A6=x/\(∀j,j<W.pn->j≠i->(W.A2 j).A6≠x)/\∀j,j<W.sn->(W.A1 j).A6≠x
def S7(W:A4)(x:Int)(i:Nat):Prop:=i<W.sn/\(W.A1 i).A6=x/\(∀j,j<W.sn->j≠i->(W.A1 j).A6≠x)/\∀j,j<W.pn->(W.A2 j).A6≠x
theorem MC{f:Nat->Int}{x:Int}:∀{n:Nat},Dn f x n=0->∀j,j<n->f j≠x
 | 0,_,j,hj=>absurd hj (Nat.not_lt_zero _)
 | n+1,h,j,hj=>by
  by_cases e:f n=x
  ·rw[VG e]at h;omega
  ·rw[Tz e]at h;by_cases a:j=n
   ·rw[a];exact e
   ·exact MC h j (by omega)
variable{f:Nat->Int}{i:Nat}
theorem VX{x:Int}{n:Nat}(hi:i<n)(h:f i=x):1<=Dn f x n:=by
 rcases Nat.eq_zero_or_pos (Dn f x n)with a | a
 ·exact absurd h (MC a i hi)
 ·exact a
theorem Qa{f:Nat->Int}{x:Int}:∀{n:Nat},Dn f x n=1->∃i,i<n/\f i=x/\∀j,j<n->j≠i->f j≠x
 | 0,h=>absurd h (by simp[Dn])
 | n+1,h=>by
  by_cases e:f n=x
  ·rw[VG e]at h;exact⟨n,by omega,e,fun j g a=>MC (n:=n) (by omega) j (by omega)⟩
  ·rw[Tz e]at h;obtain⟨i,hi,c,d⟩:=Qa h;refine⟨i,by omega,c,fun j g a=>?_⟩;by_cases b:j=n
   ·rw[b];exact e
   ·exact d j (by omega) a
variable{W:A4}
theorem zH1{x:Int}(h:Mu W x=1):(∃i,S6 W x i)\/∃i,S7 W x i:=by
 unfold Mu at h;rcases Nat.eq_zero_or_pos (Dn (fun i=>(W.A1 i).A6) x W.sn)with a | a
 ·rw[a,Nat.zero_add]at h;obtain⟨i,hi,b,c⟩:=Qa h;exact Or.inl ⟨i,hi,b,c,MC a⟩
 ·obtain⟨i,hi,b,c⟩:=Qa (f:=fun i=>(W.A1 i).A6) (x:=x) (n:=W.sn) (by omega);exact Or.inr ⟨i,hi,b,c,MC (f:=fun i=>(W.A2 i).A6) (n:=W.pn) (by omega)⟩
def sdY(W:A4)(g:Ae)(n:Nat)(f h:Nat->Int):List (Int×Int):=Bj f h (AI W g.A6).time n
def sdO(W:A4)(g:Ae)(n:Nat)(f h:Nat->Int):List (Int×Int):=C5 f h (AI W g.A6).time n
def sdD(W:A4)(g:Ae)(n:Nat)(f h:Nat->Int):List (Int×Int):=Bx g.dn g.ds g.db ++ sdO W g n f h
def N9(W:A4)(g s:Ae):Ae:={s with A6:=g.A6,dn:=(sdD W g s.dn s.ds s.db).length,ds:=AK (sdD W g s.dn s.ds s.db),db:=AM (sdD W g s.dn s.ds s.db)}
def Mq(W:A4)(g:Ae)(s:Ad):Ad:={s with A6:=g.A6,dn:=(sdD W g s.dn s.ds s.db).length,ds:=AK (sdD W g s.dn s.ds s.db),db:=AM (sdD W g s.dn s.ds s.db)}
def SY(W:A4)(k i:Nat):Nat->Ae:=fun j=>if j=i then N9 W (W.A2 k) (W.A2 i)else W.A2 j
def SZ(W:A4)(k i:Nat):Nat->Ad:=fun j=>if j=i then Mq W (W.A2 k) (W.A1 i)else W.A1 j
def IM(W:A4)(k i:Nat):List (Int×Int):=sdY W (W.A2 k) (W.A2 i).dn (W.A2 i).ds (W.A2 i).db
def GK(W:A4)(k i:Nat):List (Int×Int):=sdY W (W.A2 k) (W.A1 i).dn (W.A1 i).ds (W.A1 i).db
def zb(W:A4)(k i:Nat):A4:={W with pool:=BH W.pool (IM W k i),pn:=W.pn - 1,A2:=del (SY W k i) k}
def zd(W:A4)(k i:Nat):A4:={W with pool:=BH W.pool (GK W k i),A1:=SZ W k i,pn:=W.pn - 1,A2:=del W.A2 k}
theorem zDu{n:Nat}{g:Nat->Int}{x:Int×Int}(h:x∈Bx n f g):∃j,j<n/\f j=x.1/\g j=x.2:=by
 unfold Bx at h;obtain⟨j,a,rfl⟩:=List.mem_map.1 h;exact⟨j,List.mem_range.1 a,rfl,rfl⟩
theorem Xg(c:BE W)(hi:i<memN W)(t:Int):Cc (A8 W i).dn (A8 W i).ds (A8 W i).db/\CP W.pool (Bj (A8 W i).ds (A8 W i).db t (A8 W i).dn):=by
 have n:Df W i:=by
  by_cases r:i<W.pn
  ·exact c.dead i r
  ·have:=(c.A1 (i - W.pn) (by unfold memN at hi;omega)).2
   rwa [show W.pn+(i - W.pn)=i by omega]at this
 obtain⟨h,-,-,f⟩:=n;refine⟨h,?_⟩;have o:CP W.pool (Bx (A8 W i).dn (A8 W i).ds (A8 W i).db):=by
  refine⟨c.right,fun x s=>?_,?_⟩
  ·obtain⟨j,q,l,m⟩:=zDu s;have g:=IC.1 (f j q);rw[l,m]at g;unfold BX at g;have:=EE c.right (LU c.A2 (A8 W i).A6) (List.mem_filter.1 g).1;exact⟨this.1,this.2.2⟩
  ·unfold Bx;rw[List.map_map];unfold List.Nodup;rw[List.pairwise_map];refine List.pairwise_iff_getElem.2 fun a b p k d=>?_
   rw[List.length_range]at p k;rw[List.getElem_range,List.getElem_range];exact fun e=>h.2.2 b k a d e
 exact o.sub (MO _ _ _ _)
theorem R5{x:ByteArray}(h:BP W x):∃k,GS W x k:=by
 obtain⟨k,c,hn⟩:=h
 induction k using Nat.strongRecOn with
 | _ k ih=>
  by_cases e:∃j,j<k/\(W.A1 j).name=x
  ·obtain⟨j,a,b⟩:=e;exact ih j a (by omega) b
  ·exact⟨k,c,hn,fun j a b=>e ⟨j,a,b⟩⟩
variable{ei:Nat->Nat}
theorem FG.all{a b:Prop}{m:Nat}{Q:Nat->Prop}(h:FG W a b m Q ei none):∀j,j<m->Q j:=by
 rcases h with⟨_,e⟩ | ⟨_,_,e⟩ | ⟨_,_,_,k,d,_,_,e⟩ | ⟨_,_,_,c,_⟩
 ·cases e
 ·cases e
 ·cases e
 ·exact c
theorem YE(h:EG W)(x:Int):F4 (AI W x).time:=by
 by_cases c:∃k,Be W x k
 ·obtain⟨k,b⟩:=c;rw[Dv b];have a:=(h.2.2.2.2.2 k b.1).1;have d:=h.1;unfold Jc at d;exact⟨by have:=a.2.2.1;omega,by have:=a.2.2.2.1;omega⟩
 ·have e:AI W x=DH:=(by unfold AI;rw[dif_neg c]);rw[e];exact⟨by decide,by decide⟩
def zC7(W:A4)(name:ByteArray)(AA:Int)(data:ByteArray)(w:World)(e:Ending)(w':World):Prop:=∃r o,FG W (∃i,i<2/\8000<((fun i=>match i with | 0=>name | _=>data) i).size) (∃i,i<0/\¬Bp ((fun _=>⟨#[]⟩) i)) 1 (fun i=>match i with  | _=>BP W name) (fun i=>match i with  | _=>2) r/\(r=none->∃k,GS W name k/\o=Cm W k (CA W.pool (W.A1 k).rs (W.A1 k).rb AA data W.time))/\Iw (Et r o) w e w'
open Go.Extern.Stop Go.Stop Go.Extern
def Gx(w:World)(b:Nat)(p:Nat->Addr):Prop:=∀k,k<7->w.cell? ⟨b,k*2,none⟩=some (Ax (p k))/\w.cell? ⟨b,k*2+1,none⟩=some (.int .i64 (CZ k))
variable{p:Nat->Addr}
theorem Gx.A0{w w':World}{b:Nat}(h:Gx w b p)(t:Below w.heap.size w w'):Gx w' b p:=
 fun k a=>⟨(t.cell (AZ (h k a).1)).trans (h k a).1,(t.cell (AZ (h k a).2)).trans (h k a).2⟩
theorem Gx.new(p:Nat->Addr)(w:World):Gx (w.alloc (.cells (LC p) 162)) w.heap.size p:=
 fun k a=>⟨(Au (heap_alloc_new _ _) (Th p a).1).1,(Au (heap_alloc_new _ _) (Th p a).2).1⟩
theorem YM(p:Nat->Addr)(i:Nat)(hi:i<7)(w:World)(h:DC w p):Calls Tryz.prog 61 #[Ax (p i)] w fun e w'=>e = .returned (.int .i64 (CZ i))/\Below w.heap.size w w':=by
 have f:=AO h;clear h;have q:=AC w (.cells (LC p) 162);have m:=AO (Gx.new p w);go_enter Tryz.func61,Tryz.ntmps61;go_wp2_with fail;refine(Z9 p _ f.out).mono ?_;rintro e B ⟨rfl,rfl⟩;go_wp2
 go_loopw [7] (fun t wr=>∃k:Nat,k<=i/\t = .int .i64 k/\Gx wr w.heap.size p/\Below w.heap.size w wr) (fun i _=>7 - (intOf i).toNat)
 case atStart=>exact⟨0,Nat.zero_le _,rfl,m.out,q⟩
 case round=>
  obtain⟨k,A,rfl,g,r⟩:=hrel;have s:(k:Int)<7:=(by omega);obtain⟨u,q1⟩:=g k (by omega);have j:=AO g;clear g;have hn:=AC wr (.cells #[Ax (p k),.int .i64 (CZ k)] 162);have a:=A7 r hn;have b:=AO (j.out.A0 hn);have y:(wr.alloc (.cells #[Ax (p k),.int .i64 (CZ k)] 162)).cell? ⟨wr.heap.size,0,none⟩=some (Ax (p k)):=(Au (heap_alloc_new _ _) rfl).1;have z:(wr.alloc (.cells #[Ax (p k),.int .i64 (CZ k)] 162)).cell? ⟨wr.heap.size,1,none⟩=some (.int .i64 (CZ k)):=(Au (heap_alloc_new _ _) rfl).1;go_wp2_with fail;generalize wr.alloc (.cells #[Ax (p k),.int .i64 (CZ k)] 162)=W5 at y z hn a b ⊢;clear u q1;by_cases l:k=i
  ·subst l;refine(zG8 (p k) _).mono ?_;rintro e x ⟨rfl,rfl⟩;go_wp2;go_ret;exact⟨rfl,a⟩
  ·obtain⟨n,v,c⟩:=(f.out.A0 a).row i hi;obtain⟨o,tb,d⟩:=(f.out.A0 a).row k (by omega);refine(zF1 (p i) (p k) n o v tb _ (f.out.ne i k hi (by omega) (Ne.symm l)) c d).mono ?_;rintro e x ⟨rfl,rfl⟩;clear c d;go_wp2;go_roundw
   case rel=>exact⟨k+1,by omega,by go_num,b.out,a⟩
   case measure=>simp[intOf];omega
theorem zGj{k:Nat}(a:k<7)(hi:i<7)(h:k≠i):CZ k≠CZ i:=by
 revert h;revert k;revert i;decide
theorem zEe(k:Nat):CZ k≠0:=by unfold CZ;split<;>decide
def Ia(p:Nat->Addr)(o:Bk)(C:Nat)(w:World)(e:Ending)(w':World):Prop:=
 (∃v,e = .returned v)/\Below C w w'/\C<w'.heap.size/\((o.code=0/\∃z0 z1 z2 z3,Bd w' C z0 z1 (.int .i64 o.world.time) (.int .i64 o.world.next) z2 z3 (.int .i64 o.id) (.int .i64 o.many) .nilIface/\EY w' (C+1) w'.heap.size z0 z1 z2 z3 o.world)\/(∃i,i<7/\o=BQ (CZ i)/\∃z0 z1 z2 z3 z4 z5 z6 z7,Bd w' C z0 z1 z2 z3 z4 z5 z6 z7 (Ax (p i))))
theorem qZ(p:Nat->Addr)(tv nv qv:Value)(E:Nat)(l:Array Value)(H G m:Nat)(tx nx:Nat->ByteArray)(g:Nat->Nat)(lb:Nat->Array Value)(ei:Nat->Nat)(Q:Nat->Prop)(o:Bk)(v0 v1 v2 v3:Value)(lo hi:Nat)(W:A4)(w:World)(hE:DC w p)(h:CE w lo hi v0 v1 v2 v3 W)(iE:G7 W)(b1:An W.pool<=1048576)(b2:W.sn<=1048576)(b3:W.pn<=1048576)(b4:JX W)
 (ht:Du w tv H tx) (hn:Du w nv G nx) (hq:Iu w p qv m g lb ei) (rC:∀i,i<m->ei i<7) (eg:∀i,i<m->Enters Tryz.prog (g i)) (ed:Enters Tryz.prog E)
 (hQ:∀i,i<m->∀w',Below w.heap.size w w'->D3 W->(∀j,j<i->Q j)->Calls Tryz.prog (g i) (#[Cn v0 v1 v2 v3 W] ++ lb i) w' fun e oE=>AL (Q i) e/\Below w'.heap.size w' oE)
 (hD:∀C w' z0 z1 z2 z3,w.heap.size<=C->Below w.heap.size w w'->C<w'.heap.size->D3 W->(¬∃i,i<H/\8000<(tx i).size)->(¬∃i,i<G/\¬Bp (nx i))->(∀j,j<m->Q j)->DA w' (C+1) w'.heap.size z0 z1 z2 z3 W->Bd w' C z0 z1 (.int .i64 W.time) (.int .i64 W.next) z2 z3 (.int .i64 0) (.int .i64 0) .nilIface->Calls Tryz.prog E (#[.pointer (some ⟨C,0,none⟩)] ++ l) w' (Ia p o C w')) :
 Calls Tryz.prog 28 #[.agg #[tv,nv,qv,.func (.func E) #[] l],Cn v0 v1 v2 v3 W] w fun e w'=>∃r,FG W (∃i,i<H/\8000<(tx i).size) (∃i,i<G/\¬Bp (nx i)) m Q ei r/\Iw (Et r o) w e w':=by
 have Hp:=AO h;have HE:=AO hE;have Ht:=AO ht;have Hn:=AO hn;have Hq:=AO hq;have HQ:=AO hQ;have lD:=AO hD;have Hg:=AO eg;have oD:=AO ed;have pD:=AO rC;obtain⟨t1,ta,tc,rfl,-⟩:=ht;obtain⟨n1,na,nc,rfl,-⟩:=hn;obtain⟨m1,qa,qc,rfl,-⟩:=hq;clear h hE hQ eg hD ed rC;have pC:=AC w (.cells #[.slice ta H tc,.slice na G nc,.slice qa m qc,.func (.func E) #[] l] 77);have bB:=AC (w.alloc (.cells #[.slice ta H tc,.slice na G nc,.slice qa m qc,.func (.func E) #[] l] 77)) (.cells #[v0,v1,.int .i64 W.time,.int .i64 W.next,v2,v3] 30);have f:=AC ((w.alloc (.cells #[.slice ta H tc,.slice na G nc,.slice qa m qc,.func (.func E) #[] l] 77)).alloc (.cells #[v0,v1,.int .i64 W.time,.int .i64 W.next,v2,v3] 30)) (.cells #[.slice none 0 0,.slice none 0 0,.int .i64 0,.int .i64 0,.slice none 0 0,.slice none 0 0,.int .i64 0,.int .i64 0,.int .i64 0] 34);have U:=A7 (A7 pC bB) f;have hd:=((JF.new w (.slice ta H tc) (.slice na G nc) (.slice qa m qc) (.func (.func E) #[] l) 77).A0 bB).A0 f;have hx:=(As.new (w.alloc (.cells #[.slice ta H tc,.slice na G nc,.slice qa m qc,.func (.func E) #[] l] 77)) (v0) (v1) (.int .i64 W.time) (.int .i64 W.next) (v2) (v3) 30).A0 f;have hr:=Bd.new ((w.alloc (.cells #[.slice ta H tc,.slice na G nc,.slice qa m qc,.func (.func E) #[] l] 77)).alloc (.cells #[v0,v1,.int .i64 W.time,.int .i64 W.next,v2,v3] 30)) (.slice none 0 0) (.slice none 0 0) (.int .i64 0) (.int .i64 0) (.slice none 0 0) (.slice none 0 0) (.int .i64 0) (.int .i64 0) (.int .i64 0) 34;rw[World.size_alloc]at hx;rw[World.size_alloc,World.size_alloc]at hr;have hz:w.heap.size+3<=(((w.alloc (.cells #[.slice ta H tc,.slice na G nc,.slice qa m qc,.func (.func E) #[] l] 77)).alloc (.cells #[v0,v1,.int .i64 W.time,.int .i64 W.next,v2,v3] 30)).alloc (.cells #[.slice none 0 0,.slice none 0 0,.int .i64 0,.int .i64 0,.slice none 0 0,.slice none 0 0,.int .i64 0,.int .i64 0,.int .i64 0] 34)).heap.size:=by rw[World.size_alloc,World.size_alloc,World.size_alloc];omega
 have HD:=AO hd;have HX:=AO hx;have R:=AO hr;clear hd hx hr;have gE:=fun (w:World) (a:Addr)=>run_store Tryz.prog w a (.func (.func E) #[] l) .plain rfl
 obtain⟨⟨d0,-⟩,⟨d1,-⟩,⟨d2,-⟩,⟨d3,-⟩⟩:=HD.out;obtain⟨x0,x1,x2,x3,x4,x5⟩:=HX.out.c;go_enter Tryz.func28,Tryz.ntmps28;go_wp2_with fail;clear d0 d1 d2 d3 x0 x1 x2 x3 x4 x5 gE;generalize (((w.alloc (.cells #[.slice ta H tc,.slice na G nc,.slice qa m qc,.func (.func E) #[] l] 77)).alloc (.cells #[v0,v1,.int .i64 W.time,.int .i64 W.next,v2,v3] 30)).alloc (.cells #[.slice none 0 0,.slice none 0 0,.int .i64 0,.int .i64 0,.slice none 0 0,.slice none 0 0,.int .i64 0,.int .i64 0,.int .i64 0] 34))=W1 at U HD HX R hz ⊢;clear pC bB f;refine(zBX p _ _ _ _ H G m tx nx g lb ei Q _ _ _ _ lo hi W W1 (HE.out.A0 U) (Hp.out.A0 U) iE (Ht.out.A0 U) (Hn.out.A0 U) (Hq.out.A0 U) Hg.out (fun i hi w' dE=>HQ.out i hi w' (A7 U dE))).mono ?_;rintro e S ⟨r,rfl,dA,f⟩;have z:=AO dA;have mC:=A7 U f;have aH:=f.size;have kD:=AO (HD.out.A0 f);have nD:=AO (HX.out.A0 f);have vB:=AO (R.out.A0 f);clear dA f U HD HX R;cases r with
 | some i=>
  have eB:i<7:=by
   rcases z.out with⟨_,e⟩ | ⟨_,_,e⟩ | ⟨_,_,_,k,hk,_,_,e⟩ | ⟨_,_,_,_,e⟩
   ·simp at e;omega
   ·simp at e;omega
   ·have:=pD.out k hk;simp at e;omega
   ·simp at e
  unfold SX;have s:=AC S (.cells #[.slice none 0 0,.slice none 0 0,.int .i64 0,.int .i64 0,.slice none 0 0,.slice none 0 0,.int .i64 0,.int .i64 0,Ax (p i)] 72);have D:=AO (Bd.new S (.slice none 0 0) (.slice none 0 0) (.int .i64 0) (.int .i64 0) (.slice none 0 0) (.slice none 0 0) (.int .i64 0) (.int .i64 0) (Ax (p i)) 72);have R:=AO (vB.out.A0 s);have A:=A7 mC s;obtain⟨-,-,-,-,-,-,-,-,⟨K,-⟩⟩:=D.out;go_wp2_with fail;clear K;generalize S.alloc (.cells #[.slice none 0 0,.slice none 0 0,.int .i64 0,.int .i64 0,.slice none 0 0,.slice none 0 0,.int .i64 0,.int .i64 0,Ax (p i)] 72)=W3 at D R A ⊢;generalize S.heap.size=C at D ⊢;clear s;obtain⟨-,-,-,-,-,-,-,-,⟨K,-⟩⟩:=D.out;go_wp2_with fail;refine(YM p i eB _ (HE.out.A0 A)).mono ?_;rintro e wz ⟨rfl,N⟩;have M:=A7 A N;have J:=AO (R.out.A0 N);clear K;obtain⟨⟨r0,g0⟩,⟨r1,g1⟩,⟨r2,g2⟩,⟨r3,g3⟩,⟨r4,g4⟩,⟨r5,g5⟩,⟨r6,g6⟩,⟨r7,g7⟩,⟨r8,g8⟩⟩:=J.out;go_wp2_with fail;have b:=J.out.put (.slice none 0 0) (.slice none 0 0) (.int .i64 0) (.int .i64 0) (.slice none 0 0) (.slice none 0 0) (.int .i64 0) (.int .i64 0) (.int .i64 (CZ i));have I:=AE.put9 wz (w.heap.size+1+1) (.slice none 0 0) (.slice none 0 0) (.int .i64 0) (.int .i64 0) (.slice none 0 0) (.slice none 0 0) (.int .i64 0) (.int .i64 0) (.int .i64 (CZ i));clear r0 r1 r2 r3 r4 r5 r6 r7 r8 g0 g1 g2 g3 g4 g5 g6 g7 g8;refine bodyPost_ret (v:=.agg #[.slice none 0 0,.slice none 0 0,.int .i64 0,.int .i64 0,.slice none 0 0,.slice none 0 0,.int .i64 0,.int .i64 0,.int .i64 (CZ i)]) (by simp[results,Tryz.results28,go_sem,b.1.1,b.2.1.1,b.2.2.1.1,b.2.2.2.1.1,b.2.2.2.2.1.1,b.2.2.2.2.2.1.1,b.2.2.2.2.2.2.1.1,b.2.2.2.2.2.2.2.1.1,b.2.2.2.2.2.2.2.2.1]) rfl ⟨some i,z.out,?_⟩;exact⟨_,_,_,_,rfl,TO,M.trans (I.A0 (B:=w.heap.size) M.size (fun k e=>by omega))⟩
 | none=>
  unfold SX;have s:=AC S (.cells #[.slice none 0 0,.slice none 0 0,.int .i64 0,.int .i64 0,.slice none 0 0,.slice none 0 0,.int .i64 0,.int .i64 0,.nilIface] 72);have D:=AO (Bd.new S (.slice none 0 0) (.slice none 0 0) (.int .i64 0) (.int .i64 0) (.slice none 0 0) (.slice none 0 0) (.int .i64 0) (.int .i64 0) (.nilIface) 72);have nA:=AO (vB.out.A0 s);have oA:=AO (nD.out.A0 s);have mA:=AO (kD.out.A0 s);have A:=A7 mC s;have tC:S.heap.size<(S.alloc (.cells #[.slice none 0 0,.slice none 0 0,.int .i64 0,.int .i64 0,.slice none 0 0,.slice none 0 0,.int .i64 0,.int .i64 0,.nilIface] 72)).heap.size:=(by rw[World.size_alloc];omega);obtain⟨-,-,-,-,-,-,-,-,⟨K,-⟩⟩:=D.out;obtain⟨x0,x1,x2,x3,x4,x5⟩:=oA.out.c;go_wp2_with fail;clear K x0 x1 x2 x3 x4 x5;generalize S.alloc (.cells #[.slice none 0 0,.slice none 0 0,.int .i64 0,.int .i64 0,.slice none 0 0,.slice none 0 0,.int .i64 0,.int .i64 0,.nilIface] 72)=W3 at D nA oA mA A tC ⊢;generalize tG:S.heap.size=C at D tC ⊢;clear s;refine(zDE _ _ _ _ lo hi W W3 (Hp.out.A0 A) b1 b2 b3 b4).mono ?_;rintro e w4 ⟨z0,z1,z2,z3,rfl,ho,F⟩;obtain⟨V,t,X,u,Y,x,Z,y,rfl,rfl,rfl,rfl⟩:=ho.form;have nC:=A7 A F;have bH:=F.size;have lA:=AO (D.out.A0 F);have aC:=AO (nA.out.A0 F);have tB:=AO (mA.out.A0 F);have Ho:=AO ho;clear ho D nA oA mA F;obtain⟨⟨c0,f0⟩,⟨c1,f1⟩,⟨c2,f2⟩,⟨c3,f3⟩,⟨c4,f4⟩,⟨c5,f5⟩,⟨c6,f6⟩,⟨c7,f7⟩,⟨K,f8⟩⟩:=lA.out;obtain⟨⟨d0,-⟩,⟨d1,-⟩,⟨d2,-⟩,⟨d3,-⟩⟩:=tB.out;have mF:C≠w.heap.size:=(by omega);have nF:w.heap.size≠C:=(by omega);have e0:∀(args:Array Value) (w:World),(callFunc E args).run Tryz.prog w = .ok (.enter E args) w:=oD.out;go_wp2_with fail;clear c0 c1 c2 c3 c4 c5 c6 c7 K f0 f1 f2 f3 f4 f5 f6 f7 f8 d0 d1 d2 d3 e0;have I:AE (fun k=>k=C) w4 ((((((w4.setCell ⟨C,0,none⟩ (.slice V W.pool.n t)).setCell ⟨C,1,none⟩ (.slice X W.pool.hn u)).setCell ⟨C,2,none⟩ (.int .i64 W.time)).setCell ⟨C,3,none⟩ (.int .i64 W.next)).setCell ⟨C,4,none⟩ (.slice Y W.sn x)).setCell ⟨C,5,none⟩ (.slice Z W.pn y)):=AE.put6 w4 C (.slice V W.pool.n t) (.slice X W.pool.hn u) (.int .i64 W.time) (.int .i64 W.next) (.slice Y W.sn x) (.slice Z W.pn y);have sA:Bd ((((((w4.setCell ⟨C,0,none⟩ (.slice V W.pool.n t)).setCell ⟨C,1,none⟩ (.slice X W.pool.hn u)).setCell ⟨C,2,none⟩ (.int .i64 W.time)).setCell ⟨C,3,none⟩ (.int .i64 W.next)).setCell ⟨C,4,none⟩ (.slice Y W.sn x)).setCell ⟨C,5,none⟩ (.slice Z W.pn y)) C (.slice V W.pool.n t) (.slice X W.pool.hn u) (.int .i64 W.time) (.int .i64 W.next) (.slice Y W.sn x) (.slice Z W.pn y) (.int .i64 0) (.int .i64 0) (.nilIface):=Bd.six lA.out (.slice V W.pool.n t) (.slice X W.pool.hn u) (.int .i64 W.time) (.int .i64 W.next) (.slice Y W.sn x) (.slice Z W.pn y);have aB:=aC.out.AD I (by omega);have tA:DA ((((((w4.setCell ⟨C,0,none⟩ (.slice V W.pool.n t)).setCell ⟨C,1,none⟩ (.slice X W.pool.hn u)).setCell ⟨C,2,none⟩ (.int .i64 W.time)).setCell ⟨C,3,none⟩ (.int .i64 W.next)).setCell ⟨C,4,none⟩ (.slice Y W.sn x)).setCell ⟨C,5,none⟩ (.slice Z W.pn y)) W3.heap.size w4.heap.size (.slice V W.pool.n t) (.slice X W.pool.hn u) (.slice Y W.sn x) (.slice Z W.pn y) W:=Ho.out.put6 C (.slice V W.pool.n t) (.slice X W.pool.hn u) (.int .i64 W.time) (.int .i64 W.next) (.slice Y W.sn x) (.slice Z W.pn y) (Or.inl (by omega));have rA:=nC.trans (I.A0 (B:=w.heap.size) nC.size (fun k e=>by omega));have kE:=I.size;generalize ((((((w4.setCell ⟨C,0,none⟩ (.slice V W.pool.n t)).setCell ⟨C,1,none⟩ (.slice X W.pool.hn u)).setCell ⟨C,2,none⟩ (.int .i64 W.time)).setCell ⟨C,3,none⟩ (.int .i64 W.next)).setCell ⟨C,4,none⟩ (.slice Y W.sn x)).setCell ⟨C,5,none⟩ (.slice Z W.pn y))=W5 at sA aB tA rA kE ⊢;have bC:=AO aB;clear aB I Ho lA aC tB;have P:(¬∃i,i<H/\8000<(tx i).size)/\D3 W/\(¬∃i,i<G/\¬Bp (nx i))/\(∀j,j<m->Q j):=by
   rcases z.out with⟨_,e⟩ | ⟨_,_,e⟩ | ⟨_,_,_,k,hk,_,_,e⟩ | ⟨h1,h2,h3,h4,e⟩
   ·cases e
   ·cases e
   ·cases e
   ·exact⟨h1,h2,h3,h4⟩
  refine(lD.out C W5 _ _ _ _ (by omega) rA (by omega) P.2.1 P.1 P.2.2.1 P.2.2.2 (tA.wide (by omega) (by omega)) sA).mono ?_;rintro e w6 ⟨⟨ve,rfl⟩,q,cH,cB⟩;have oC:Bd w6 (w.heap.size+1+1) (.slice none 0 0) (.slice none 0 0) (.int .i64 0) (.int .i64 0) (.slice none 0 0) (.slice none 0 0) (.int .i64 0) (.int .i64 0) (.int .i64 0):=by
   obtain⟨r0,r1,r2,r3,r4,r5,r6,r7,r8⟩:=bC.out;have d:w.heap.size+1+1<C:=(by omega);exact⟨r0.under q d,r1.under q d,r2.under q d,r3.under q d,r4.under q d,r5.under q d,r6.under q d,r7.under q d,r8.under q d⟩
  have R:=AO oC;have T:Below w.heap.size w w6:=rA.trans (q.mono (by omega));clear P sA tA bC oC;rcases cB with⟨O,z0,z1,z2,z3,L,vA⟩ | ⟨i,eB,ho,z0,z1,z2,z3,z4,z5,z6,z7,L⟩;rotate_left
  ·have D:=AO L;clear L;obtain⟨-,-,-,-,-,-,-,-,⟨K,-⟩⟩:=D.out;go_wp2_with fail;refine(YM p i eB _ (HE.out.A0 T)).mono ?_;rintro e wz ⟨rfl,N⟩;have M:=A7 T N;have J:=AO (R.out.A0 N);clear K;obtain⟨⟨r0,g0⟩,⟨r1,g1⟩,⟨r2,g2⟩,⟨r3,g3⟩,⟨r4,g4⟩,⟨r5,g5⟩,⟨r6,g6⟩,⟨r7,g7⟩,⟨r8,g8⟩⟩:=J.out;go_wp2_with fail;have b:=J.out.put (.slice none 0 0) (.slice none 0 0) (.int .i64 0) (.int .i64 0) (.slice none 0 0) (.slice none 0 0) (.int .i64 0) (.int .i64 0) (.int .i64 (CZ i));have I:=AE.put9 wz (w.heap.size+1+1) (.slice none 0 0) (.slice none 0 0) (.int .i64 0) (.int .i64 0) (.slice none 0 0) (.slice none 0 0) (.int .i64 0) (.int .i64 0) (.int .i64 (CZ i));clear r0 r1 r2 r3 r4 r5 r6 r7 r8 g0 g1 g2 g3 g4 g5 g6 g7 g8;refine bodyPost_ret (v:=.agg #[.slice none 0 0,.slice none 0 0,.int .i64 0,.int .i64 0,.slice none 0 0,.slice none 0 0,.int .i64 0,.int .i64 0,.int .i64 (CZ i)]) (by simp[results,Tryz.results28,go_sem,b.1.1,b.2.1.1,b.2.2.1.1,b.2.2.2.1.1,b.2.2.2.2.1.1,b.2.2.2.2.2.1.1,b.2.2.2.2.2.2.1.1,b.2.2.2.2.2.2.2.1.1,b.2.2.2.2.2.2.2.2.1]) rfl ⟨none,z.out,?_⟩;show Iw o w _ _;rw[ho];exact⟨_,_,_,_,rfl,TO,M.trans (I.A0 (B:=w.heap.size) M.size (fun k e=>by omega))⟩
  ·have Ho:=AO vA;obtain⟨n0,fB,n1,gB,n2,iB,n3,jB,rfl,rfl,rfl,rfl⟩:=vA.form;have D:=AO L;have pA:=AO O;clear L vA O;obtain⟨c0,c1,c2,c3,c4,c5,c6,c7,K⟩:=D.out.c;obtain⟨⟨r0,g0⟩,⟨r1,g1⟩,⟨r2,g2⟩,⟨r3,g3⟩,⟨r4,g4⟩,⟨r5,g5⟩,⟨r6,g6⟩,⟨r7,g7⟩,⟨r8,g8⟩⟩:=R.out;have oF:C≠w.heap.size+1+1:=(by omega);have pF:w.heap.size+1+1≠C:=(by omega);go_wp2_with fail;have b:=R.out.put (.slice n0 o.world.pool.n fB) (.slice n1 o.world.pool.hn gB) (.int .i64 o.world.time) (.int .i64 o.world.next) (.slice n2 o.world.sn iB) (.slice n3 o.world.pn jB) (.int .i64 o.id) (.int .i64 o.many) (.int .i64 0);have I:=AE.put9 w6 (w.heap.size+1+1) (.slice n0 o.world.pool.n fB) (.slice n1 o.world.pool.hn gB) (.int .i64 o.world.time) (.int .i64 o.world.next) (.slice n2 o.world.sn iB) (.slice n3 o.world.pn jB) (.int .i64 o.id) (.int .i64 o.many) (.int .i64 0);clear r0 r1 r2 r3 r4 r5 r6 r7 r8 g0 g1 g2 g3 g4 g5 g6 g7 g8 c0 c1 c2 c3 c4 c5 c6 c7 K;refine bodyPost_ret (v:=.agg #[.slice n0 o.world.pool.n fB,.slice n1 o.world.pool.hn gB,.int .i64 o.world.time,.int .i64 o.world.next,.slice n2 o.world.sn iB,.slice n3 o.world.pn jB,.int .i64 o.id,.int .i64 o.many,.int .i64 0]) (by simp[results,Tryz.results28,go_sem,b.1.1,b.2.1.1,b.2.2.1.1,b.2.2.2.1.1,b.2.2.2.2.1.1,b.2.2.2.2.2.1.1,b.2.2.2.2.2.2.1.1,b.2.2.2.2.2.2.2.1.1,b.2.2.2.2.2.2.2.2.1]) rfl ⟨none,z.out,?_⟩;show Iw o w _ _;have fE:=I.size;exact⟨_,_,_,_,by rw[<-pA.out],(Ho.out.AD I (fun k e=>by omega)).wide (by omega) fE,T.trans (I.A0 (B:=w.heap.size) T.size (fun k e=>by omega))⟩
theorem Im{j:Nat}(h:j≠i):(j == i)=false:=by simpa using h
def B4(d:Nat->Nat)(x:Nat->Value):List Nat->Act->Act
 | [],a=>a
 | i :: r,a=>B4 d x r (a.put (some (d i)) (x i))
theorem zFj(a:Act)(k:Nat)(u v:Value):(a.put (some k) u).put (some k) v=a.put (some k) v:=by
 unfold Act.put;simp[Array.setIfInBounds_setIfInBounds]
theorem zDq(a:Act){k j:Nat}(u v:Value)(h:k≠j):(a.put (some k) u).put (some j) v=(a.put (some j) v).put (some k) u:=
 Act.put_comm a u v (fun d e b=>h (by injection e with e;injection b with b;omega))
theorem X8(d:Nat->Nat)(x:Nat->Value)(k:Nat)(v:Value):∀(M:List Nat) (a:Act),(∀i∈M,d i≠k)->(B4 d x M a).put (some k) v=B4 d x M (a.put (some k) v)
 | [],_,_=>rfl
 | i :: r,a,h=>by
  show(B4 d x r (a.put (some (d i)) (x i))).put (some k) v=B4 d x r ((a.put (some k) v).put (some (d i)) (x i));rw[X8 d x k v r _ (fun j b=>h j (List.mem_cons_of_mem _ b)),zDq a _ _ (h i List.mem_cons_self)]
theorem Yg{d:Nat->Nat}{x y:Nat->Value}:∀{M:List Nat} {a:Act},(∀i∈M,x i=y i)->B4 d x M a=B4 d y M a
 | [],_,_=>rfl
 | i :: r,a,h=>by
  show B4 d x r (a.put (some (d i)) (x i))=B4 d y r (a.put (some (d i)) (y i));rw[h i List.mem_cons_self];exact Yg (fun j b=>h j (List.mem_cons_of_mem _ b))
def GL(x:Nat->Value)(i:Nat)(v:Value)(j:Nat):Value:=if j=i then v else x j
theorem X9(d:Nat->Nat)(x:Nat->Value)(i:Nat)(v:Value):∀(M:List Nat) (a:Act),i∈M->M.Pairwise (fun p q=>d p≠d q)->(B4 d x M a).put (some (d i)) v=B4 d (GL x i v) M a
 | [],_,h,_=>by cases h
 | j :: r,a,h,c=>by
  obtain⟨g,k⟩:=List.pairwise_cons.1 c;show(B4 d x r (a.put (some (d j)) (x j))).put (some (d i)) v=B4 d (GL x i v) r (a.put (some (d j)) (GL x i v j));by_cases e:j=i
  ·subst e;have b:∀p∈r,d p≠d j:=fun p c e=>g p c e.symm
   rw[X8 d x (d j) v r _ b,zFj];have f:GL x j v j=v:=(by unfold GL;rw[if_pos rfl]);rw[f];refine Yg (fun p c=>?_);unfold GL;rw[if_neg (fun e=>b p c (by rw[e]))]
  ·have f:GL x i v j=x j:=(by unfold GL;rw[if_neg e]);rw[f];rcases List.mem_cons.1 h with h | h
   ·exact absurd h.symm e
   ·exact X9 d x i v r _ h k
def D5(b:Nat->Bool):List Nat->Array Bool->Array Bool
 | [],l=>l
 | i :: r,l=>D5 b r (if b i then l.setIfInBounds i true else l)
def Ch(b:Nat->Bool)(i:Nat)(j:Nat):Bool:=j == i || b j
theorem Qt(b:Nat->Bool)(k:Nat):∀(M:List Nat) (l:Array Bool),(D5 b M l).setIfInBounds k true=D5 b M (l.setIfInBounds k true)
 | [],_=>rfl
 | i :: r,l=>by
  show(D5 b r (if b i then l.setIfInBounds i true else l)).setIfInBounds k true=D5 b r (if b i then(l.setIfInBounds k true).setIfInBounds i true else l.setIfInBounds k true);rw[Qt b k r];by_cases h:b i
  ·rw[if_pos h,if_pos h];by_cases e:i=k
   ·subst e;rfl
   ·rw[Array.setIfInBounds_comm _ _ e]
  ·rw[if_neg h,if_neg h]
theorem MX{b c:Nat->Bool}:∀{M:List Nat} {l:Array Bool},(∀i∈M,b i=c i)->D5 b M l=D5 c M l
 | [],_,_=>rfl
 | i :: r,l,h=>by
  show D5 b r (if b i then _ else _)=D5 c r (if c i then _ else _);rw[h i List.mem_cons_self];exact MX (fun j a=>h j (List.mem_cons_of_mem _ a))
theorem RV(b:Nat->Bool)(k:Nat):∀(M:List Nat) (l:Array Bool),k∈M->(D5 b M l).setIfInBounds k true=D5 (Ch b k) M l
 | [],_,h=>by cases h
 | i :: r,l,h=>by
  show(D5 b r (if b i then l.setIfInBounds i true else l)).setIfInBounds k true=D5 (Ch b k) r (if Ch b k i then l.setIfInBounds i true else l);by_cases e:i=k
  ·subst e;have a:Ch b i i=true:=(by unfold Ch;simp);rw[if_pos a,Qt];have f:(if b i then l.setIfInBounds i true else l).setIfInBounds i true=l.setIfInBounds i true:=by
    by_cases c:b i
    ·rw[if_pos c,Array.setIfInBounds_setIfInBounds]
    ·rw[if_neg c]
   rw[f];by_cases d:i∈r
   ·rw[<-RV b i r _ d,Qt,Array.setIfInBounds_setIfInBounds]
   ·refine MX (fun j g=>?_);unfold Ch;have:(j == i)=false:=Im fun e=>d (e▸g)
    rw[this,Bool.false_or]
  ·have a:Ch b k i=b i:=by
    unfold Ch;have:(i == k)=false:=Im e;rw[this,Bool.false_or]
   rw[a];rcases List.mem_cons.1 h with h | h
   ·exact absurd h.symm e
   ·exact RV b k r _ h
def PJ:List Nat->List (Nat->Bool)
 | []=>[fun _=>false]
 | i :: r=>(PJ r).flatMap fun b=>[b,Ch b i]
theorem Xy(c:Nat->Bool):∀M:List Nat,M.Nodup->∃b∈PJ M,(∀i∈M,b i=c i)/\∀i,i∉M->b i=false
 | [],_=>⟨_,List.mem_singleton.2 rfl,fun i h=>(by cases h),fun _ _=>rfl⟩
 | i :: r,hn=>by
  obtain⟨f,l⟩:=List.nodup_cons.1 hn;obtain⟨b,g,k,d⟩:=Xy c r l;by_cases e:c i
  ·refine⟨Ch b i,List.mem_flatMap.2 ⟨b,g,by simp⟩,fun j a=>?_,fun j a=>?_⟩
   ·unfold Ch;rcases List.mem_cons.1 a with rfl | a
    ·simp[e]
    ·have:(j == i)=false:=Im fun e=>f (e▸a)
     rw[this,Bool.false_or];exact k j a
   ·unfold Ch;have m:(j == i)=false:=Im fun e=>a (e▸List.mem_cons_self)
    rw[m,Bool.false_or];exact d j (fun h=>a (List.mem_cons_of_mem _ h))
  ·refine⟨b,List.mem_flatMap.2 ⟨b,g,by simp⟩,fun j a=>?_,fun j a=>?_⟩
   ·rcases List.mem_cons.1 a with rfl | a
    ·rw[d j f];simpa using e
    ·exact k j a
   ·exact d j (fun h=>a (List.mem_cons_of_mem _ h))
theorem Xf(b:Nat->Bool)(i:Nat):∀M:List Nat,M.Nodup->i∈M->b i=false->(M.countP fun j=>!b j)=(M.countP fun j=>!Ch b i j)+1
 | [],_,h,_=>by cases h
 | j :: r,hn,h,hbi=>by
  obtain⟨f,k⟩:=List.nodup_cons.1 hn;rw[List.countP_cons,List.countP_cons];rcases List.mem_cons.1 h with e | a
  ·subst e;have g:(r.countP fun j=>!b j)=r.countP fun j=>!Ch b i j:=by
    refine List.countP_congr fun p l=>?_
    unfold Ch;have:(p == i)=false:=Im fun e=>f (e▸l)
    rw[this,Bool.false_or]
   have c:Ch b i i=true:=(by unfold Ch;simp);rw[g,hbi,c];simp
  ·have d:(j == i)=false:=Im fun e=>f (e▸a)
   have c:Ch b i j=b j:=(by unfold Ch;rw[d,Bool.false_or]);have m:=Xf b i r k a hbi;rw[c];omega
def Pf(md:Region.Mode)(ops:Array Oper)(M:List Nat)(D:Nat->List Nat)(l0:Array Bool):Bool:=
 (PJ M).all fun b=>!(M.all fun i=>!b i || (D i).all b) || (M.all b || (!(Region.ready md ops (D5 b M l0)).isEmpty && (Region.ready md ops (D5 b M l0)).all fun i=>M.contains i && !b i && (D i).all b))
section
variable {P : Program} {md : Region.Mode} {ops : Array Oper} {Q : Exit -> Act -> World -> Prop} {S G : World -> Prop}
variable{M:List Nat}{D:Nat->List Nat}{d:Nat->Nat}{F:Nat->Value->World->Prop}{l0:Array Bool}
theorem zDd{a0:Act}{l:Nat}
 (A:Pf md ops M D l0=true) (hn:M.Nodup) (hd:M.Pairwise (fun p q=>d p≠d q)) (o:∀i∈M,∀j∈D i,j∈M)
 (hF:∀i v w w',F i v w->Below w.heap.size w w'->F i v w') (Z:∀w w',G w->Below w.heap.size w w'->G w')
 (s:∀i∈M,∀x w,S w->G w->(∀j∈D i,F j (x j) w)->∀K:Act->World->Prop,Shut (∀J v w',J=(B4 d x M a0).put (some (d i)) v->S w'->F i v w'->Below w.heap.size w w'->K J w')->wpOp P ops Q i K (B4 d x M a0) w)
 (B:∀x w,S w->G w->(∀i∈M,F i (x i) w)->wpAnyH P md ops Q S l (D5 (fun _=>true) M l0) (B4 d x M a0) w) :
 ∀(n:Nat) (b:Nat->Bool),(M.countP fun i=>!b i)=n->(∀i∈M,b i=true->∀j∈D i,b j=true)->∀x w,S w->G w->(∀i∈M,b i=true->F i (x i) w)->wpAnyH P md ops Q S (l+n) (D5 b M l0) (B4 d x M a0) w:=by
 intro n
 induction n with
 | zero=>
  intro b Y O x w N H E;have m:∀i∈M,b i=true:=fun i hi=>by
   have:=(List.countP_eq_zero.1 Y) i hi;simpa using this
  rw[MX (c:=fun _=>true) m];exact B x w N H (fun i hi=>E i hi (m i hi))
 | succ n ih=>
  intro b Y O x w N H E;obtain⟨c,U,f,bA⟩:=Xy b M hn;have C:=List.all_eq_true.1 A c U;have T:(M.all fun i=>!c i || (D i).all c)=true:=List.all_eq_true.2 fun i hi=>by
   rw[f i hi];by_cases e:b i=true
   ·have:(D i).all c=true:=List.all_eq_true.2 fun j k=>by rw[f j (o i hi j k)];exact O i hi e j k
    rw[this];simp
   ·have:b i=false:=(by simpa using e);rw[this];rfl
  have V:(M.all c)=false:=by
   cases h:M.all c with
   | false=>rfl
   | true=>
    have X:(M.countP fun i=>!b i)=0:=List.countP_eq_zero.2 fun i hi=>by rw[<-f i hi,List.all_eq_true.1 h i hi];simp
    omega
  rw[T,V]at C;simp only[Bool.not_true,Bool.false_or,Bool.and_eq_true]at C;rw[MX (c:=c) (fun i hi=>(f i hi).symm)];refine⟨fun X=>?_,fun i hi=>?_⟩
  ·rw[X]at C;simp at C
  ·have I:=List.all_eq_true.1 C.2 i hi;simp only[Bool.and_eq_true,Bool.not_eq_true']at I;have g:i∈M:=(by simpa using I.1.1);have R:b i=false:=(by rw[<-f i g];exact I.1.2);have t:∀j∈D i,b j=true:=fun j k=>by rw[<-f j (o i g j k)];exact List.all_eq_true.1 I.2 j k
   refine s i g x w N H (fun j k=>E j (o i g j k) (t j k)) _ ?_;intro J v w' ha u L y;refine⟨u,?_⟩;rw[ha,X9 d x i v M a0 g hd,RV c i M l0 g];have z:∀j∈M,Ch c i j=Ch b i j:=fun j k=>by unfold Ch;rw[f j k]
   rw[MX (c:=Ch b i) z];refine ih (Ch b i) ?_ ?_ (GL x i v) w' u (Z w w' H y) ?_
   ·have h1:(M.countP fun j=>!b j)=(M.countP fun j=>!Ch b i j)+1:=Xf b i M hn g R;omega
   ·intro p W a j k;unfold Ch at a ⊢;by_cases e:p=i
    ·subst e;rw[t j k];simp
    ·have r:(p == i)=false:=Im e;rw[r,Bool.false_or]at a;rw[O p W a j k];simp
   ·intro p W a;unfold GL;by_cases e:p=i
    ·subst e;rw[if_pos rfl];exact L
    ·rw[if_neg e];unfold Ch at a;have r:(p == i)=false:=Im e;rw[r,Bool.false_or]at a;exact hF p _ w w' (E p W a) y
variable{w:World}
theorem zEz{a0:Act}{c:Nat}(n:Nat->Value)
 (e:Pf md ops M D l0=true) (hn:M.Nodup) (m:M.Pairwise (fun p q=>d p≠d q)) (k:∀i∈M,∀j∈D i,j∈M)
 (hF:∀i v w w',F i v w->Below w.heap.size w w'->F i v w') (o:∀w w',G w->Below w.heap.size w w'->G w')
 (b:∀i∈M,∀x w,S w->G w->(∀j∈D i,F j (x j) w)->∀K:Act->World->Prop,Shut (∀l v w',l=(B4 d x M a0).put (some (d i)) v->S w'->F i v w'->Below w.heap.size w w'->K l w')->wpOp P ops Q i K (B4 d x M a0) w)
 (g:∀x w,S w->G w->(∀i∈M,F i (x i) w)->wpAnyH P md ops Q S c (D5 (fun _=>true) M l0) (B4 d x M a0) w)
 {a:Act} {f:Nat} (t:a=B4 d n M a0) (u:f=c+M.length) (s:S w) (y:G w):wpAnyH P md ops Q S f l0 a w:=by
 subst t u;have e0:D5 (fun _=>false) M l0=l0:=by
  clear e hn m k b g
  induction M with
  | nil=>rfl
  | cons i r ih=>exact ih
 have:=zDd (P:=P) (Q:=Q) e hn m k hF o b g M.length (fun _=>false) (by simp[List.countP_true]) (fun i hi h=>by cases h) n w s y (fun i hi h=>by cases h)
 rwa [e0]at this
theorem zFk(a:Act)(k:Nat):a.put (some k) (a.tmps.getD k undef)=a:=by
 unfold Act.put;have:a.tmps.setIfInBounds k (a.tmps.getD k undef)=a.tmps:=by
  refine Array.ext_getElem? fun j=>?_
  rw[Array.getElem?_setIfInBounds];by_cases e:k=j
  ·subst e;by_cases h:k<a.tmps.size
   ·simp[h,Array.getD]
   ·simp[h]
  ·simp[e]
 cases a;simp only[this]
theorem Xz(d:Nat->Nat)(a:Act):∀M:List Nat,B4 d (fun i=>a.tmps.getD (d i) undef) M a=a
 | []=>rfl
 | i :: r=>by
  show B4 d _ r (a.put (some (d i)) (a.tmps.getD (d i) undef))=a;rw[zFk];exact Xz d a r
theorem OM(M:List Nat)(D:Nat->List Nat)(d:Nat->Nat)(F:Nat->Value->World->Prop)(b:Nat){a:Act}
 (e:Pf md ops M D l0=true) (hn:M.Nodup) (m:M.Pairwise (fun p q=>d p≠d q)) (g:∀i∈M,∀j∈D i,j∈M)
 (hF:∀i v w w',F i v w->Below w.heap.size w w'->F i v w') (k:∀w w',G w->Below w.heap.size w w'->G w') (l:S w) (n:G w)
 (c:∀i∈M,∀x w,S w->G w->(∀j∈D i,F j (x j) w)->∀K:Act->World->Prop,Shut (∀h v w',h=(B4 d x M a).put (some (d i)) v->S w'->F i v w'->Below w.heap.size w w'->K h w')->wpOp P ops Q i K (B4 d x M a) w)
 (f:∀x w,S w->G w->(∀i∈M,F i (x i) w)->wpAnyH P md ops Q S b (D5 (fun _=>true) M l0) (B4 d x M a) w):wpAnyH P md ops Q S (b+M.length) l0 a w:=
 zEz (fun i=>a.tmps.getD (d i) undef) e hn m g hF k c f (Xz d a M).symm rfl l n
end
def FS(w:World)(lb:Array Value)(caps:List Value):Prop:=lb.size=caps.length/\∀(k:Nat) (u:Value),caps[k]?=some u->∃B,lb[k]?=some (.pointer (some ⟨B,0,none⟩))/\w.cell? ⟨B,0,none⟩=some u
variable{w w':World}{lb:Array Value}{caps:List Value}
theorem FS.A0(h:FS w lb caps)(t:Below w.heap.size w w'):FS w' lb caps:=
 ⟨h.1,fun k u c=>by
  obtain⟨B,b,a⟩:=h.2 k u c;exact⟨B,b,(t.cell (AZ a)).trans a⟩⟩
theorem FS.one{B:Nat}{u:Value}(h:w.cell? ⟨B,0,none⟩=some u):FS w #[.pointer (some ⟨B,0,none⟩)] [u]:=
 ⟨rfl,fun k x a=>by
  match k,a with
  | 0,a=>simp at a;subst a;exact⟨B,rfl,h⟩
  | k+1,a=>simp at a⟩
theorem FS.is1{u:Value}(h:FS w lb [u]):∃B,lb=#[.pointer (some ⟨B,0,none⟩)]/\w.cell? ⟨B,0,none⟩=some u:=by
 obtain⟨B,a,b⟩:=h.2 0 u rfl;refine⟨B,?_,b⟩;have hs:=h.1;obtain⟨l⟩:=lb
 match l,hs,a with
 | [x],_,a=>simp at a;rw[a]
def QAt(w:World)(p:Nat->Addr)(g i:Nat)(caps:List Value)(v:Value):Prop:=∃lb,v = .agg #[.func (.func g) #[] lb,Ax (p i)]/\FS w lb caps
theorem QAt.A0{g:Nat}{v:Value}(h:QAt w p g i caps v)(t:Below w.heap.size w w'):QAt w' p g i caps v:=by
 obtain⟨b,hv,a⟩:=h;exact⟨b,hv,a.A0 t⟩
variable{s:ByteArray}{t:TypeId}{f:Nat->ByteArray}
theorem zEB(hs:s.size<=maxLen)(a:f 0=s):Du (w.alloc (.cells #[.string s] t)) (.slice (some ⟨w.heap.size,0,none⟩) 1 1) 1 f:=by
 refine⟨by omega,_,_,rfl,fun i hi=>?_,fun _=>⟨_,_,rfl,fun i hi=>?_⟩⟩
 ·obtain rfl:i=0:=(by omega);rw[a];exact hs
 ·obtain rfl:i=0:=(by omega);rw[a];exact World.cell?_alloc_at _ _ _ _ rfl
theorem zEC{u:ByteArray}(hs:s.size<=maxLen)(c:u.size<=maxLen)(a:f 0=s)(b:f 1=u):Du (w.alloc (.cells #[.string s,.string u] t)) (.slice (some ⟨w.heap.size,0,none⟩) 2 2) 2 f:=by
 refine⟨by omega,_,_,rfl,fun i hi=>?_,fun _=>⟨_,_,rfl,fun i hi=>?_⟩⟩
 ·rcases(by omega:i=0\/i=1)with rfl | rfl
  ·rw[a];exact hs
  ·rw[b];exact c
 ·rcases(by omega:i=0\/i=1)with rfl | rfl
  ·rw[a];exact World.cell?_alloc_at _ _ _ _ rfl
  ·rw[b];exact World.cell?_alloc_at _ _ _ _ rfl
def Ih(w:World)(p:Nat->Addr)(m:Nat)(g ei:Nat->Nat)(caps:Nat->List Value)(v:Value):Prop:=∃lb:Nat->Array Value,Iu w p v m g lb ei/\∀k,k<m->FS w (lb k) (caps k)
variable{g:Nat->Nat}{caps:Nat->List Value}
theorem Ih.A0{m:Nat}{v:Value}(h:Ih w p m g ei caps v)(t:Below w.heap.size w w'):Ih w' p m g ei caps v:=by
 obtain⟨d,a,b⟩:=h;exact⟨d,a.A0 t,fun k c=>(b k c).A0 t⟩
theorem Zq{a:Array Value}(c:FS w a (caps 0)):Ih (w.alloc (.cells #[.func (.func (g 0)) #[] a,Ax (p (ei 0))] t)) p 1 g ei caps (.slice (some ⟨w.heap.size,0,none⟩) 1 1):=by
 have b:=AC w (.cells #[.func (.func (g 0)) #[] a,Ax (p (ei 0))] t);refine⟨(fun i=>match i with  | _=>a),⟨by omega,_,_,rfl,fun _=>⟨_,_,rfl,fun i hi=>?_⟩⟩,fun i hi=>?_⟩
 ·obtain rfl:i=0:=(by omega);exact⟨World.cell?_alloc_at _ _ _ _ rfl,World.cell?_alloc_at _ _ _ _ rfl⟩
 ·obtain rfl:i=0:=(by omega);exact c.A0 b
theorem zB1(k v1 l m:Value)(lo hi:Nat)(W:A4)(name:ByteArray)(w:World)(h:CE w lo hi k v1 l m W)(y:W.sn<=8)(z:name.size<=maxLen) :
 Calls Tryz.prog 46 #[Cn k v1 l m W,.string name] w fun e w'=>AL (BP W name) e/\Below w.heap.size w w':=by
 have J:=A3 h;clear h;have u:=AC w (.cells #[k,v1,.int .i64 W.time,.int .i64 W.next,l,m] 30);obtain⟨N,O,P,Q,R,S⟩:=(As.new w (k) (v1) (.int .i64 W.time) (.int .i64 W.next) (l) (m) 30).c;go_enter Tryz.func46,Tryz.ntmps46;go_wp2_with fail;clear N O P Q R S;generalize w.alloc (.cells #[k,v1,.int .i64 W.time,.int .i64 W.next,l,m] 30)=W0 at u ⊢;refine(ZQ k v1 l m lo hi W W0 (J.out.A0 u) y).mono ?_;rintro e I ⟨vd,rfl,g,t,r⟩;have s:∀i,i<W.sn->∃a n c,vd i = .slice a n c:=fun i hi'=>by
  obtain⟨_,K,L,hv,_⟩:=t i hi';exact⟨K,_,L,hv⟩
 obtain⟨F,B,C,D,E,G,H,sc,q⟩:=XH s name;have o:=A3 q;have d:=A3 (UB (W:=W) (vd:=vd));have j:=A3 g;have f:=A3 (Q2 z);have p:=A7 u r;clear g t s r u q;obtain⟨M,A⟩:∃M,M=W0.heap.size+1:=⟨_,rfl⟩;rw[<-A]at j ⊢;clear A;by_cases b:BP W name
 ·skip;have v:=A3 (show Maps.has (putD (fun i=>DK (W.A1 i).name) (fun i=>Fq (vd i) (W.A1 i)) W.sn) (DK name)=true from(d.out name).2 b);have x:=A3 b;clear b;go_wp2_with (first
   | (at_lookup;refine PA _ rfl _ _ 157 rfl 9 41 Mf LI (Nk _) M W.sn _ rfl j.out _ _ rfl f.out _ o.out true v.out ?_)
   | go_in)
  go_ret;exact⟨AL.yes x.out,A7 p (AC I (.cells #[.string F,.int .i64 B,.int .i64 C,.int .i64 D,.int .i64 E,.slice G H sc] 41))⟩
 ·skip;have v:=A3 (show Maps.has (putD (fun i=>DK (W.A1 i).name) (fun i=>Fq (vd i) (W.A1 i)) W.sn) (DK name)=false from by rw[Bool.eq_false_iff];exact fun h=>b ((d.out name).1 h));have x:=A3 b;clear b;go_wp2_with (first
   | (at_lookup;refine PA _ rfl _ _ 157 rfl 9 41 Mf LI (Nk _) M W.sn _ rfl j.out _ _ rfl f.out _ o.out false v.out ?_)
   | go_in)
  go_ret;exact⟨AL.no x.out,A7 p (AC I (.cells #[.string F,.int .i64 B,.int .i64 C,.int .i64 D,.int .i64 E,.slice G H sc] 41))⟩
theorem ZE(b v1 d f:Value)(lo hi:Nat)(W:A4)(B:Nat)(name:ByteArray)(w:World)(h:CE w lo hi b v1 d f W)(o:W.sn<=8)(p:name.size<=maxLen)(m:w.cell? ⟨B,0,none⟩=some (.string name)) :
 Calls Tryz.prog 45 #[Cn b v1 d f W,.pointer (some ⟨B,0,none⟩)] w fun e w'=>AL (BP W name) e/\Below w.heap.size w w':=by
 have q:=A3 h;clear h;have i:=AC w (.cells #[b,v1,.int .i64 W.time,.int .i64 W.next,d,f] 30);have n:=(i.cell (AZ m)).trans m;obtain⟨r,s,u,v,x,y⟩:=(As.new w (b) (v1) (.int .i64 W.time) (.int .i64 W.next) (d) (f) 30).c;go_enter Tryz.func45,Tryz.ntmps45;go_wp2_with fail;clear r s u v x y m n;generalize w.alloc (.cells #[b,v1,.int .i64 W.time,.int .i64 W.next,d,f] 30)=W0 at i ⊢;refine(zB1 b v1 d f lo hi W name W0 (q.out.A0 i) o p).mono ?_;rintro e z ⟨⟨t,rfl,j⟩,l⟩;have g:=A7 i l;by_cases a:BP W name
 ·obtain rfl:t=true:=j.2 a;have k:=A3 a;clear j a;go_wp2;go_ret;exact⟨AL.yes k.out,g⟩
 ·obtain rfl:t=false:=BR j a;have k:=A3 a;clear j a;go_wp2;go_ret;exact⟨AL.no k.out,g⟩
theorem ZB(p:Nat->Addr)(b:ByteArray)(w:World)(k:DC w p) :
 Calls Tryz.prog 23 #[.string b] w fun e w'=>∃j:Nat,e = .returned (.agg #[.func (.func 45) #[] #[.pointer (some ⟨j,0,none⟩)],Ax (p 2)])/\w'.cell? ⟨j,0,none⟩=some (.string b)/\Below w.heap.size w w':=by
 have d:=AC w (.cells #[.string b] 9);have i:=AC (w.alloc (.cells #[.string b] 9)) (.cells #[.nilFunc,.nilIface] 63);have l:=A7 (d) i;have c0:(w.alloc (.cells #[.string b] 9)).cell? ⟨w.heap.size,0,none⟩=some (.string b):=World.cell?_alloc_at _ _ _ _ rfl;have o:((w.alloc (.cells #[.string b] 9)).alloc (.cells #[.nilFunc,.nilIface] 63)).cell? ⟨0,0,none⟩=some (Ax (p 2)):=(k.A0 l).cell 2 (by omega);have f:=AC (w.alloc (.cells #[.string b] 9)) (.cells #[.func (.func 45) #[] #[.pointer (some ⟨w.heap.size,0,none⟩)],Ax (p 2)] 63);have h:=A7 (d) f;have g:=A3 ((f.cell (AZ c0)).trans c0);clear c0;go_enter Tryz.func23,Tryz.ntmps23;have m:=fun (n:World) (a:Addr)=>run_store Tryz.prog n a (.func (.func 45) #[] #[.pointer (some ⟨w.heap.size,0,none⟩)]) .plain rfl
 go_wp2_with fail;have c:=Ac.new (w.alloc (.cells #[.string b] 9)) (.func (.func 45) #[] #[.pointer (some ⟨w.heap.size,0,none⟩)]) (Ax (p 2)) 63;rw[World.size_alloc]at c;refine bodyPost_ret (v:=.agg #[.func (.func 45) #[] #[.pointer (some ⟨w.heap.size,0,none⟩)],Ax (p 2)]) (by simp[results,Tryz.results23,go_sem,c.1.1,c.2.1]) rfl ⟨_,rfl,g.out,h⟩
end
end Go.Proofs.YtehdoekmnicdiaaGreatDoor

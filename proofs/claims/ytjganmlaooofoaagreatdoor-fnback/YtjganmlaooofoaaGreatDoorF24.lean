/- A part of the proof. -/
import Derived.Test.YtjganmlaooofoaaGreatDoorF23
import Derived.Shelf.Abstract
set_option linter.unusedVariables false
set_option maxRecDepth 20000
set_option maxHeartbeats 4000000
namespace Go.Proofs.YtjganmlaooofoaaGreatDoor
open Go.RowKit
def zTB(w:World)(b:Nat)(v0 v1 v2 v3:Value):Prop:=zY w b 0 v0/\zY w b 1 v1/\zY w b 2 v2/\zY w b 3 v3
theorem zTB.zeF{w w':World}{b:Nat}{v0 v1 v2 v3:Value}(h:zTB w b v0 v1 v2 v3)(t:Below w.heap.size w w'):zTB w' b v0 v1 v2 v3:=⟨h.1.zeF t,h.2.1.zeF t,h.2.2.1.zeF t,h.2.2.2.zeF t⟩
theorem zTB.new(w:World)(v0 v1 v2 v3:Value)(t:TypeId):zTB (w.alloc (.cells #[v0,v1,v2,v3] t)) w.heap.size v0 v1 v2 v3:=by
 have hb:(w.alloc (.cells #[v0,v1,v2,v3] t)).heap[w.heap.size]?=some (.cells #[v0,v1,v2,v3] t):=heap_alloc_new _ _;exact⟨zK hb rfl,zK hb rfl,zK hb rfl,zK hb rfl⟩
def zFk(w:World)(p:Nat->Addr)(v:Value)(m:Nat)(g:Nat->Nat)(lb:Nat->Array Value)(ei:Nat->Nat):Prop:=
 m<=1000/\∃a c,v = .slice a m c/\(0<m->∃b off,a=some ⟨b,off,none⟩/\∀i,i<m->w.cell? ⟨b,off+i*2,none⟩=some (.func (.func (g i)) #[] (lb i))/\w.cell? ⟨b,off+i*2+1,none⟩=some (yg (p (ei i))))
theorem zFk.zeF{w w':World}{p:Nat->Addr}{v:Value}{m:Nat}{g:Nat->Nat}{lb:Nat->Array Value}{ei:Nat->Nat}(h:zFk w p v m g lb ei)(t:Below w.heap.size w w'):zFk w' p v m g lb ei:=by
 obtain⟨m1,a,c,hv,hx⟩:=h;refine⟨m1,a,c,hv,fun h0=>?_⟩;obtain⟨b,off,ha,hc⟩:=hx h0;exact⟨b,off,ha,fun i hi=>⟨(t.cell (zH (hc i hi).1)).trans (hc i hi).1,(t.cell (zH (hc i hi).2)).trans (hc i hi).2⟩⟩
theorem zFk.cells{w:World}{p:Nat->Addr}{a:Option Addr}{c m:Nat}{g:Nat->Nat}{lb:Nat->Array Value}{ei:Nat->Nat}(h:zFk w p (.slice a m c) m g lb ei){i:Nat}(hi:i<m):∃b off,a=some ⟨b,off,none⟩/\w.cell? ⟨b,off+i*2,none⟩=some (.func (.func (g i)) #[] (lb i))/\w.cell? ⟨b,off+i*2+1,none⟩=some (yg (p (ei i))):=by
 obtain⟨m1,a0,c0,hv,hx⟩:=h;simp only[Value.slice.injEq,true_and]at hv;obtain⟨rfl,rfl⟩:=hv;obtain⟨b,off,ha,hc⟩:=hx (by omega);exact⟨b,off,ha,hc i hi⟩
def zLl(W:zB)(long bad:Prop)(m:Nat)(Q:Nat->Prop)(ei:Nat->Nat)(r:Option Nat):Prop:=
 (long/\r=some 1)\/(¬long/\(¬zCa W\/bad)/\r=some 0)\/(¬long/\zCa W/\¬bad/\∃i,i<m/\¬Q i/\(∀j,j<i->Q j)/\r=some (ei i))\/(¬long/\zCa W/\¬bad/\(∀j,j<m->Q j)/\r=none)
def zdE(p:Nat->Addr):Option Nat->Value
 | none=>.nilIface
 | some i=>yg (p i)
theorem zSe(p:Nat->Addr)(tv nv qv dv:Value)(nt nn m:Nat)(tx nx:Nat->ByteArray)(g:Nat->Nat)(lb:Nat->Array Value)(ei:Nat->Nat)(Q:Nat->Prop)(v0 v1 v2 v3:Value)(lo hi:Nat)(W:zB)(w:World)(hE:zF1 w p)(h:yO w lo hi v0 v1 v2 v3 W)(mB:zCs W)
  (ht:zB2 w tv nt tx) (hn:zB2 w nv nn nx) (hq:zFk w p qv m g lb ei) (eg:∀i,i<m->Enters Tryz.prog (g i))
  (hQ:∀i,i<m->∀w',Below w.heap.size w w'->zCa W->(∀j,j<i->Q j)->Calls Tryz.prog (g i) (#[zA8 v0 v1 v2 v3 W] ++ lb i) w' fun e nB=>zL (Q i) e/\Below w'.heap.size w' nB) :
  Calls Tryz.prog 52 #[.agg #[tv,nv,qv,dv],zA8 v0 v1 v2 v3 W] w fun e w'=>∃r,e = .returned (zdE p r)/\zLl W (∃i,i<nt/\8000<(tx i).size) (∃i,i<nn/\¬zA0 (nx i)) m Q ei r/\Below w.heap.size w w':=by
 have Hp:=zR h;have HE:=zR hE;have Ht:=zR ht;have Hn:=zR hn;have Hq:=zR hq;have HQ:=zR hQ;have Hg:=zR eg;obtain⟨t1,ta,tc,rfl,-⟩:=ht;obtain⟨n1,na,nc,rfl,-⟩:=hn;obtain⟨m1,qa,qc,rfl,-⟩:=hq;clear h hE hQ eg;have bB:=zD w (.cells #[.slice ta nt tc,.slice na nn nc,.slice qa m qc,dv] 62);have sA:=zD (w.alloc (.cells #[.slice ta nt tc,.slice na nn nc,.slice qa m qc,dv] 62)) (.cells #[v0,v1,.int .i64 W.time,.int .i64 W.next,v2,v3] 30);have hb:=zA bB sA;have hd:=(zTB.new w (.slice ta nt tc) (.slice na nn nc) (.slice qa m qc) (dv) 62).zeF sA;have hx:=zAN.new (w.alloc (.cells #[.slice ta nt tc,.slice na nn nc,.slice qa m qc,dv] 62)) (v0) (v1) (.int .i64 W.time) (.int .i64 W.next) (v2) (v3) 30;rw[World.size_alloc]at hx;have HD:=zR hd;have HX:=zR hx;clear hd hx;obtain⟨⟨d0,-⟩,⟨d1,-⟩,⟨d2,-⟩,⟨d3,-⟩⟩:=HD.out;go_enter Tryz.func52,Tryz.ntmps52;go_wp2_with fail;clear d0 d1 d2 d3;generalize ((w.alloc (.cells #[.slice ta nt tc,.slice na nn nc,.slice qa m qc,dv] 62)).alloc (.cells #[v0,v1,.int .i64 W.time,.int .i64 W.next,v2,v3] 30))=W1 at hb HD HX ⊢;clear bB sA;refine(zWe _ nt tx W1 (Ht.out.zeF hb)).mono ?_;rintro e w2 ⟨⟨t,rfl,aA⟩,fA⟩;have cA:=zA hb fA;have tA:=zR (HD.out.zeF fA);have nA:=zR (HX.out.zeF fA);clear fA hb HD HX;by_cases hl:∃i,i<nt/\8000<(tx i).size
 ·obtain rfl:t=true:=aA.2 hl;have HL:=zR hl;have cB:w2.cell? ⟨2,0,none⟩=some (yg (p 1)):=(HE.out.zeF cA).cell 1 (by omega);clear aA hl;go_wp2;go_ret;exact⟨some 1,rfl,Or.inl ⟨HL.out,rfl⟩,cA⟩
 obtain rfl:t=false:=qj aA hl;have HL:=zR hl;clear aA hl;obtain⟨x0,x1,x2,x3,x4,x5⟩:=nA.out.c;go_wp2_with fail;clear x0 x1 x2 x3 x4 x5;refine(zDf _ _ _ _ lo hi W w2 (Hp.out.zeF cA) mB).mono ?_;rintro e w3 ⟨⟨t,rfl,aA⟩,gA⟩;have dA:=zA cA gA;have mA:=zR (tA.out.zeF gA);have vA:=zR (nA.out.zeF gA);clear gA cA tA nA;by_cases hw:zCa W;rotate_left
 ·obtain rfl:t=false:=qj aA hw;have HW:=zR hw;have cB:w3.cell? ⟨3,0,none⟩=some (yg (p 0)):=(HE.out.zeF dA).cell 0 (by omega);clear aA hw;go_wp2;go_ret;exact⟨some 0,rfl,Or.inr (Or.inl ⟨HL.out,Or.inl HW.out,rfl⟩),dA⟩
 obtain rfl:t=true:=aA.2 hw;have HW:=zR hw;clear aA hw;obtain⟨⟨d0,-⟩,⟨d1,-⟩,⟨d2,-⟩,⟨d3,-⟩⟩:=mA.out;go_wp2_with fail;clear d0 d1 d2 d3;refine(zWf _ nn nx w3 (Hn.out.zeF dA)).mono ?_;rintro e w4 ⟨⟨t,rfl,aA⟩,iA⟩;have pA:=zA dA iA;have eB:=zR (mA.out.zeF iA);have gB:=zR (vA.out.zeF iA);clear iA dA mA vA;by_cases hl:∃i,i<nn/\¬zA0 (nx i)
 ·obtain rfl:t=true:=aA.2 hl;have HN:=zR hl;have cB:w4.cell? ⟨3,0,none⟩=some (yg (p 0)):=(HE.out.zeF pA).cell 0 (by omega);clear aA hl;go_wp2;go_ret;exact⟨some 0,rfl,Or.inr (Or.inl ⟨HL.out,Or.inr HN.out,rfl⟩),pA⟩
 obtain rfl:t=false:=qj aA hl;have HN:=zR hl;clear aA hl;obtain⟨⟨d0,-⟩,⟨d1,-⟩,⟨d2,-⟩,⟨d3,-⟩⟩:=eB.out;go_wp2;clear d0 d1 d2 d3
 go_loopw [23] (fun i wr=>∃k:Nat,k<=m/\i = .int .i64 k/\(∀j,j<k->Q j)/\zAN wr (w.heap.size+1) (v0) (v1) (.int .i64 W.time) (.int .i64 W.next) (v2) (v3)/\Below w.heap.size w wr) (fun i _=>m - (intOf i).toNat)
 case atStart=>exact⟨0,Nat.zero_le _,rfl,fun j hj=>absurd hj (Nat.not_lt_zero _),gB.out,pA⟩
 case round=>
  obtain⟨k,hk,rfl,eA,hX,hb⟩:=hrel;have bA:=zR eA;have jB:=zR hX;clear eA hX;by_cases lA:k<m
  ·have kB:(k:Int)<(m:Int):=(by omega);obtain⟨b,off,rfl,q0,q1⟩:=(Hq.out.zeF hb).cells lA;have rA:=zD wr (.cells #[.func (.func (g k)) #[] (lb k),yg (p (ei k))] 55);have HV:=zR (zAT.new wr (.func (.func (g k)) #[] (lb k)) (yg (p (ei k))) 55);have oA:=zR (jB.out.zeF rA);have kA:=zA hb rA;have e0:∀(args:Array Value) (w:World),(callFunc (g k) args).run Tryz.prog w = .ok (.enter (g k) args) w:=Hg.out k lA;have lB:=fun (w:World) (a:Addr)=>run_store Tryz.prog w a (.func (.func (g k)) #[] (lb k)) .plain rfl
   obtain⟨⟨z0,-⟩,⟨z1,-⟩⟩:=HV.out;obtain⟨x0,x1,x2,x3,x4,x5⟩:=oA.out.c;go_wp2_with fail;clear x0 x1 x2 x3 x4 x5 z0 z1 q0 q1 lB;generalize wr.alloc (.cells #[.func (.func (g k)) #[] (lb k),yg (p (ei k))] 55)=W5 at HV oA kA ⊢;generalize wr.heap.size=V at HV ⊢;refine(HQ.out k lA W5 kA HW.out bA.out).mono ?_;rintro e w6 ⟨⟨t,rfl,aA⟩,jA⟩;have aB:=zA kA jA;have fB:=zR (HV.out.zeF jA);have iB:=zR (oA.out.zeF jA);clear jA kA rA e0;by_cases hf:Q k
   ·obtain rfl:t=true:=aA.2 hf;have HF:=zR hf;clear aA hf;go_wp2;go_roundw
    case rel=>
     refine⟨k+1,by omega,by go_num,fun j hj=>?_,iB.out,aB⟩;by_cases e:j=k
     ·subst e;exact HF.out
     ·exact bA.out j (by omega)
    case measure=>simp[intOf];omega
   ·obtain rfl:t=false:=qj aA hf;have HF:=zR hf;clear aA hf;obtain⟨⟨z0,-⟩,⟨z1,-⟩⟩:=fB.out;go_wp2;go_ret;exact⟨some (ei k),rfl,Or.inr (Or.inr (Or.inl ⟨HL.out,HW.out,HN.out,k,lA,HF.out,bA.out,rfl⟩)),aB⟩
  ·obtain rfl:k=m:=(by omega);go_wp2;go_ret;exact⟨none,rfl,Or.inr (Or.inr (Or.inr ⟨HL.out,HW.out,HN.out,bA.out,rfl⟩)),hb⟩
theorem zOQ(g:Nat)(lb:Array Value)(eg:Enters Tryz.prog g)(P:Nat->Prop)(v:Value)(n lo hi:Nat)(f:Nat->zl)(w:World)(h:zB1 w lo hi v n f)(hn:n<=1000)
  (hP:∀i,i<n->∀a c w',Below w.heap.size w w'->qn w' lo hi (.slice a (f i).dn c) (f i).dn (f i).ds (f i).db->Calls Tryz.prog g (#[.agg #[.int .i64 (f i).id,.string (f i).name,.string (f i).set,.int .i64 (f i).zeL,.int .i64 (f i).time,.int .i64 (f i).rs,.int .i64 (f i).rb,.slice a (f i).dn c]] ++ lb) w' fun e gA=>zL (P i) e/\Below w'.heap.size w' gA) :
  Calls Tryz.prog 124 #[v,.func (.func g) #[] lb] w fun e w'=>((∃i:Nat,i<n/\P i/\(∀j,j<i->¬P j)/\e = .returned (.int .i64 (i:Int)))\/((∀j,j<n->¬P j)/\e = .returned (.int .i64 (-1))))/\Below w.heap.size w w':=by
 have Hp:=zC h;obtain⟨-,a,c,rfl,-,-⟩:=h;have HP:=zC hP;clear hP;have e0:∀(args:Array Value) (w:World),(callFunc g args).run Tryz.prog w = .ok (.enter g args) w:=eg;clear eg;go_enter Tryz.func124,Tryz.ntmps124;go_wp2
 go_loopw [8] (fun i wr=>∃k:Nat,k<=n/\i = .int .i64 k/\(∀j,j<k->¬P j)/\Below w.heap.size w wr) (fun i _=>n - (intOf i).toNat)
 case atStart=>exact⟨0,Nat.zero_le _,rfl,fun j hj=>absurd hj (Nat.not_lt_zero _),Below.refl _ _⟩
 case round=>
  obtain⟨k,hk,rfl,bA,hb⟩:=hrel;have aA:=zC bA;clear bA;by_cases cA:k<n
  ·have fA:(k:Int)<(n:Int):=(by omega);obtain⟨b,off,vd,rfl,hs⟩:=(Hp.out.zeF hb).cells cA;obtain⟨-,ad,cd,rfl,-,-⟩:=id hs.dead;have Hs:=zC hs.dead;obtain⟨q0,q1,q2,q3,q4,q5,q6,q7,-,-⟩:=hs;go_wp2_with fail;clear q0 q1 q2 q3 q4 q5 q6 q7;refine(HP.out k cA ad cd wr hb Hs.out).mono ?_;rintro e w1 ⟨⟨t,rfl,ht⟩,dA⟩;have eA:=zA hb dA;clear dA Hs;by_cases hf:P k
   ·obtain rfl:t=true:=ht.2 hf;have HF:=zC hf;clear ht hf;go_wp2;go_ret;exact⟨Or.inl ⟨k,cA,HF.out,aA.out,rfl⟩,eA⟩
   ·obtain rfl:t=false:=qj ht hf;have HF:=zC hf;clear ht hf;go_wp2;go_roundw
    case rel=>
     refine⟨k+1,by omega,by go_num,fun j hj=>?_,eA⟩;by_cases e:j=k
     ·subst e;exact HF.out
     ·exact aA.out j (by omega)
    case measure=>simp[intOf];omega
  ·obtain rfl:k=n:=(by omega);go_wp2;go_ret;exact⟨Or.inr ⟨aA.out,rfl⟩,hb⟩
theorem zQT(g:Nat)(lb:Array Value)(eg:Enters Tryz.prog g)(P:Nat->Prop)(v:Value)(n lo hi:Nat)(f:Nat->zl)(w:World)(h:zB1 w lo hi v n f)(hn:n<=1000)
  (hP:∀i,i<n->∀a c w',Below w.heap.size w w'->qn w' lo hi (.slice a (f i).dn c) (f i).dn (f i).ds (f i).db->Calls Tryz.prog g (#[.agg #[.int .i64 (f i).id,.string (f i).name,.string (f i).set,.int .i64 (f i).zeL,.int .i64 (f i).time,.int .i64 (f i).rs,.int .i64 (f i).rb,.slice a (f i).dn c]] ++ lb) w' fun e cA=>zL (P i) e/\Below w'.heap.size w' cA) :
  Calls Tryz.prog 77 #[v,.func (.func g) #[] lb] w fun e w'=>zL (∃i,i<n/\P i) e/\Below w.heap.size w w':=by
 have Hp:=zC h;have HP:=zC hP;obtain⟨-,a,c,rfl,-,-⟩:=h;clear hP;go_enter Tryz.func77,Tryz.ntmps77;go_wp2_with fail;refine(zOQ g lb eg P _ n lo hi f w Hp.out hn HP.out).mono ?_;rintro e w1 ⟨hr,aA⟩;rcases hr with⟨i,hi,hp,-,rfl⟩ | ⟨bA,rfl⟩
 ·have HQ:=zC (show ∃i,i<n/\P i from⟨i,hi,hp⟩);have h0:(0:Int)<=(i:Int):=(by omega);clear hp;go_wp2;go_ret;exact⟨zL.yes HQ.out,aA⟩
 ·have HQ:=zC bA;clear bA;go_wp2;go_ret;exact⟨zL.no fun ⟨i,hi,hq⟩=>HQ.out i hi hq,aA⟩
theorem zJz(g:Nat)(lb:Array Value)(eg:Enters Tryz.prog g)(P:Nat->Prop)(v:Value)(n lo hi:Nat)(f:Nat->qi)(w:World)(h:zCo w lo hi v n f)(hn:n<=1000)
  (hP:∀i,i<n->∀a c w',Below w.heap.size w w'->qn w' lo hi (.slice a (f i).dn c) (f i).dn (f i).ds (f i).db->Calls Tryz.prog g (#[.agg #[.string (f i).name,.int .i64 (f i).origin,.int .i64 (f i).zeL,.int .i64 (f i).rs,.int .i64 (f i).rb,.slice a (f i).dn c]] ++ lb) w' fun e gA=>zL (P i) e/\Below w'.heap.size w' gA) :
  Calls Tryz.prog 90 #[v,.func (.func g) #[] lb] w fun e w'=>((∃i:Nat,i<n/\P i/\(∀j,j<i->¬P j)/\e = .returned (.int .i64 (i:Int)))\/((∀j,j<n->¬P j)/\e = .returned (.int .i64 (-1))))/\Below w.heap.size w w':=by
 have Hp:=zC h;obtain⟨-,a,c,rfl,-,-⟩:=h;have HP:=zC hP;clear hP;have e0:∀(args:Array Value) (w:World),(callFunc g args).run Tryz.prog w = .ok (.enter g args) w:=eg;clear eg;go_enter Tryz.func90,Tryz.ntmps90;go_wp2
 go_loopw [8] (fun i wr=>∃k:Nat,k<=n/\i = .int .i64 k/\(∀j,j<k->¬P j)/\Below w.heap.size w wr) (fun i _=>n - (intOf i).toNat)
 case atStart=>exact⟨0,Nat.zero_le _,rfl,fun j hj=>absurd hj (Nat.not_lt_zero _),Below.refl _ _⟩
 case round=>
  obtain⟨k,hk,rfl,bA,hb⟩:=hrel;have aA:=zC bA;clear bA;by_cases cA:k<n
  ·have fA:(k:Int)<(n:Int):=(by omega);obtain⟨b,off,vd,rfl,hs⟩:=(Hp.out.zeF hb).cells cA;obtain⟨-,ad,cd,rfl,-,-⟩:=id hs.dead;have Hs:=zC hs.dead;obtain⟨q0,q1,q2,q3,q4,q5,-,-⟩:=hs;go_wp2_with fail;clear q0 q1 q2 q3 q4 q5;refine(HP.out k cA ad cd wr hb Hs.out).mono ?_;rintro e w1 ⟨⟨t,rfl,ht⟩,dA⟩;have eA:=zA hb dA;clear dA Hs;by_cases hf:P k
   ·obtain rfl:t=true:=ht.2 hf;have HF:=zC hf;clear ht hf;go_wp2;go_ret;exact⟨Or.inl ⟨k,cA,HF.out,aA.out,rfl⟩,eA⟩
   ·obtain rfl:t=false:=qj ht hf;have HF:=zC hf;clear ht hf;go_wp2;go_roundw
    case rel=>
     refine⟨k+1,by omega,by go_num,fun j hj=>?_,eA⟩;by_cases e:j=k
     ·subst e;exact HF.out
     ·exact aA.out j (by omega)
    case measure=>simp[intOf];omega
  ·obtain rfl:k=n:=(by omega);go_wp2;go_ret;exact⟨Or.inr ⟨aA.out,rfl⟩,hb⟩
open Go.Maps
theorem zF7(a:Option Addr)(n c:Nat)(xs:List Value)(w:World)(hl:xs.length=n*6)(iA:∀u∈xs,u.oneCell'=true)(hn:n<=1048576)
  (hc:0<n->∃b off,a=some ⟨b,off,none⟩/\∀j u,xs[j]?=some u->w.cell? ⟨b,off+j,none⟩=some u) :
  Calls Tryz.prog 100 #[.slice a n c] w fun e w'=>∃v',e = .returned v'/\w'.ownsRow w.heap.size 44 6 v' n xs/\Below w.heap.size w w'/\(n=0->∃a,v' = .slice a 0 0):=by
 have Hc:Hid (0<n->∃b off,a=some ⟨b,off,none⟩/\∀j u,xs[j]?=some u->w.cell? ⟨b,off+j,none⟩=some u):=hc;have Hl:Hid (xs.length=n*6/\∀u∈xs,u.oneCell'=true):=⟨hl,iA⟩;clear hc hl iA;have pA:=fun w=>Lib.run_eql_slice_nil (P:=Tryz.prog) w 27 44 a n c 0 0 (by kernel_rfl)
 cases a with
 | none=>
  have nA:n=0:=by
   by_cases h:0<n
   ·obtain⟨b,off,ha,_⟩:=Hc.out h;simp at ha
   ·omega
  subst nA;have oA:xs = []:=List.eq_nil_of_length_eq_zero (by simpa using Hl.out.1);subst oA;go_enter Tryz.func100,Tryz.ntmps100;go_wp2;go_ret;exact⟨_,rfl,World.ownsRow_nil _ _ _ _,Below.refl _ _,fun _=>⟨_,rfl⟩⟩
 | some ad=>
  obtain⟨i0,hi,lA⟩:=Option.map_eq_some_iff.1 zYX;simp only[Prod.mk.injEq]at lA;obtain⟨hz,hs,kA⟩:=lA;have HI:Hid (Tryz.prog.info? 44=some i0/\i0.zero=some (.agg #[.string ⟨#[]⟩,.int .i64 0,.int .i64 0,.int .i64 0,.int .i64 0,.slice none 0 0])/\i0.size=6/\i0.bytes=72):=⟨hi,hz,hs,kA⟩;have aA:Hid ((w.alloc (.cells #[] 44)).ownsRow w.heap.size 44 6 (.slice (some ⟨w.heap.size,0,none⟩) 0 0) 0 []):=World.ownsRow_made w #[] 0 (Nat.le_refl _) (Nat.zero_le _) (by simp);clear hi hz hs kA;go_enter Tryz.func100,Tryz.ntmps100;go_wp2_with (first
   | (at_builtin;refine zBi rfl _ _ 27 rfl w.heap.size 44 i0 (.agg #[.string ⟨#[]⟩,.int .i64 0,.int .i64 0,.int .i64 0,.int .i64 0,.slice none 0 0]) 6 72 (by kernel_rfl) HI.out.1 HI.out.2.1 HI.out.2.2.1 HI.out.2.2.2 rfl (by decide) _ _ _ rfl aA.out (some ad) n c xs rfl Hl.out.1 Hl.out.2 ?c1 ?c3 ?c4 ?c5 ?_))
  case c1=>
   intro h0;obtain⟨b,off,ha,bA⟩:=Hc.out h0;exact⟨b,off,ha,fun j u hj=>(((Below.refl _ _).alloc (Nat.le_refl _) _).cell (zH (bA j u hj))).trans (bA j u hj)⟩
  case c3=>unfold maxLen;omega
  case c4=>omega
  case c5=>simp
  intro v' w1 dA cA gA;have mA:Below w.heap.size w w1:=((Below.refl _ _).alloc (Nat.le_refl _) _).grown cA (by simp) (fun q hq=>by have:=aA.out.lt q hq;omega);have eA:w1.ownsRow w.heap.size 44 6 v' n xs:=(by simpa using dA);have fA:Hid (w1.ownsRow w.heap.size 44 6 v' n xs):=eA;have jA:Hid (n=0->v' = .slice (some ⟨w.heap.size,0,none⟩) 0 0):=gA;clear dA eA cA gA;go_wp2;go_ret;exact⟨v',rfl,fA.out,mA,fun e=>⟨_,jA.out e⟩⟩
theorem zDv(a:Option Addr)(n c:Nat)(xs:List Value)(w:World)(hl:xs.length=n*8)(iA:∀u∈xs,u.oneCell'=true)(hn:n<=1048576)
  (hc:0<n->∃b off,a=some ⟨b,off,none⟩/\∀j u,xs[j]?=some u->w.cell? ⟨b,off+j,none⟩=some u) :
  Calls Tryz.prog 101 #[.slice a n c] w fun e w'=>∃v',e = .returned v'/\w'.ownsRow w.heap.size 41 8 v' n xs/\Below w.heap.size w w'/\(n=0->∃a,v' = .slice a 0 0):=by
 have Hc:Hid (0<n->∃b off,a=some ⟨b,off,none⟩/\∀j u,xs[j]?=some u->w.cell? ⟨b,off+j,none⟩=some u):=hc;have Hl:Hid (xs.length=n*8/\∀u∈xs,u.oneCell'=true):=⟨hl,iA⟩;clear hc hl iA;have pA:=fun w=>Lib.run_eql_slice_nil (P:=Tryz.prog) w 28 41 a n c 0 0 (by kernel_rfl)
 cases a with
 | none=>
  have nA:n=0:=by
   by_cases h:0<n
   ·obtain⟨b,off,ha,_⟩:=Hc.out h;simp at ha
   ·omega
  subst nA;have oA:xs = []:=List.eq_nil_of_length_eq_zero (by simpa using Hl.out.1);subst oA;go_enter Tryz.func101,Tryz.ntmps101;go_wp2;go_ret;exact⟨_,rfl,World.ownsRow_nil _ _ _ _,Below.refl _ _,fun _=>⟨_,rfl⟩⟩
 | some ad=>
  obtain⟨i0,hi,lA⟩:=Option.map_eq_some_iff.1 zWm;simp only[Prod.mk.injEq]at lA;obtain⟨hz,hs,kA⟩:=lA;have HI:Hid (Tryz.prog.info? 41=some i0/\i0.zero=some (.agg #[.int .i64 0,.string ⟨#[]⟩,.string ⟨#[]⟩,.int .i64 0,.int .i64 0,.int .i64 0,.int .i64 0,.slice none 0 0])/\i0.size=8/\i0.bytes=96):=⟨hi,hz,hs,kA⟩;have aA:Hid ((w.alloc (.cells #[] 41)).ownsRow w.heap.size 41 8 (.slice (some ⟨w.heap.size,0,none⟩) 0 0) 0 []):=World.ownsRow_made w #[] 0 (Nat.le_refl _) (Nat.zero_le _) (by simp);clear hi hz hs kA;go_enter Tryz.func101,Tryz.ntmps101;go_wp2_with (first
   | (at_builtin;refine zBi rfl _ _ 28 rfl w.heap.size 41 i0 (.agg #[.int .i64 0,.string ⟨#[]⟩,.string ⟨#[]⟩,.int .i64 0,.int .i64 0,.int .i64 0,.int .i64 0,.slice none 0 0]) 8 96 (by kernel_rfl) HI.out.1 HI.out.2.1 HI.out.2.2.1 HI.out.2.2.2 rfl (by decide) _ _ _ rfl aA.out (some ad) n c xs rfl Hl.out.1 Hl.out.2 ?c1 ?c3 ?c4 ?c5 ?_))
  case c1=>
   intro h0;obtain⟨b,off,ha,bA⟩:=Hc.out h0;exact⟨b,off,ha,fun j u hj=>(((Below.refl _ _).alloc (Nat.le_refl _) _).cell (zH (bA j u hj))).trans (bA j u hj)⟩
  case c3=>unfold maxLen;omega
  case c4=>omega
  case c5=>simp
  intro v' w1 dA cA gA;have mA:Below w.heap.size w w1:=((Below.refl _ _).alloc (Nat.le_refl _) _).grown cA (by simp) (fun q hq=>by have:=aA.out.lt q hq;omega);have eA:w1.ownsRow w.heap.size 41 8 v' n xs:=(by simpa using dA);have fA:Hid (w1.ownsRow w.heap.size 41 8 v' n xs):=eA;have jA:Hid (n=0->v' = .slice (some ⟨w.heap.size,0,none⟩) 0 0):=gA;clear dA eA cA gA;go_wp2;go_ret;exact⟨v',rfl,fA.out,mA,fun e=>⟨_,jA.out e⟩⟩
theorem zHb(v:Value)(n lo hi:Nat)(f g:Nat->Int)(w:World)(h1:qn w lo hi v n f g)(hn:n<=1048576) :
  Calls Tryz.prog 41 #[v] w fun e w'=>(∃v' kb,e = .returned v'/\zFi w' 38 2 v' n/\zAY w' kb v' n f g/\(0<n->w.heap.size<=kb/\kb<w'.heap.size))/\Below w.heap.size w w':=by
 obtain⟨m1,a,c,rfl,mc,g1⟩:=h1;have G1:Hid (0<n->∃b off,a=some ⟨b,off,none⟩/\lo<=b/\b<hi/\∀i,i<n->w.cell? ⟨b,off+i*2,none⟩=some (.int .i64 (f i))/\w.cell? ⟨b,off+i*2+1,none⟩=some (.int .i64 (g i))):=g1;have Hm:Hid (n<=maxLen):=m1;clear g1 m1;have pA:=fun w=>Lib.run_eql_slice_nil (P:=Tryz.prog) w 39 38 a n c 0 0 (by kernel_rfl)
 cases a with
 | none=>
  have oA:n=0:=by
   by_cases h:0<n
   ·obtain⟨b,off,ha,_⟩:=G1.out h;simp at ha
   ·omega
  subst oA;go_enter Tryz.func41,Tryz.ntmps41;go_wp2;go_ret;exact⟨⟨_,0,rfl,Or.inl ⟨rfl,_,rfl⟩,⟨Nat.zero_le _,none,0,rfl,Nat.le_refl _,fun h=>absurd h (Nat.lt_irrefl _)⟩,fun h=>absurd h (Nat.lt_irrefl _)⟩,Below.refl _ _⟩
 | some ad=>
  obtain⟨i0,hi,lA⟩:=Option.map_eq_some_iff.1 zMz;simp only[Prod.mk.injEq]at lA;obtain⟨hz,hs,kA⟩:=lA;have iA:∀(w':World),Below w.heap.size w w'->∀j u,(kc f g n)[j]?=some u->w'.cell? (ad.add j)=some u:=fun w' hb j u hj=>by
   by_cases h0:0<n
   ·obtain⟨b,off,ha,_,_,hc⟩:=G1.out h0;simp only[Option.some.injEq]at ha;subst ha;have:=zR0 hc j u hj;have fA:(⟨b,off,none⟩:Addr).add j=⟨b,off+j,none⟩:=(by unfold Addr.add;split<;>simp_all);rw[fA]at this ⊢;exact(hb.cell (zH this)).trans this
   ·obtain rfl:n=0:=(by omega);simp[kc]at hj
  have jA:Hid (∀(w':World),Below w.heap.size w w'->∀j u,(kc f g n)[j]?=some u->w'.cell? (ad.add j)=some u):=iA;have HI:Hid (Tryz.prog.info? 38=some i0/\i0.zero=some (.agg #[.int .i64 0,.int .i64 0])/\i0.size=2/\i0.bytes=16):=⟨hi,hz,hs,kA⟩;have eA:(w.alloc (.cells #[] 38)).ownsRow w.heap.size 38 2 (.slice (some ⟨w.heap.size,0,none⟩) 0 0) 0 []:=World.ownsRow_made w #[] 0 (Nat.le_refl _) (Nat.zero_le _) (by simp);have bA:Hid ((w.alloc (.cells #[] 38)).ownsRow w.heap.size 38 2 (.slice (some ⟨w.heap.size,0,none⟩) 0 0) 0 []):=eA;clear hi hz hs kA iA eA;go_enter Tryz.func41,Tryz.ntmps41;go_wp2_with (first
   | (at_builtin;refine zBi rfl _ _ 39 rfl w.heap.size 38 i0 (.agg #[.int .i64 0,.int .i64 0]) 2 16 (by kernel_rfl) HI.out.1 HI.out.2.1 HI.out.2.2.1 HI.out.2.2.2 rfl (by decide) _ _ _ rfl bA.out (some ad) n c (kc f g n) rfl (zKs f g n) (zYh f g n) ?c1 ?c3 ?c4 ?c5 ?_))
  case c1=>
   intro h0;obtain⟨b,off,ha,_,_,_⟩:=G1.out h0;simp only[Option.some.injEq]at ha;refine⟨b,off,by rw[ha],fun j u hj=>?_⟩;have:=jA.out _ ((Below.refl _ _).alloc (Nat.le_refl _) (.cells #[] 38)) j u hj;have fA:(⟨b,off,none⟩:Addr).add j=⟨b,off+j,none⟩:=(by unfold Addr.add;split<;>simp_all);rw[ha,fA]at this;exact this
  case c3=>unfold maxLen;omega
  case c4=>omega
  case c5=>simp
  intro v' w1 dA cA gA;have nA:Below w.heap.size w w1:=((Below.refl _ _).alloc (Nat.le_refl _) _).grown cA (by simp) (fun q hq=>by have:=bA.out.lt q hq;omega);have aA:w1.ownsRow w.heap.size 38 2 v' n (kc f g n):=(by simpa using dA);obtain⟨kb,hp,hk⟩:=zKF Hm.out aA;have mA:Hid (zFi w1 38 2 v' n):=zCC aA (fun h0=>⟨_,gA h0⟩);have Hp:Hid (zAY w1 kb v' n f g/\(0<n->w.heap.size<=kb/\kb<w1.heap.size)):=⟨hp,hk⟩;clear hp hk dA aA cA gA;go_wp2;go_ret;exact⟨⟨v',kb,rfl,mA.out,Hp.out.1,Hp.out.2⟩,nA⟩
end Go.Proofs.YtjganmlaooofoaaGreatDoor

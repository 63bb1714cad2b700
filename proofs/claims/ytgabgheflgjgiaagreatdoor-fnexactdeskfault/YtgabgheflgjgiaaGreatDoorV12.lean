/- A part of the proof. -/
import Derived.Test.YtgabgheflgjgiaaGreatDoorV11
import Derived.Test.YtgabgheflgjgiaaGreatDoorV6
import Derived.LaidEql
import Derived.Stop.Asserts
import Derived.RowKitTokens
set_option linter.unusedVariables false
set_option maxRecDepth 20000
set_option maxHeartbeats 4000000
namespace Go.Proofs.YtgabgheflgjgiaaGreatDoor
open Go.RowKit Go.Maps
theorem qH.atW{w:World}{base:Nat}{v:Value}{l:List (Int×Int)}(h:qH w base v l)(hm:l.length<=1000):zp w 0 w.heap.size v l.length (zg l) (zj l):=by
 obtain⟨b,h1,h2⟩:=h.own (by unfold maxLen;omega);exact h1.at (fun h0=>⟨Nat.zero_le _,(h2 h0).2.2⟩)
def zNd(now old:List (Int×Int))(t tm:Int)(n:Nat):Prop:=∀i,i<n->zj now i<=tm/\((zg now i,zj now i)∈old↔zj now i<=t)
theorem zII(aA bA:List (Int×Int))(t tm:Int):zNd aA bA t tm aA.length↔zKT aA bA t tm:=by
 constructor
 ·intro h x hx;obtain⟨j,hj,e⟩:=List.getElem_of_mem hx;have:=h j hj;unfold zg zj at this;rw[yQ hj,e]at this;exact this
 ·intro h i hi;have:=h _ (List.getElem_mem hi);unfold zg zj;rw[yQ hi];exact this
def zB8(W:zH):Prop:=∀k,k<W.pn->1<=(W.zOb k).id
def zH9(W:zH)(x s b t:Int):Prop:=s=(zN W x).rs/\b=(zN W x).rb/\t=(zN W x).time
theorem zEi{W:zH}{x s b t:Int}(hp:zB8 W)(h:zIA W x s b t):zH9 W x s b t:=by
 rcases h with⟨k,_,hk,h1,h2,h3⟩ | ⟨hn,h1,h2,h3⟩
 ·unfold zH9;rw[qX hk];exact⟨h1,h2,h3⟩
 ·have e:zN W x=qu:=by
   rcases hn with rfl | hn
   ·exact zEN (fun k hk e=>by have:=hp k hk;omega)
   ·exact zEN hn
  unfold zH9;rw[e];exact⟨h1,h2,h3⟩
theorem zEB(v0 v1 v2 v3:Value)(lo hi:Nat)(W:zH)(x rs rb tm t:Int)(aA bA:List (Int×Int))(w:World)(h:zr w lo hi v0 v1 v2 v3 W)(hR:zt W.zOa)(hT:qQ W.zOa rs rb)(hA:qQ W.zOa (zN W x).rs (zN W x).rb)(hP:zB8 W)(lA:aA=zY W.zOa rs rb)(hold:bA=zY W.zOa (zN W x).rs (zN W x).rb)(ht:t=(zN W x).time) :
  Calls Tryz.prog 167 #[qT v0 v1 v2 v3 W,.int .i64 x,.agg #[.int .i64 rs,.int .i64 rb],.int .i64 tm] w fun e w'=>zK (zKT aA bA t tm) e/\Below w.heap.size w w':=by
 have Hp:=zB h;have HR:=zB hR;have HT:=zB hT;have HA:=zB hA;have HP:=zB hP;have iA:=zB lA;have jA:=zB hold;have jB:=zB ht;clear h hR hT hA hP lA hold ht;have ha:=zC w (.cells #[v0,v1,.int .i64 W.time,.int .i64 W.next,v2,v3] 40);have hB:=za.zOY w v0 v1 (.int .i64 W.time) (.int .i64 W.next) v2 v3 40;have aB:=zC (w.alloc (.cells #[v0,v1,.int .i64 W.time,.int .i64 W.next,v2,v3] 40)) (.cells #[.int .i64 rs,.int .i64 rb] 99);have hX:=zk.zOY (w.alloc (.cells #[v0,v1,.int .i64 W.time,.int .i64 W.next,v2,v3] 40)) (.int .i64 rs) (.int .i64 rb) 99;have vA:=hB.zOU aB;have oA:=zA ha aB;have sB:(w.alloc (.cells #[v0,v1,.int .i64 W.time,.int .i64 W.next,v2,v3] 40)).heap.size=w.heap.size+1:=World.size_alloc _ _;rw[sB]at hX;clear ha aB hB;go_enter Tryz.func167,Tryz.ntmps167;go_wp2_with fail;generalize ((w.alloc (.cells #[v0,v1,.int .i64 W.time,.int .i64 W.next,v2,v3] 40)).alloc (.cells #[.int .i64 rs,.int .i64 rb] 99))=W0 at hX vA oA ⊢;refine(yS v0 v1 v2 _ lo hi W x W0 (Hp.out.zOU oA)).mono ?_;rintro e w1 ⟨s,b,t',rfl,hF,nA⟩;have hq:=zEi HP.out hF;obtain rfl:t=t':=jB.out.trans hq.2.2.symm;have lB:=zB (show qQ W.zOa s b by rw[hq.1,hq.2.1];exact HA.out);have HF:=zB (show bA=zY W.zOa s b by rw[jA.out,hq.1,hq.2.1]);clear hq jB jA HA;have mB:=hX.zOU nA;have kB:=vA.zOU nA;have oB:=zA oA nA;have mA:=zC w1 (.cells #[.int .i64 s,.int .i64 b] 99);have iB:=zB (zk.zOY w1 (.int .i64 s) (.int .i64 b) 99);have tA:=zB (mB.zOU mA);have sA:=zB (kB.zOU mA);have cA:=zA oB mA;clear hX vA oA nA sB hF mB kB oB mA;obtain⟨⟨y0,y1⟩,⟨y2,y3⟩⟩:=iB.out;obtain⟨⟨z0,z1⟩,⟨z2,z3⟩⟩:=tA.out;obtain⟨⟨x0,x1⟩,⟨x2,x3⟩,⟨x4,x5⟩,⟨x6,x7⟩,⟨x8,x9⟩,⟨dB,eB⟩⟩:=sA.out;go_wp2_with fail;generalize w1.alloc (.cells #[.int .i64 s,.int .i64 b] 99)=w3 at *;refine(q8 v0 v1 lo hi W.zOa s b w3 (Hp.out.zOa.zOU cA) HR.out lB.out).mono ?_;rintro e w4 ⟨vo,rfl,rB,pA⟩;have ho:=(rB.atW (by have:=qs W.zOa s b;omega));have gB:=zB (tA.out.zOU pA);have fB:=zB (sA.out.zOU pA);have dA:=zA cA pA;clear rB pA tA sA iB cA x0 x1 x2 x3 x4 x5 x6 x7 x8 x9 dB eB y0 y1 y2 y3 z0 z1 z2 z3;obtain⟨⟨z0,z1⟩,⟨z2,z3⟩⟩:=gB.out;obtain⟨⟨x0,x1⟩,⟨x2,x3⟩,⟨x4,x5⟩,⟨x6,x7⟩,⟨x8,x9⟩,⟨dB,eB⟩⟩:=fB.out;go_wp2_with fail;refine(q8 v0 v1 lo hi W.zOa rs rb w4 (Hp.out.zOa.zOU dA) HR.out HT.out).mono ?_;rintro e w5 ⟨vn,rfl,pB,bB⟩;have hn:=(pB.atW (by have:=qs W.zOa rs rb;omega));have cB:=ho.zOU bB;have eA:=zA dA bB;clear pB bB gB fB dA ho x0 x1 x2 x3 x4 x5 x6 x7 x8 x9 dB eB z0 z1 z2 z3;rw[<-iA.out]at hn;rw[<-HF.out]at cB;clear HF lB HT iA HR HP;obtain⟨mn,an,cn,rfl,aC,_⟩:=id hn;have Hn:=zB hn;have Ho:=zB cB;clear hn cB;unfold maxLen at mn;go_wp2
 go_loopw [13] (fun i wr=>∃k:Nat,k<=aA.length/\i = .int .i64 k/\zNd aA bA t tm k/\Below w5.heap.size w5 wr) (fun i _=>aA.length - (intOf i).toNat)
 case atStart=>exact⟨0,Nat.zero_le _,rfl,fun j hj=>absurd hj (Nat.not_lt_zero _),Below.refl _ _⟩
 case round=>
  obtain⟨k,hk,rfl,hall,hb⟩:=hrel;have fA:=zB hall;clear hall;by_cases hlt:k<aA.length
  ·have vB:(k:Int)<(aA.length:Int):=(by omega);obtain⟨b1,off,rfl,q0,q1⟩:=(Hn.out.zOU hb).cellsD hlt;by_cases hg:tm<zj aA k
   ·have hd:decide (tm<zj aA k)=true:=(by simp[hg]);have Hg:=zB hg;clear hg;go_wp2
    go_quiet (fail)
    go_wp2;go_ret;exact⟨zK.no fun hA=>absurd ((zII _ _ _ _).2 hA k hlt).1 (by have:=Hg.out;omega),zV (zA eA hb) _⟩
   ·have hd:decide (tm<zj aA k)=false:=(by simp;omega);have Hg:=zB (show zj aA k<=tm by omega);clear hg;go_wp2_with fail;go_region_held3 (fun w'=>w'.cell? ⟨b1,off+k*2,none⟩=some (.int .i64 (zg aA k))/\w'.cell? ⟨b1,off+k*2+1,none⟩=some (.int .i64 (zj aA k))) (go_keep)
     (first | (go_at_call 165;refine(zCr _ bA.length 0 w4.heap.size (zg bA) (zj bA) (zg aA k) (zj aA k) _ ?_).mono ?_;(exact(Ho.out.zOU hb).zOU ((Below.refl _ _).drew));rintro e w6 ⟨⟨t6,rfl,ht6⟩,rA⟩;have z1:=(rA.cell (p:=⟨b1,off+k*2,none⟩) (zD q0)).trans q0;have z2:=(rA.cell (p:=⟨b1,off+k*2+1,none⟩) (zD q1)).trans q1))
    have nB:=yw hb rA;have tB:=zB (ht6.trans zCt);clear ht6 rA z1 z2 q0 q1 hd;have kA:(t6 == decide (zj aA k<=t))=true↔((zg aA k,zj aA k)∈bA↔zj aA k<=t):=by
     have ho:=tB.out;cases t6<;>simp_all
    have gA:=zB kA;clear kA;cases hc:(t6 == decide (zj aA k<=t))
    ·go_wp2;go_ret;exact⟨zK.no fun hA=>absurd (gA.out.2 ((zII _ _ _ _).2 hA k hlt).2) (by simp[hc]),zA eA nB⟩
    ·go_wp2;go_roundw
     case rel=>exact⟨k+1,by omega,by go_num,qE hlt fA.out ⟨Hg.out,gA.out.1 hc⟩,nB⟩
     case measure=>simp[intOf];omega
  ·obtain rfl:k=aA.length:=(by omega);go_wp2;go_ret;exact⟨zK.yes ((zII _ _ _ _).1 fA.out),zA eA hb⟩
def qL(W:zH)(x:Int):Prop:=∃k,k<W.pn/\(W.zOb k).id=x
def zx(W:zH)(x:ByteArray):Prop:=∃k,k<W.sn/\(W.zOd k).name=x
def zD6(W:zH)(i:Nat):Prop:=qV (W.zOd i).name/\(0<i->zAM (W.zOd (i - 1)).name (W.zOd i).name)/\((W.zOd i).zOg≠0->qL W (W.zOd i).zOg)/\((W.zOd i).zOf≠0->qL W (W.zOd i).zOf)
def zFd(W:zH)(i:Nat):Prop:=1<=(W.zOb i).id/\(W.zOb i).id<W.next/\1<=(W.zOb i).time/\(W.zOb i).time<W.time/\qV (W.zOb i).name/\zx W (W.zOb i).set
def zEh(W:zH)(i:Nat):Prop:=(0<i->(W.zOb (i - 1)).id<(W.zOb i).id/\(W.zOb (i - 1)).time<(W.zOb i).time)/\((W.zOb i).zOg≠0->(W.zOb i).zOg<(W.zOb i).id/\qL W (W.zOb i).zOg)
def zLx(W:zH)(i j:Nat):Prop:=∀k,k<j->¬((W.zOb k).set=(W.zOb i).set/\(W.zOb k).name=(W.zOb i).name)
def zLy(W:zH)(i:Nat):Prop:=zFd W i/\zEh W i/\zLx W i i
def zAh(W:zH):Prop:=zCP W.time 1 900000/\zCP W.next 1 900000/\W.sn<=8/\W.pn<=20/\(∀i,i<W.sn->zD6 W i)/\∀i,i<W.pn->zLy W i
theorem qY{W:zH}{x r:Int}(h:zEd W.pn (fun k=>(W.zOb k).id=x) r):(qL W x/\0<=r/\r<W.pn/\(W.zOb r.toNat).id=x)\/(¬qL W x/\r = -1):=by
 rcases h with⟨k,hk,e,_,rfl⟩ | ⟨hn,rfl⟩
 ·exact Or.inl ⟨⟨k,hk,e⟩,by omega,by omega,by simpa using e⟩
 ·exact Or.inr ⟨fun ⟨k,hk,e⟩=>hn k hk e,rfl⟩
theorem zK5{W:zH}{x:ByteArray}{r:Int}(h:zEd W.sn (fun k=>(W.zOd k).name=x) r):(zx W x/\0<=r)\/(¬zx W x/\r = -1):=by
 rcases h with⟨k,hk,e,_,rfl⟩ | ⟨hn,rfl⟩
 ·exact Or.inl ⟨⟨k,hk,e⟩,by omega⟩
 ·exact Or.inr ⟨fun ⟨k,hk,e⟩=>hn k hk e,rfl⟩
def zEc(w:World)(b:Nat)(v0 v1 v2 v3 v4 v5 v6 v7:Value):Prop:=(zT w b 0 v0/\zT w b 1 v1/\zT w b 2 v2/\zT w b 3 v3)/\(zT w b 4 v4/\zT w b 5 v5/\zT w b 6 v6/\zT w b 7 v7)
theorem zEc.zOU{w w':World}{b:Nat}{v0 v1 v2 v3 v4 v5 v6 v7:Value}(h:zEc w b v0 v1 v2 v3 v4 v5 v6 v7)(t:Below w.heap.size w w'):zEc w' b v0 v1 v2 v3 v4 v5 v6 v7:=
 ⟨⟨h.1.1.zOU t,h.1.2.1.zOU t,h.1.2.2.1.zOU t,h.1.2.2.2.zOU t⟩,h.2.1.zOU t,h.2.2.1.zOU t,h.2.2.2.1.zOU t,h.2.2.2.2.zOU t⟩
theorem zEc.zOY(w:World)(v0 v1 v2 v3 v4 v5 v6 v7:Value)(t:TypeId):zEc (w.alloc (.cells #[v0,v1,v2,v3,v4,v5,v6,v7] t)) w.heap.size v0 v1 v2 v3 v4 v5 v6 v7:=by
 have hb:(w.alloc (.cells #[v0,v1,v2,v3,v4,v5,v6,v7] t)).heap[w.heap.size]?=some (.cells #[v0,v1,v2,v3,v4,v5,v6,v7] t):=heap_alloc_new _ _;exact⟨⟨zL hb rfl,zL hb rfl,zL hb rfl,zL hb rfl⟩,zL hb rfl,zL hb rfl,zL hb rfl,zL hb rfl⟩
def Mid(a x b:Int):Prop:=a<x/\x<b
def zJA(f:Nat->zu):Nat->ByteArray
 | 0=>⟨#[]⟩
 | k+1=>(f k).name
def zKY(n:Nat)(f:Nat->zu):Prop:=n<=8/\∀i,i<n->qV (f i).name/\zAM (zJA f i) (f i).name
def ins{α : Type}(f:Nat->α)(k:Nat)(s:α):Nat->α:=fun j=>if j<k then f j else if j=k then s else f (j - 1)
theorem zDc{α : Type}{f:Nat->α}{k j:Nat}{s:α}(h:j<k):ins f k s j=f j:=if_pos h
theorem zEQ{α : Type}{f:Nat->α}{k:Nat}{s:α}:ins f k s k=s:=by
 unfold ins;rw[if_neg (Nat.lt_irrefl _),if_pos rfl]
theorem zDb{α : Type}{f:Nat->α}{k j:Nat}{s:α}(h:k<j):ins f k s j=f (j - 1):=by
 unfold ins;rw[if_neg (by omega),if_neg (by omega)]
def zEj(s:zu)(dv:Value)(r:Nat):Value:=cellSet (fun _=>s) (fun _=>dv) 0 r
theorem zNH(f:Nat->zu)(kv:Nat->Value)(s:zu)(dv:Value){k j:Nat}(r:Nat)(h:j<k):cellSet (ins f k s) (ins kv k dv) j r=cellSet f kv j r:=by
 unfold cellSet;rw[zDc h,zDc h]
theorem zNF(f:Nat->zu)(kv:Nat->Value)(s:zu)(dv:Value)(k r:Nat):cellSet (ins f k s) (ins kv k dv) k r=zEj s dv r:=by
 unfold zEj cellSet;rw[zEQ,zEQ]
theorem zNG(f:Nat->zu)(kv:Nat->Value)(s:zu)(dv:Value){k j:Nat}(r:Nat)(h:k<j):cellSet (ins f k s) (ins kv k dv) j r=cellSet f kv (j - 1) r:=by
 unfold cellSet;rw[zDb h,zDb h]
def zDP(W:zH)(x:ByteArray)(k:Nat):Prop:=k<=W.sn/\(∀j,j<k->zAM (W.zOd j).name x)/\∀j,k<=j->j<W.sn->zAM x (W.zOd j).name
theorem zLV{a b:ByteArray}(h:zAM a b):¬zAM b a:=fun h'=>zMi (zDk h h') rfl
theorem zMj(a b:ByteArray)(hne:a≠b):zAM a b\/zAM b a:=by
 rcases zIv a.toList b.toList with h | h | h
 ·exact Or.inl h
 ·have:=zBJ hne;rw[h]at this;simp at this
 ·exact Or.inr h
theorem zLU{n:Nat}{f:Nat->zu}(h:zKY n f):∀{i j:Nat},i<j->j<n->zAM (f i).name (f j).name:=by
 intro i j aA hj
 induction j with
 | zero=>omega
 | succ j ih=>
  have h1:=(h.2 (j+1) hj).2;have h2:zJA f (j+1)=(f j).name:=(by unfold zJA;simp);rw[h2]at h1;by_cases e:i=j
  ·subst e;exact h1
  ·exact zDk (ih (by omega) (by omega)) h1
theorem zDP.of{W:zH}{x:ByteArray}{k:Nat}(hI:zKY W.sn W.zOd)(bA:¬zx W x)(hk:k<=W.sn)(h1:∀j,j<k->zAM (W.zOd j).name x)(h2:k<W.sn->¬zAM (W.zOd k).name x):zDP W x k:=by
 refine⟨hk,h1,fun j hj aA=>?_⟩;have h3:zAM x (W.zOd k).name:=by
  rcases zMj (W.zOd k).name x (fun e=>bA ⟨k,by omega,e⟩)with h | h
  ·exact absurd h (h2 (by omega))
  ·exact h
 by_cases e:j=k
 ·subst e;exact h3
 ·exact zDk h3 (zLU hI (by omega) aA)
theorem zDP.has{W:zH}{x:ByteArray}(hI:zKY W.sn W.zOd)(aA:¬zx W x):∃k,zDP W x k:=by
 have:∀m,m<=W.sn->(∃k,zDP W x k)\/∀j,j<m->zAM (W.zOd j).name x:=by
  intro m
  induction m with
  | zero=>exact fun _=>Or.inr (fun j hj=>absurd hj (Nat.not_lt_zero _))
  | succ m ih=>
   intro hm;rcases ih (by omega)with h | h
   ·exact Or.inl h
   ·by_cases e:zAM (W.zOd m).name x
    ·refine Or.inr (fun j hj=>?_);by_cases e2:j=m
     ·subst e2;exact e
     ·exact h j (by omega)
    ·exact Or.inl ⟨m,zDP.of hI aA (by omega) h (fun _=>e)⟩
 rcases this W.sn (Nat.le_refl _)with h | h
 ·exact h
 ·exact⟨W.sn,Nat.le_refl _,h,fun j h1 h2=>by omega⟩
def zBe(W:zH)(k:Nat)(s:zu):zH:={W with sn:=W.sn+1,zOd:=ins W.zOd k s}
theorem zMu{w w':World}{bs g cap n k:Nat}{kb:Nat->Nat}{kv:Nat->Value}{v:Value}{f:Nat->zu}{s:zu}{S:Nat->Prop}(ho:qK w bs kb kv v n f)(dA:qy kb n f)(hk:k<=n)(hs0:s.dn=0)(jA:s.name.size<=maxLen)
  (ht:zE S w w') (hS:∀i,i<n->0<(f i).dn->¬S (kb i)/\kb i≠g) (hm:n+1<=maxLen) (bA:n+1<=cap)
  (hc:∀j,j<n+1->∀r,r<6->zT w' g (j*6+r) (cellSet (ins f k s) (ins kv k (.slice none 0 0)) j r)) :
  qK w' g (ins kb k g) (ins kv k (.slice none 0 0)) (.slice (some ⟨g,0,none⟩) (n+1) cap) (n+1) (ins f k s)/\qy (ins kb k g) (n+1) (ins f k s):=by
 have eA:∀i,i<n->∃o,qx w bs o (kb i) (kv i) (f i):=fun i hi=>by
  obtain⟨_,a,c,hv,_,hx⟩:=ho;obtain⟨off,ha,h⟩:=hx (by omega);exact⟨_,h i hi⟩
 have hold:∀i,i<n->ze w' (kb i) (kv i) (f i).dn (f i).ds (f i).db/\(f i).name.size<=maxLen/\(0<(f i).dn->kb i≠g):=fun i hi=>by
  obtain⟨o,h⟩:=eA i hi;exact⟨h.zOl.zOW ht (fun h0=>(hS i hi h0).1),h.zOm,fun h0=>(hS i hi h0).2⟩
 have cA:∀i,i<n+1->ze w' (ins kb k g i) (ins kv k (.slice none 0 0) i) (ins f k s i).dn (ins f k s i).ds (ins f k s i).db/\(ins f k s i).name.size<=maxLen/\(0<(ins f k s i).dn->ins kb k g i≠g):=fun i hi=>by
  rcases Nat.lt_trichotomy i k with e | e | e
  ·rw[zDc e,zDc e,zDc e];exact hold i (by omega)
  ·subst e;rw[zEQ,zEQ,zEQ];refine⟨⟨by omega,none,0,by rw[hs0],by omega,fun h=>by omega⟩,jA,fun h=>by omega⟩
  ·rw[zDb e,zDb e,zDb e];exact hold (i - 1) (by omega)
 refine⟨⟨hm,_,_,rfl,bA,fun _=>⟨0,rfl,fun i hi=>?_⟩⟩,?_⟩
 ·rw[Nat.zero_add];obtain⟨h1,h2,h3⟩:=cA i hi;have aA:=hc i hi;exact⟨aA 0 (by omega),aA 1 (by omega),aA 2 (by omega),aA 3 (by omega),aA 4 (by omega),aA 5 (by omega),h1,h2,h3⟩
 ·intro i j hi hj gA h1 h2;have key:∀i,i<n+1->0<(ins f k s i).dn->∃i',i'<n/\ins kb k g i=kb i'/\0<(f i').dn/\i=(if i'<k then i' else i'+1):=fun i hi h0=>by
   rcases Nat.lt_trichotomy i k with e | e | e
   ·rw[zDc e]at h0;exact⟨i,by omega,zDc e,h0,by rw[if_pos e]⟩
   ·subst e;rw[zEQ]at h0;omega
   ·rw[zDb e]at h0;exact⟨i - 1,by omega,zDb e,h0,by rw[if_neg (by omega)];omega⟩
  obtain⟨i',fA,e1,g1,f1⟩:=key i hi h1;obtain⟨j',iA,e2,g2,f2⟩:=key j hj h2;rw[e1,e2];exact dA i' j' fA iA (fun e=>gA (by rw[f1,f2,e])) g1 g2
theorem zJp{w w':World}{P Q R S:Nat->Prop}{v0 v1 v2 v3:Value}{W:zH}{lo hi m bs g cap k:Nat}{kb:Nat->Nat}{kv:Nat->Value}{s:zu}
  (hP:qN w P v0 v1 W.zOa) (hO:qK w bs kb kv v2 W.sn W.zOd) (jA:qy kb W.sn W.zOd) (hq:∀j,yo bs kb W.sn W.zOd j->Q j) (hZ:yp w R v3 W.pn W.zOb) (pq:∀j,P j->¬Q j) (pr:∀j,P j->¬R j) (qr:∀j,Q j->¬R j)
  (hlt:∀j,P j\/Q j\/R j->lo<=j/\j<hi) (hk:k<=W.sn) (hs0:s.dn=0) (lA:s.name.size<=maxLen) (ht:zE S w w') (hS:∀j,S j->(0<W.sn/\j=bs)\/j<lo\/hi<=j) (hg:(0<W.sn/\g=bs)\/(hi<=g/\m<=g)) (kA:g<w'.heap.size) (hm:W.sn+1<=maxLen) (dA:W.sn+1<=cap)
  (hc:∀j,j<W.sn+1->∀r,r<6->zT w' g (j*6+r) (cellSet (ins W.zOd k s) (ins kv k (.slice none 0 0)) j r)) :
  zAE w' lo hi m w'.heap.size v0 v1 (.slice (some ⟨g,0,none⟩) (W.sn+1) cap) v3 (zBe W k s):=by
 have cA:0<W.sn->Q bs:=fun h0=>hq _ (Or.inl ⟨h0,rfl⟩)
 have gA:∀j,P j->¬S j:=fun j hj e=>by
  have h1:=hlt j (Or.inl hj);rcases hS j e with⟨h0,rfl⟩ | h | h
  ·exact pq _ hj (cA h0)
  ·omega
  ·omega
 have iA:∀j,R j->¬S j:=fun j hj e=>by
  have h1:=hlt j (Or.inr (Or.inr hj));rcases hS j e with⟨h0,rfl⟩ | h | h
  ·exact qr _ (cA h0) hj
  ·omega
  ·omega
 have eA:∀i,i<W.sn->0<(W.zOd i).dn->kb i≠bs:=fun i hi h0=>by
  obtain⟨_,a,c,hv,_,hx⟩:=hO;obtain⟨off,ha,h⟩:=hx (by omega);exact(h i hi).zOk h0
 have hD:∀i,i<W.sn->0<(W.zOd i).dn->¬S (kb i)/\kb i≠g:=fun i hi h0=>by
  have h1:=hlt _ (Or.inr (Or.inl (hq _ (Or.inr ⟨i,hi,h0,rfl⟩))));refine⟨fun e=>?_,fun e=>?_⟩
  ·rcases hS _ e with⟨_,h⟩ | h | h
   ·exact eA i hi h0 h
   ·omega
   ·omega
  ·rcases hg with⟨_,h⟩ | h
   ·exact eA i hi h0 (e.trans h)
   ·omega
 obtain⟨fA,bA⟩:=zMu hO jA hk hs0 lA ht hD hm dA hc;have aA:∀j,yo g (ins kb k g) (W.sn+1) (ins W.zOd k s) j->Q j\/(hi<=j/\m<=j/\j<w'.heap.size):=by
  rintro j (⟨_,rfl⟩ | ⟨i,mA,h0,rfl⟩)
  ·rcases hg with⟨h0,rfl⟩ | ⟨h1,h2⟩
   ·exact Or.inl (cA h0)
   ·exact Or.inr ⟨h1,h2,kA⟩
  ·rcases Nat.lt_trichotomy i k with e | e | e
   ·rw[zDc e]at h0 ⊢;exact Or.inl (hq _ (Or.inr ⟨i,by omega,h0,rfl⟩))
   ·subst e;rw[zEQ]at h0;omega
   ·rw[zDb e]at h0 ⊢;exact Or.inl (hq _ (Or.inr ⟨i - 1,by omega,h0,rfl⟩))
 refine⟨P,_,R,⟨hP.zOW ht gA,⟨g,_,_,fA,bA,fun j hj=>hj⟩,hZ.zOW ht iA,?_,pr,?_⟩,?_⟩
 ·intro j hj h;rcases aA j h with h | h
  ·exact pq j hj h
  ·have:=hlt j (Or.inl hj);omega
 ·intro j hj h;rcases aA j hj with h' | h'
  ·exact qr j h' h
  ·have:=hlt j (Or.inr (Or.inr h));omega
 ·rintro j (h | h | h)
  ·exact Or.inl (hlt j (Or.inl h))
  ·rcases aA j h with h | h
   ·exact Or.inl (hlt j (Or.inr (Or.inl h)))
   ·exact Or.inr h.2
  ·exact Or.inl (hlt j (Or.inr (Or.inr h)))
open Go.Extern.Stop Go.Stop Go.Extern
abbrev errV(a:Addr):Value:=.iface 369 (.pointer (some a))
def errG:Nat->Nat
 | 0=>5
 | 1=>4
 | 2=>2
 | 3=>0
 | 4=>1
 | 5=>3
 | _=>7
def zEO:Nat->Int
 | 0=>1
 | 1=>2
 | 2=>4
 | 3=>5
 | 4=>6
 | 5=>7
 | _=>8
structure Errs (w:World) (p:Nat->Addr):Prop where
 cell:∀i,i<7->w.cell? ⟨errG i,0,none⟩=some (errV (p i))
 row:∀i,i<7->∃cs t,w.heap[(p i).block]?=some (.cells cs t (0,0))
 ne:∀i j,i<7->j<7->i≠j->p i≠p j
theorem zNN{l m:List (Int×Int)}{k:Nat}(hk:k<l.length)(h:(zg l k,zj l k)∈m):zCG (l.take (k+1)) m=zCG (l.take k) m:=by
 unfold zg zj at h;rw[yQ hk]at h;unfold zCG;rw[List.take_succ_eq_append_getElem hk,List.filter_append,List.filter_cons];simp only[List.filter_nil];rw[if_neg (by simp;exact h),List.append_nil]
theorem zMR{l m:List (Int×Int)}{k:Nat}(hk:k<l.length)(h:(zg l k,zj l k)∉m):zCG (l.take (k+1)) m=zCG (l.take k) m ++ [(zg l k,zj l k)]:=by
 unfold zg zj at h ⊢;rw[yQ hk]at h ⊢;unfold zCG;rw[List.take_succ_eq_append_getElem hk,List.filter_append,List.filter_cons];simp only[List.filter_nil];rw[if_pos (by simp;exact h)]
theorem zMQ(l m:List (Int×Int))(k:Nat):(zCG (l.take k) m).length<=k:=by
 unfold zCG;exact Nat.le_trans (List.length_filter_le _ _) (by rw[List.length_take];omega)
theorem zFl(v0 v1 v2 v3 vd:Value)(lo hi jC eC dn:Nat)(ds db:Nat->Int)(W:zH)(x rs rb:Int)(dA aA:List (Int×Int))(w:World)(h:zr w lo hi v0 v1 v2 v3 W)(hD:zp w jC eC vd dn ds db)(hR:zt W.zOa)(hT:qQ W.zOa rs rb)(hA:qQ W.zOa (zN W x).rs (zN W x).rb)(hP:zB8 W)(nA:dA=zY W.zOa rs rb)(hold:aA=zY W.zOa (zN W x).rs (zN W x).rb) :
  Calls Tryz.prog 103 #[qT v0 v1 v2 v3 W,.int .i64 x,.agg #[.int .i64 rs,.int .i64 rb],vd] w fun e w'=>zK (zC4 dn ds db (zCG aA dA)) e/\Below w.heap.size w w':=by
 have Hp:=zB h;have HR:=zB hR;have HT:=zB hT;have HA:=zB hA;have HP:=zB hP;have fA:=zB nA;have lA:=zB hold;have HD:=zB hD;clear h hR hT hA hP nA hold hD;have ha:=zC w (.cells #[v0,v1,.int .i64 W.time,.int .i64 W.next,v2,v3] 40);have hB:=za.zOY w v0 v1 (.int .i64 W.time) (.int .i64 W.next) v2 v3 40;have fB:=zC (w.alloc (.cells #[v0,v1,.int .i64 W.time,.int .i64 W.next,v2,v3] 40)) (.cells #[.int .i64 rs,.int .i64 rb] 99);have hX:=zk.zOY (w.alloc (.cells #[v0,v1,.int .i64 W.time,.int .i64 W.next,v2,v3] 40)) (.int .i64 rs) (.int .i64 rb) 99;have eB:=hB.zOU fB;have tA:=zA ha fB;have iC:(w.alloc (.cells #[v0,v1,.int .i64 W.time,.int .i64 W.next,v2,v3] 40)).heap.size=w.heap.size+1:=World.size_alloc _ _;rw[iC]at hX;clear ha fB hB;go_enter Tryz.func103,Tryz.ntmps103;go_wp2_with fail;generalize ((w.alloc (.cells #[v0,v1,.int .i64 W.time,.int .i64 W.next,v2,v3] 40)).alloc (.cells #[.int .i64 rs,.int .i64 rb] 99))=W0 at hX eB tA ⊢;refine(yS v0 v1 v2 _ lo hi W x W0 (Hp.out.zOU tA)).mono ?_;rintro e w1 ⟨s,b,t,rfl,hF,sA⟩;have hq:=zEi HP.out hF;have aC:=zB (show qQ W.zOa s b by rw[hq.1,hq.2.1];exact HA.out);have HF:=zB (show aA=zY W.zOa s b by rw[lA.out,hq.1,hq.2.1]);clear hq lA HA;have bC:=hX.zOU sA;have tB:=eB.zOU sA;have cC:=zA tA sA;have rA:=zC w1 (.cells #[.int .i64 s,.int .i64 b] 99);have sB:=zB (zk.zOY w1 (.int .i64 s) (.int .i64 b) 99);have cB:=zB (bC.zOU rA);have bB:=zB (tB.zOU rA);have iA:=zA cC rA;clear hX eB tA sA iC hF bC tB cC rA;obtain⟨⟨y0,y1⟩,⟨y2,y3⟩⟩:=sB.out;obtain⟨⟨z0,z1⟩,⟨z2,z3⟩⟩:=cB.out;obtain⟨⟨x0,x1⟩,⟨x2,x3⟩,⟨x4,x5⟩,⟨x6,x7⟩,⟨x8,x9⟩,⟨lB,mB⟩⟩:=bB.out;go_wp2_with fail;generalize w1.alloc (.cells #[.int .i64 s,.int .i64 b] 99)=w3 at *;refine(q8 v0 v1 lo hi W.zOa s b w3 (Hp.out.zOa.zOU iA) HR.out aC.out).mono ?_;rintro e w4 ⟨vo,rfl,gC,vA⟩;have ho:=(gC.atW (by have:=qs W.zOa s b;omega));have rB:=zB (cB.out.zOU vA);have oB:=zB (bB.out.zOU vA);have jA:=zA iA vA;clear gC vA cB bB sB iA x0 x1 x2 x3 x4 x5 x6 x7 x8 x9 lB mB y0 y1 y2 y3 z0 z1 z2 z3;obtain⟨⟨z0,z1⟩,⟨z2,z3⟩⟩:=rB.out;obtain⟨⟨x0,x1⟩,⟨x2,x3⟩,⟨x4,x5⟩,⟨x6,x7⟩,⟨x8,x9⟩,⟨lB,mB⟩⟩:=oB.out;go_wp2_with fail;refine(q8 v0 v1 lo hi W.zOa rs rb w4 (Hp.out.zOa.zOU jA) HR.out HT.out).mono ?_;rintro e w5 ⟨vn,rfl,fC,gB⟩;have hn:=(fC.atW (by have:=qs W.zOa rs rb;omega));have aB:=ho.zOU gB;have mA:=zA jA gB;clear fC gB rB oB jA ho x0 x1 x2 x3 x4 x5 x6 x7 x8 x9 lB mB z0 z1 z2 z3;have HL:=zB (show dA.length<=73/\aA.length<=73 by rw[fA.out,HF.out];exact⟨qs _ _ _,qs _ _ _⟩);rw[<-fA.out]at hn;rw[<-HF.out]at aB;clear HF aC HT fA HR HP;obtain⟨mo,ao,co,rfl,aD,_⟩:=id aB;have tC:aA.length<=73:=HL.out.2;have Hn:=zB hn;have Ho:=zB aB;have kC:=zB (HD.out.zOU mA);clear hn aB HD;unfold maxLen at mo;obtain⟨i0,dC,kB⟩:=Option.map_eq_some_iff.1 zCp;simp only[Prod.mk.injEq]at kB;have HI:=zB (And.intro dC kB);clear dC kB;have nB:=zB (zC w5 (.cells #[] 99));have pB:=zB (show qH (w5.alloc (.cells #[] 99)) w5.heap.size (.slice (some ⟨w5.heap.size,0,none⟩) 0 0) [] from World.ownsRow_lit (e:=99) (size:=2) w5 #[] 0 (Nat.le_refl _) (by unfold maxLen;omega) rfl);go_wp2
 go_loopw [13,14] (fun vw i wr=>∃k:Nat,k<=aA.length/\i = .int .i64 k/\qH wr w5.heap.size vw (zCG (aA.take k) dA)/\Below w5.heap.size w5 wr) (fun _ i _=>aA.length - (intOf i).toNat)
 case atStart=>exact⟨0,Nat.zero_le _,rfl,by rw[List.take_zero];exact pB.out,nB.out⟩
 case round=>
  obtain⟨k,hk,rfl,pA,hb⟩:=hrel;have cA:=zB pA;clear pA pB nB;by_cases hlt:k<aA.length
  ·have pC:(k:Int)<(aA.length:Int):=(by omega);obtain⟨b1,off,rfl,q0,q1⟩:=(Ho.out.zOU hb).cellsD hlt;go_wp2_with fail;refine(zCr _ dA.length 0 w5.heap.size (zg dA) (zj dA) (zg aA k) (zj aA k) _ (Hn.out.zOU hb)).mono ?_;rintro e w6 ⟨⟨t6,rfl,ht6⟩,gA⟩;have z0:=(gA.cell (p:=⟨b1,off+k*2,none⟩) (zD q0)).trans q0;have z1:=(gA.cell (p:=⟨b1,off+k*2+1,none⟩) (zD q1)).trans q1;have iB:=zA hb gA;have bA:=zB (cA.out.zOU gA);have dB:=zB (ht6.trans zCt);clear ht6 gA q0 q1 cA;cases t6
   ·have jB:=zC w6 (.cells #[.int .i64 (zg aA k),.int .i64 (zj aA k)] 99);have eA:=zB (bA.out.zOU jB);have vB:=zA iB jB;have hz2:=iB.size;have hz3:(w6.alloc (.cells #[.int .i64 (zg aA k),.int .i64 (zj aA k)] 99)).heap.size=w6.heap.size+1:=World.size_alloc _ _;have HN:=zB (World.news_of_block (heap_alloc_last w6 (.cells #[.int .i64 (zg aA k),.int .i64 (zj aA k)] 99)));have oC:=zMQ aA dA k;clear jB bA;go_wp2_with (first
     | (at_builtin;refine wpList_append_lies _ rfl _ _ 100 rfl w5.heap.size 99 i0 (.agg #[.int .i64 0,.int .i64 0]) 2 16 (by kernel_rfl) HI.out.1 HI.out.2.1 HI.out.2.2.1 HI.out.2.2.2 rfl (by decide) _ _ _ rfl eA.out ⟨w6.heap.size,0,none⟩ 1 1 [.int .i64 (zg aA k),.int .i64 (zj aA k)] rfl rfl HN.out (by simp[Value.oneCell']) (by decide) (by unfold maxLen;omega) (by omega) (by omega) _ rfl ?_;intro g' mC w8 oA kA nC rC)
     | go_in)
    go_roundw
    case rel=>exact⟨k+1,by omega,by go_num,by rw[zMR hlt (fun h=>absurd (dB.out.2 h) (by simp))];exact qH.next oA,vB.grown kA vB.size (fun q hq=>(eA.out.lt hq).1)⟩
    case measure=>simp[intOf];omega
   ·have Hm:=zB (dB.out.1 rfl);clear dB;go_wp2;go_roundw
    case rel=>exact⟨k+1,by omega,by go_num,by rw[zNN hlt Hm.out];exact bA.out,iB⟩
    case measure=>simp[intOf];omega
  ·obtain rfl:k=aA.length:=(by omega);have hw:=cA.out;rw[List.take_length]at hw;have vC:(zCG aA dA).length<=aA.length:=List.length_filter_le _ _;have sC:=hw.atW (by omega);clear hw cA;go_wp2_with fail;refine(zFT vd _ dn jC eC _ 0 wr.heap.size ds db _ _ wr (kC.out.zOU hb) sC).mono ?_;rintro e w6 ⟨⟨t6,rfl,ht6⟩,gA⟩;have lC:=zB ht6;clear ht6;go_wp2;go_ret;exact⟨⟨t6,rfl,lC.out⟩,zA mA (zA hb gA)⟩
def zB6(W:zH)(i:Nat):Prop:=zKT (yf W (zc W i)) (zCO W (zc W i)) (zN W (zc W i).zOg).time (zc W i).time
theorem zAy.snap{W:zH}(h:zAy W){k:Nat}(hk:k<W.pn):qQ W.zOa (W.zOb k).rs (W.zOb k).rb:=by
 have:=h.tree k (by unfold qf;omega);rw[qZ hk]at this;exact this
theorem zAy.set{W:zH}(h:zAy W){k:Nat}(hk:k<W.sn):qQ W.zOa (W.zOd k).rs (W.zOd k).rb:=by
 have:=h.tree (W.pn+k) (by unfold qf;omega);rw[yk]at this;exact this
theorem zIx{v0 v1 v2 v3:Value}{lo hi:Nat}{W:zH}{w:World}(h:zr w lo hi v0 v1 v2 v3 W)(hT:zAy W)(hP:zB8 W){k:Nat}(hk:k<W.pn)(w':World)(hb:Below w.heap.size w w') :
  Calls Tryz.prog 167 #[qT v0 v1 v2 v3 W,.int .i64 (W.zOb k).zOg,.agg #[.int .i64 (W.zOb k).rs,.int .i64 (W.zOb k).rb],.int .i64 (W.zOb k).time] w' fun e aA=>zK (zB6 W k) e/\Below w'.heap.size w' aA:=by
 unfold zB6;rw[qZ hk];exact zEB v0 v1 v2 v3 lo hi W _ _ _ _ _ _ _ w' (h.zOU hb) hT.right (hT.snap hk) (hT.old _) hP rfl rfl rfl
theorem zJq{v0 v1 v2 v3:Value}{lo hi:Nat}{W:zH}{w:World}(h:zr w lo hi v0 v1 v2 v3 W)(hT:zAy W)(hP:zB8 W){k:Nat}(hk:k<W.sn)(w':World)(hb:Below w.heap.size w w') :
  Calls Tryz.prog 167 #[qT v0 v1 v2 v3 W,.int .i64 (W.zOd k).zOg,.agg #[.int .i64 (W.zOd k).rs,.int .i64 (W.zOd k).rb],.int .i64 W.time] w' fun e aA=>zK (zB6 W (W.pn+k)) e/\Below w'.heap.size w' aA:=by
 unfold zB6;rw[yk];exact zEB v0 v1 v2 v3 lo hi W _ _ _ _ _ _ _ w' (h.zOU hb) hT.right (hT.set hk) (hT.old _) hP rfl rfl rfl
theorem zI8(v0 v1 v2 v3:Value)(lo hi:Nat)(W:zH)(w:World)(h:zr w lo hi v0 v1 v2 v3 W)(hT:zAy W)(hP:zB8 W) :
  Calls Tryz.prog 106 #[qT v0 v1 v2 v3 W] w fun e w'=>zK (∀i,i<qf W->zB6 W i) e/\Below w.heap.size w w':=by
 have Hp:=zB h;have HT:=zB hT;have HP:=zB hP;obtain⟨m1,a,c,rfl,mc,_⟩:=id h.zOb;obtain⟨m2,a',c',rfl,iA,_⟩:=id h.zOd;unfold maxLen at m1 m2;clear h hT hP;have ha:=zC w (.cells #[v0,v1,.int .i64 W.time,.int .i64 W.next,.slice a' W.sn c',.slice a W.pn c] 40);have HB:=zB (za.zOY w v0 v1 (.int .i64 W.time) (.int .i64 W.next) (.slice a' W.sn c') (.slice a W.pn c) 40);go_enter Tryz.func106,Tryz.ntmps106;go_wp2
 go_loopw [3] (fun i wr=>∃k:Nat,k<=W.pn/\i = .int .i64 k/\(∀j,j<k->zB6 W j)/\za wr w.heap.size v0 v1 (.int .i64 W.time) (.int .i64 W.next) (.slice a' W.sn c') (.slice a W.pn c)/\Below w.heap.size w wr) (fun i _=>W.pn - (intOf i).toNat)
 case atStart=>exact⟨0,Nat.zero_le _,rfl,fun j hj=>absurd hj (Nat.not_lt_zero _),HB.out,ha⟩
 case round=>
  obtain⟨k,hk,rfl,hall,hX,hb⟩:=hrel;have bA:=zB hall;have HX:=zB hX;clear hall hX ha HB;obtain⟨⟨x0,x1⟩,⟨x2,x3⟩,⟨x4,x5⟩,⟨x6,x7⟩,⟨x8,x9⟩,⟨gA,dA⟩⟩:=HX.out;by_cases hlt:k<W.pn
  ·have fA:(k:Int)<(W.pn:Int):=(by omega);have Hc:=zB (zIx (Hp.out.zOU hb) HT.out HP.out hlt);obtain⟨b,off,vd,rfl,hs⟩:=(Hp.out.zOb.zOU hb).cells hlt;have q3:=hs.c3;have q4:=hs.c4;have q5:=hs.c5;have q6:=hs.c6;clear hs x1 x3 x5 x7 x9 dA;go_wp2_with fail;go_region_held3 (fun w'=>w'.cell? ⟨w.heap.size,0,none⟩=some v0/\w'.cell? ⟨w.heap.size,1,none⟩=some v1/\w'.cell? ⟨w.heap.size,2,none⟩=some (.int .i64 W.time)/\w'.cell? ⟨w.heap.size,3,none⟩=some (.int .i64 W.next)/\w'.cell? ⟨w.heap.size,4,none⟩=some (.slice a' W.sn c')/\w'.cell? ⟨w.heap.size,5,none⟩=some (.slice (some ⟨b,off,none⟩) W.pn c)/\w'.cell? ⟨b,off+k*8+3,none⟩=some (.int .i64 (W.zOb k).zOg)/\w'.cell? ⟨b,off+k*8+4,none⟩=some (.int .i64 (W.zOb k).time)/\w'.cell? ⟨b,off+k*8+5,none⟩=some (.int .i64 (W.zOb k).rs)/\w'.cell? ⟨b,off+k*8+6,none⟩=some (.int .i64 (W.zOb k).rb)) (go_keep)
    (first | (go_at_call 167;refine(Hc.out _ ?_).mono ?_;(exact(Below.refl _ _).drew);rintro e w6 ⟨⟨t6,rfl,ht6⟩,aA⟩;obtain⟨⟨y0,_⟩,⟨y1,_⟩,⟨y2,_⟩,⟨y3,_⟩,⟨y4,_⟩,⟨y5,_⟩⟩:=HX.out.zOU (zJ aA);have z3:=(aA.cell (p:=⟨b,off+k*8+3,none⟩) (zD q3)).trans q3;have z4:=(aA.cell (p:=⟨b,off+k*8+4,none⟩) (zD q4)).trans q4;have z5:=(aA.cell (p:=⟨b,off+k*8+5,none⟩) (zD q5)).trans q5;have z6:=(aA.cell (p:=⟨b,off+k*8+6,none⟩) (zD q6)).trans q6))
   have cA:=yw hb aA;have eA:=zB (HX.out.zOU (zJ aA));have Ht:=zB ht6;clear ht6 aA z3 z4 z5 z6 y0 y1 y2 y3 y4 y5 q3 q4 q5 q6 HX;cases t6
   ·have Hn:=zB (show ¬zB6 W k from fun hA=>absurd (Ht.out.2 hA) (by simp));clear Ht;go_wp2;go_ret;exact⟨zK.no fun hA=>Hn.out (hA k (by unfold qf;omega)),cA⟩
   ·have Hn:=zB (Ht.out.1 rfl);clear Ht;go_wp2;go_roundw
    case rel=>exact⟨k+1,by omega,by go_num,qE hlt bA.out Hn.out,eA.out,cA⟩
    case measure=>simp[intOf];omega
  ·obtain rfl:k=W.pn:=(by omega);go_wp2
   go_loopw [4] (fun i wr=>∃k:Nat,k<=W.sn/\i = .int .i64 k/\(∀j,j<W.pn+k->zB6 W j)/\za wr w.heap.size v0 v1 (.int .i64 W.time) (.int .i64 W.next) (.slice a' W.sn c') (.slice a W.pn c)/\Below w.heap.size w wr) (fun i _=>W.sn - (intOf i).toNat)
   case atStart=>exact⟨0,Nat.zero_le _,rfl,bA.out,HX.out,hb⟩
   case round=>
    clear x0 x1 x2 x3 x4 x5 x6 x7 x8 x9 gA dA HX hb bA;obtain⟨k,hk,rfl,hall,hX,hb⟩:=hrel;have bA:=zB hall;have HX:=zB hX;clear hall hX;obtain⟨⟨x0,x1⟩,⟨x2,x3⟩,⟨x4,x5⟩,⟨x6,x7⟩,⟨x8,x9⟩,⟨gA,dA⟩⟩:=HX.out;by_cases hlt:k<W.sn
    ·have fA:(k:Int)<(W.sn:Int):=(by omega);have Hc:=zB (zJq (Hp.out.zOU hb) HT.out HP.out hlt);obtain⟨b,off,vd,rfl,hs⟩:=(Hp.out.zOd.zOU hb).cells hlt;have q3:=hs.c2;have q5:=hs.c3;have q6:=hs.c4;clear hs x1 x3 x5 x7 x9 dA;go_wp2_with fail;go_region_held3 (fun w'=>w'.cell? ⟨w.heap.size,0,none⟩=some v0/\w'.cell? ⟨w.heap.size,1,none⟩=some v1/\w'.cell? ⟨w.heap.size,2,none⟩=some (.int .i64 W.time)/\w'.cell? ⟨w.heap.size,3,none⟩=some (.int .i64 W.next)/\w'.cell? ⟨w.heap.size,4,none⟩=some (.slice (some ⟨b,off,none⟩) W.sn c')/\w'.cell? ⟨w.heap.size,5,none⟩=some (.slice a W.pn c)/\w'.cell? ⟨b,off+k*6+2,none⟩=some (.int .i64 (W.zOd k).zOg)/\w'.cell? ⟨b,off+k*6+3,none⟩=some (.int .i64 (W.zOd k).rs)/\w'.cell? ⟨b,off+k*6+4,none⟩=some (.int .i64 (W.zOd k).rb)) (go_keep)
      (first | (go_at_call 167;refine(Hc.out _ ?_).mono ?_;(exact(Below.refl _ _).drew);rintro e w6 ⟨⟨t6,rfl,ht6⟩,aA⟩;obtain⟨⟨y0,_⟩,⟨y1,_⟩,⟨y2,_⟩,⟨y3,_⟩,⟨y4,_⟩,⟨y5,_⟩⟩:=HX.out.zOU (zJ aA);have z3:=(aA.cell (p:=⟨b,off+k*6+2,none⟩) (zD q3)).trans q3;have z5:=(aA.cell (p:=⟨b,off+k*6+3,none⟩) (zD q5)).trans q5;have z6:=(aA.cell (p:=⟨b,off+k*6+4,none⟩) (zD q6)).trans q6))
     have cA:=yw hb aA;have eA:=zB (HX.out.zOU (zJ aA));have Ht:=zB ht6;clear ht6 aA z3 z5 z6 y0 y1 y2 y3 y4 y5 q3 q5 q6 HX;cases t6
     ·have Hn:=zB (show ¬zB6 W (W.pn+k)from fun hA=>absurd (Ht.out.2 hA) (by simp));clear Ht;go_wp2;go_ret;exact⟨zK.no fun hA=>Hn.out (hA _ (by unfold qf;omega)),cA⟩
     ·have Hn:=zB (Ht.out.1 rfl);clear Ht;go_wp2;go_roundw
      case rel=>
       refine⟨k+1,by omega,by go_num,fun j hj=>?_,eA.out,cA⟩;by_cases e:j=W.pn+k
       ·subst e;exact Hn.out
       ·exact bA.out j (by omega)
      case measure=>simp[intOf];omega
    ·obtain rfl:k=W.sn:=(by omega);go_wp2;go_ret;exact⟨zK.yes bA.out,hb⟩
end Go.Proofs.YtgabgheflgjgiaaGreatDoor

/- A part of the proof. -/
import Derived.Test.YtgabgheflgjgiaaGreatDoorU11
import Derived.Test.YtgabgheflgjgiaaGreatDoorU6
import Derived.LaidEql
import Derived.Stop.Asserts
import Derived.RowKitTokens
set_option linter.unusedVariables false
set_option maxRecDepth 20000
set_option maxHeartbeats 4000000
namespace Go.Proofs.YtgabgheflgjgiaaGreatDoor
open Go.RowKit Go.Maps
theorem qH.atW{w:World}{base:Nat}{v:Value}{l:List (Int×Int)}(h:qH w base v l)(hm:l.length<=1000):zp w 0 w.heap.size v l.length (zg l) (zj l):=by
 obtain⟨b,h1,h2⟩:=h.own (by unfold maxLen;omega);exact h1.at (fun h0=>⟨Nat.zero_le _,(h2 h0).2.2⟩)
def zNw(now old:List (Int×Int))(t tm:Int)(n:Nat):Prop:=∀i,i<n->zj now i<=tm/\((zg now i,zj now i)∈old↔zj now i<=t)
theorem zIU(aA bA:List (Int×Int))(t tm:Int):zNw aA bA t tm aA.length↔zKi aA bA t tm:=by
 constructor
 ·intro h x hx;obtain⟨j,hj,e⟩:=List.getElem_of_mem hx;have:=h j hj;unfold zg zj at this;rw[yQ hj,e]at this;exact this
 ·intro h i hi;have:=h _ (List.getElem_mem hi);unfold zg zj;rw[yQ hi];exact this
def zCA(W:zH):Prop:=∀k,k<W.pn->1<=(W.zOw k).id
def zIL(W:zH)(x s b t:Int):Prop:=s=(zN W x).rs/\b=(zN W x).rb/\t=(zN W x).time
theorem zEq{W:zH}{x s b t:Int}(hp:zCA W)(h:zIM W x s b t):zIL W x s b t:=by
 rcases h with⟨k,_,hk,h1,h2,h3⟩ | ⟨hn,h1,h2,h3⟩
 ·unfold zIL;rw[qX hk];exact⟨h1,h2,h3⟩
 ·have e:zN W x=qu:=by
   rcases hn with rfl | hn
   ·exact zET (fun k hk e=>by have:=hp k hk;omega)
   ·exact zET hn
  unfold zIL;rw[e];exact⟨h1,h2,h3⟩
theorem zEH(v0 v1 v2 v3:Value)(lo hi:Nat)(W:zH)(x rs rb tm t:Int)(aA bA:List (Int×Int))(w:World)(h:zr w lo hi v0 v1 v2 v3 W)(hR:zt W.zOv)(hT:qQ W.zOv rs rb)(hA:qQ W.zOv (zN W x).rs (zN W x).rb)(hP:zCA W)(mA:aA=zY W.zOv rs rb)(nA:bA=zY W.zOv (zN W x).rs (zN W x).rb)(ht:t=(zN W x).time) :
  Calls Tryz.prog 167 #[qT v0 v1 v2 v3 W,.int .i64 x,.agg #[.int .i64 rs,.int .i64 rb],.int .i64 tm] w fun e w'=>zK (zKi aA bA t tm) e/\Below w.heap.size w w':=by
 have Hp:=zB h;have HR:=zB hR;have HT:=zB hT;have HA:=zB hA;have HP:=zB hP;have iA:=zB mA;have jA:=zB nA;have mB:=zB ht;clear h hR hT hA hP mA nA ht;have ha:=zC w (.cells #[v0,v1,.int .i64 W.time,.int .i64 W.next,v2,v3] 40);have hB:=za.zOt w v0 v1 (.int .i64 W.time) (.int .i64 W.next) v2 v3 40;have dB:=zC (w.alloc (.cells #[v0,v1,.int .i64 W.time,.int .i64 W.next,v2,v3] 40)) (.cells #[.int .i64 rs,.int .i64 rb] 99);have hX:=zk.zOt (w.alloc (.cells #[v0,v1,.int .i64 W.time,.int .i64 W.next,v2,v3] 40)) (.int .i64 rs) (.int .i64 rb) 99;have cB:=hB.zOp dB;have rA:=zA ha dB;have aC:(w.alloc (.cells #[v0,v1,.int .i64 W.time,.int .i64 W.next,v2,v3] 40)).heap.size=w.heap.size+1:=World.size_alloc _ _;rw[aC]at hX;clear ha dB hB;go_enter Tryz.func167,Tryz.ntmps167;go_wp2_with fail;generalize ((w.alloc (.cells #[v0,v1,.int .i64 W.time,.int .i64 W.next,v2,v3] 40)).alloc (.cells #[.int .i64 rs,.int .i64 rb] 99))=W0 at hX cB rA ⊢;refine(yS v0 v1 v2 _ lo hi W x W0 (Hp.out.zOp rA)).mono ?_;rintro e w1 ⟨s,b,t',rfl,hF,pA⟩;have hq:=zEq HP.out hF;obtain rfl:t=t':=mB.out.trans hq.2.2.symm;have oB:=zB (show qQ W.zOv s b by rw[hq.1,hq.2.1];exact HA.out);have HF:=zB (show bA=zY W.zOv s b by rw[jA.out,hq.1,hq.2.1]);clear hq mB jA HA;have pB:=hX.zOp pA;have nB:=cB.zOp pA;have sB:=zA rA pA;have oA:=zC w1 (.cells #[.int .i64 s,.int .i64 b] 99);have lB:=zB (zk.zOt w1 (.int .i64 s) (.int .i64 b) 99);have bB:=zB (pB.zOp oA);have aB:=zB (nB.zOp oA);have cA:=zA sB oA;clear hX cB rA pA aC hF pB nB sB oA;obtain⟨⟨y0,y1⟩,⟨y2,y3⟩⟩:=lB.out;obtain⟨⟨z0,z1⟩,⟨z2,z3⟩⟩:=bB.out;obtain⟨⟨x0,x1⟩,⟨x2,x3⟩,⟨x4,x5⟩,⟨x6,x7⟩,⟨x8,x9⟩,⟨gB,iB⟩⟩:=aB.out;go_wp2_with fail;generalize w1.alloc (.cells #[.int .i64 s,.int .i64 b] 99)=w3 at *;refine(q8 v0 v1 lo hi W.zOv s b w3 (Hp.out.zOv.zOp cA) HR.out oB.out).mono ?_;rintro e w4 ⟨vo,rfl,vB,sA⟩;have ho:=(vB.atW (by have:=qs W.zOv s b;omega));have kB:=zB (bB.out.zOp sA);have jB:=zB (aB.out.zOp sA);have dA:=zA cA sA;clear vB sA bB aB lB cA x0 x1 x2 x3 x4 x5 x6 x7 x8 x9 gB iB y0 y1 y2 y3 z0 z1 z2 z3;obtain⟨⟨z0,z1⟩,⟨z2,z3⟩⟩:=kB.out;obtain⟨⟨x0,x1⟩,⟨x2,x3⟩,⟨x4,x5⟩,⟨x6,x7⟩,⟨x8,x9⟩,⟨gB,iB⟩⟩:=jB.out;go_wp2_with fail;refine(q8 v0 v1 lo hi W.zOv rs rb w4 (Hp.out.zOv.zOp dA) HR.out HT.out).mono ?_;rintro e w5 ⟨vn,rfl,tB,eB⟩;have hn:=(tB.atW (by have:=qs W.zOv rs rb;omega));have fB:=ho.zOp eB;have eA:=zA dA eB;clear tB eB kB jB dA ho x0 x1 x2 x3 x4 x5 x6 x7 x8 x9 gB iB z0 z1 z2 z3;rw[<-iA.out]at hn;rw[<-HF.out]at fB;clear HF oB HT iA HR HP;obtain⟨mn,an,cn,rfl,eC,_⟩:=id hn;have Hn:=zB hn;have Ho:=zB fB;clear hn fB;unfold maxLen at mn;go_wp2
 go_loopw [13] (fun i wr=>∃k:Nat,k<=aA.length/\i = .int .i64 k/\zNw aA bA t tm k/\Below w5.heap.size w5 wr) (fun i _=>aA.length - (intOf i).toNat)
 case atStart=>exact⟨0,Nat.zero_le _,rfl,fun j hj=>absurd hj (Nat.not_lt_zero _),Below.refl _ _⟩
 case round=>
  obtain⟨k,hk,rfl,kA,hb⟩:=hrel;have fA:=zB kA;clear kA;by_cases vA:k<aA.length
  ·have dC:(k:Int)<(aA.length:Int):=(by omega);obtain⟨b1,off,rfl,q0,q1⟩:=(Hn.out.zOp hb).cellsD vA;by_cases hg:tm<zj aA k
   ·have hd:decide (tm<zj aA k)=true:=(by simp[hg]);have Hg:=zB hg;clear hg;go_wp2
    go_quiet (fail)
    go_wp2;go_ret;exact⟨zK.no fun hA=>absurd ((zIU _ _ _ _).2 hA k vA).1 (by have:=Hg.out;omega),zV (zA eA hb) _⟩
   ·have hd:decide (tm<zj aA k)=false:=(by simp;omega);have Hg:=zB (show zj aA k<=tm by omega);clear hg;go_wp2_with fail;go_region_held3 (fun w'=>w'.cell? ⟨b1,off+k*2,none⟩=some (.int .i64 (zg aA k))/\w'.cell? ⟨b1,off+k*2+1,none⟩=some (.int .i64 (zj aA k))) (go_keep)
     (first | (go_at_call 165;refine(zCv _ bA.length 0 w4.heap.size (zg bA) (zj bA) (zg aA k) (zj aA k) _ ?_).mono ?_;(exact(Ho.out.zOp hb).zOp ((Below.refl _ _).drew));rintro e w6 ⟨⟨t6,rfl,bC⟩,tA⟩;have z1:=(tA.cell (p:=⟨b1,off+k*2,none⟩) (zD q0)).trans q0;have z2:=(tA.cell (p:=⟨b1,off+k*2+1,none⟩) (zD q1)).trans q1))
    have rB:=yw hb tA;have cC:=zB (bC.trans zCx);clear bC tA z1 z2 q0 q1 hd;have lA:(t6 == decide (zj aA k<=t))=true↔((zg aA k,zj aA k)∈bA↔zj aA k<=t):=by
     have ho:=cC.out;cases t6<;>simp_all
    have gA:=zB lA;clear lA;cases hc:(t6 == decide (zj aA k<=t))
    ·go_wp2;go_ret;exact⟨zK.no fun hA=>absurd (gA.out.2 ((zIU _ _ _ _).2 hA k vA).2) (by simp[hc]),zA eA rB⟩
    ·go_wp2;go_roundw
     case rel=>exact⟨k+1,by omega,by go_num,qE vA fA.out ⟨Hg.out,gA.out.1 hc⟩,rB⟩
     case measure=>simp[intOf];omega
  ·obtain rfl:k=aA.length:=(by omega);go_wp2;go_ret;exact⟨zK.yes ((zIU _ _ _ _).1 fA.out),zA eA hb⟩
def qL(W:zH)(x:Int):Prop:=∃k,k<W.pn/\(W.zOw k).id=x
def zx(W:zH)(x:ByteArray):Prop:=∃k,k<W.sn/\(W.zOy k).name=x
def zEC(W:zH)(i:Nat):Prop:=qV (W.zOy i).name/\(0<i->zAN (W.zOy (i - 1)).name (W.zOy i).name)/\((W.zOy i).zO0≠0->qL W (W.zOy i).zO0)/\((W.zOy i).origin≠0->qL W (W.zOy i).origin)
def zFm(W:zH)(i:Nat):Prop:=1<=(W.zOw i).id/\(W.zOw i).id<W.next/\1<=(W.zOw i).time/\(W.zOw i).time<W.time/\qV (W.zOw i).name/\zx W (W.zOw i).set
def zEp(W:zH)(i:Nat):Prop:=(0<i->(W.zOw (i - 1)).id<(W.zOw i).id/\(W.zOw (i - 1)).time<(W.zOw i).time)/\((W.zOw i).zO0≠0->(W.zOw i).zO0<(W.zOw i).id/\qL W (W.zOw i).zO0)
def zME(W:zH)(i j:Nat):Prop:=∀k,k<j->¬((W.zOw k).set=(W.zOw i).set/\(W.zOw k).name=(W.zOw i).name)
def zMF(W:zH)(i:Nat):Prop:=zFm W i/\zEp W i/\zME W i i
def zAi(W:zH):Prop:=zCS W.time 1 900000/\zCS W.next 1 900000/\W.sn<=8/\W.pn<=20/\(∀i,i<W.sn->zEC W i)/\∀i,i<W.pn->zMF W i
theorem qY{W:zH}{x r:Int}(h:zEl W.pn (fun k=>(W.zOw k).id=x) r):(qL W x/\0<=r/\r<W.pn/\(W.zOw r.toNat).id=x)\/(¬qL W x/\r = -1):=by
 rcases h with⟨k,hk,e,_,rfl⟩ | ⟨hn,rfl⟩
 ·exact Or.inl ⟨⟨k,hk,e⟩,by omega,by omega,by simpa using e⟩
 ·exact Or.inr ⟨fun ⟨k,hk,e⟩=>hn k hk e,rfl⟩
theorem zLL{W:zH}{x:ByteArray}{r:Int}(h:zEl W.sn (fun k=>(W.zOy k).name=x) r):(zx W x/\0<=r)\/(¬zx W x/\r = -1):=by
 rcases h with⟨k,hk,e,_,rfl⟩ | ⟨hn,rfl⟩
 ·exact Or.inl ⟨⟨k,hk,e⟩,by omega⟩
 ·exact Or.inr ⟨fun ⟨k,hk,e⟩=>hn k hk e,rfl⟩
def zEk(w:World)(b:Nat)(v0 v1 v2 v3 v4 v5 v6 v7:Value):Prop:=(zT w b 0 v0/\zT w b 1 v1/\zT w b 2 v2/\zT w b 3 v3)/\(zT w b 4 v4/\zT w b 5 v5/\zT w b 6 v6/\zT w b 7 v7)
theorem zEk.zOp{w w':World}{b:Nat}{v0 v1 v2 v3 v4 v5 v6 v7:Value}(h:zEk w b v0 v1 v2 v3 v4 v5 v6 v7)(t:Below w.heap.size w w'):zEk w' b v0 v1 v2 v3 v4 v5 v6 v7:=
 ⟨⟨h.1.1.zOp t,h.1.2.1.zOp t,h.1.2.2.1.zOp t,h.1.2.2.2.zOp t⟩,h.2.1.zOp t,h.2.2.1.zOp t,h.2.2.2.1.zOp t,h.2.2.2.2.zOp t⟩
theorem zEk.zOt(w:World)(v0 v1 v2 v3 v4 v5 v6 v7:Value)(t:TypeId):zEk (w.alloc (.cells #[v0,v1,v2,v3,v4,v5,v6,v7] t)) w.heap.size v0 v1 v2 v3 v4 v5 v6 v7:=by
 have hb:(w.alloc (.cells #[v0,v1,v2,v3,v4,v5,v6,v7] t)).heap[w.heap.size]?=some (.cells #[v0,v1,v2,v3,v4,v5,v6,v7] t):=heap_alloc_new _ _;exact⟨⟨zL hb rfl,zL hb rfl,zL hb rfl,zL hb rfl⟩,zL hb rfl,zL hb rfl,zL hb rfl,zL hb rfl⟩
def Mid(a x b:Int):Prop:=a<x/\x<b
def zJN(f:Nat->zu):Nat->ByteArray
 | 0=>⟨#[]⟩
 | k+1=>(f k).name
def zKn(n:Nat)(f:Nat->zu):Prop:=n<=8/\∀i,i<n->qV (f i).name/\zAN (zJN f i) (f i).name
def ins{α : Type}(f:Nat->α)(k:Nat)(s:α):Nat->α:=fun j=>if j<k then f j else if j=k then s else f (j - 1)
theorem zDi{α : Type}{f:Nat->α}{k j:Nat}{s:α}(h:j<k):ins f k s j=f j:=if_pos h
theorem zEY{α : Type}{f:Nat->α}{k:Nat}{s:α}:ins f k s k=s:=by
 unfold ins;rw[if_neg (Nat.lt_irrefl _),if_pos rfl]
theorem zDh{α : Type}{f:Nat->α}{k j:Nat}{s:α}(h:k<j):ins f k s j=f (j - 1):=by
 unfold ins;rw[if_neg (by omega),if_neg (by omega)]
def zEr(s:zu)(dv:Value)(r:Nat):Value:=cellSet (fun _=>s) (fun _=>dv) 0 r
theorem zNZ(f:Nat->zu)(kv:Nat->Value)(s:zu)(dv:Value){k j:Nat}(r:Nat)(h:j<k):cellSet (ins f k s) (ins kv k dv) j r=cellSet f kv j r:=by
 unfold cellSet;rw[zDi h,zDi h]
theorem zNX(f:Nat->zu)(kv:Nat->Value)(s:zu)(dv:Value)(k r:Nat):cellSet (ins f k s) (ins kv k dv) k r=zEr s dv r:=by
 unfold zEr cellSet;rw[zEY,zEY]
theorem zNY(f:Nat->zu)(kv:Nat->Value)(s:zu)(dv:Value){k j:Nat}(r:Nat)(h:k<j):cellSet (ins f k s) (ins kv k dv) j r=cellSet f kv (j - 1) r:=by
 unfold cellSet;rw[zDh h,zDh h]
def zDU(W:zH)(x:ByteArray)(k:Nat):Prop:=k<=W.sn/\(∀j,j<k->zAN (W.zOy j).name x)/\∀j,k<=j->j<W.sn->zAN x (W.zOy j).name
theorem zLm{a b:ByteArray}(h:zAN a b):¬zAN b a:=fun h'=>zM0 (zDq h h') rfl
theorem zM1(a b:ByteArray)(aA:a≠b):zAN a b\/zAN b a:=by
 rcases zI8 a.toList b.toList with h | h | h
 ·exact Or.inl h
 ·have:=zBK aA;rw[h]at this;simp at this
 ·exact Or.inr h
theorem zLl{n:Nat}{f:Nat->zu}(h:zKn n f):∀{i j:Nat},i<j->j<n->zAN (f i).name (f j).name:=by
 intro i j aA hj
 induction j with
 | zero=>omega
 | succ j ih=>
  have h1:=(h.2 (j+1) hj).2;have h2:zJN f (j+1)=(f j).name:=(by unfold zJN;simp);rw[h2]at h1;by_cases e:i=j
  ·subst e;exact h1
  ·exact zDq (ih (by omega) (by omega)) h1
theorem zDU.of{W:zH}{x:ByteArray}{k:Nat}(hI:zKn W.sn W.zOy)(bA:¬zx W x)(hk:k<=W.sn)(h1:∀j,j<k->zAN (W.zOy j).name x)(h2:k<W.sn->¬zAN (W.zOy k).name x):zDU W x k:=by
 refine⟨hk,h1,fun j hj aA=>?_⟩;have h3:zAN x (W.zOy k).name:=by
  rcases zM1 (W.zOy k).name x (fun e=>bA ⟨k,by omega,e⟩)with h | h
  ·exact absurd h (h2 (by omega))
  ·exact h
 by_cases e:j=k
 ·subst e;exact h3
 ·exact zDq h3 (zLl hI (by omega) aA)
theorem zDU.has{W:zH}{x:ByteArray}(hI:zKn W.sn W.zOy)(aA:¬zx W x):∃k,zDU W x k:=by
 have:∀m,m<=W.sn->(∃k,zDU W x k)\/∀j,j<m->zAN (W.zOy j).name x:=by
  intro m
  induction m with
  | zero=>exact fun _=>Or.inr (fun j hj=>absurd hj (Nat.not_lt_zero _))
  | succ m ih=>
   intro hm;rcases ih (by omega)with h | h
   ·exact Or.inl h
   ·by_cases e:zAN (W.zOy m).name x
    ·refine Or.inr (fun j hj=>?_);by_cases e2:j=m
     ·subst e2;exact e
     ·exact h j (by omega)
    ·exact Or.inl ⟨m,zDU.of hI aA (by omega) h (fun _=>e)⟩
 rcases this W.sn (Nat.le_refl _)with h | h
 ·exact h
 ·exact⟨W.sn,Nat.le_refl _,h,fun j h1 h2=>by omega⟩
def zBg(W:zH)(k:Nat)(s:zu):zH:={W with sn:=W.sn+1,zOy:=ins W.zOy k s}
theorem zNC{w w':World}{bs g cap n k:Nat}{kb:Nat->Nat}{kv:Nat->Value}{v:Value}{f:Nat->zu}{s:zu}{S:Nat->Prop}(ho:qK w bs kb kv v n f)(eA:qy kb n f)(hk:k<=n)(kA:s.dn=0)(lA:s.name.size<=maxLen)
  (ht:zE S w w') (hS:∀i,i<n->0<(f i).dn->¬S (kb i)/\kb i≠g) (hm:n+1<=maxLen) (cA:n+1<=cap)
  (hc:∀j,j<n+1->∀r,r<6->zT w' g (j*6+r) (cellSet (ins f k s) (ins kv k (.slice none 0 0)) j r)) :
  qK w' g (ins kb k g) (ins kv k (.slice none 0 0)) (.slice (some ⟨g,0,none⟩) (n+1) cap) (n+1) (ins f k s)/\qy (ins kb k g) (n+1) (ins f k s):=by
 have fA:∀i,i<n->∃o,qx w bs o (kb i) (kv i) (f i):=fun i hi=>by
  obtain⟨_,a,c,hv,_,hx⟩:=ho;obtain⟨off,ha,h⟩:=hx (by omega);exact⟨_,h i hi⟩
 have bA:∀i,i<n->ze w' (kb i) (kv i) (f i).dn (f i).ds (f i).db/\(f i).name.size<=maxLen/\(0<(f i).dn->kb i≠g):=fun i hi=>by
  obtain⟨o,h⟩:=fA i hi;exact⟨h.zO5.zOr ht (fun h0=>(hS i hi h0).1),h.zO6,fun h0=>(hS i hi h0).2⟩
 have dA:∀i,i<n+1->ze w' (ins kb k g i) (ins kv k (.slice none 0 0) i) (ins f k s i).dn (ins f k s i).ds (ins f k s i).db/\(ins f k s i).name.size<=maxLen/\(0<(ins f k s i).dn->ins kb k g i≠g):=fun i hi=>by
  rcases Nat.lt_trichotomy i k with e | e | e
  ·rw[zDi e,zDi e,zDi e];exact bA i (by omega)
  ·subst e;rw[zEY,zEY,zEY];refine⟨⟨by omega,none,0,by rw[kA],by omega,fun h=>by omega⟩,lA,fun h=>by omega⟩
  ·rw[zDh e,zDh e,zDh e];exact bA (i - 1) (by omega)
 refine⟨⟨hm,_,_,rfl,cA,fun _=>⟨0,rfl,fun i hi=>?_⟩⟩,?_⟩
 ·rw[Nat.zero_add];obtain⟨h1,h2,h3⟩:=dA i hi;have aA:=hc i hi;exact⟨aA 0 (by omega),aA 1 (by omega),aA 2 (by omega),aA 3 (by omega),aA 4 (by omega),aA 5 (by omega),h1,h2,h3⟩
 ·intro i j hi hj iA h1 h2;have key:∀i,i<n+1->0<(ins f k s i).dn->∃i',i'<n/\ins kb k g i=kb i'/\0<(f i').dn/\i=(if i'<k then i' else i'+1):=fun i hi h0=>by
   rcases Nat.lt_trichotomy i k with e | e | e
   ·rw[zDi e]at h0;exact⟨i,by omega,zDi e,h0,by rw[if_pos e]⟩
   ·subst e;rw[zEY]at h0;omega
   ·rw[zDh e]at h0;exact⟨i - 1,by omega,zDh e,h0,by rw[if_neg (by omega)];omega⟩
  obtain⟨i',gA,e1,g1,f1⟩:=key i hi h1;obtain⟨j',jA,e2,g2,f2⟩:=key j hj h2;rw[e1,e2];exact eA i' j' gA jA (fun e=>iA (by rw[f1,f2,e])) g1 g2
theorem zJ2{w w':World}{P Q R S:Nat->Prop}{v0 v1 v2 v3:Value}{W:zH}{lo hi m bs g cap k:Nat}{kb:Nat->Nat}{kv:Nat->Value}{s:zu}
  (hP:qN w P v0 v1 W.zOv) (hO:qK w bs kb kv v2 W.sn W.zOy) (kA:qy kb W.sn W.zOy) (hq:∀j,yo bs kb W.sn W.zOy j->Q j) (hZ:yp w R v3 W.pn W.zOw) (pq:∀j,P j->¬Q j) (pr:∀j,P j->¬R j) (qr:∀j,Q j->¬R j)
  (aA:∀j,P j\/Q j\/R j->lo<=j/\j<hi) (hk:k<=W.sn) (mA:s.dn=0) (nA:s.name.size<=maxLen) (ht:zE S w w') (hS:∀j,S j->(0<W.sn/\j=bs)\/j<lo\/hi<=j) (hg:(0<W.sn/\g=bs)\/(hi<=g/\m<=g)) (lA:g<w'.heap.size) (hm:W.sn+1<=maxLen) (eA:W.sn+1<=cap)
  (hc:∀j,j<W.sn+1->∀r,r<6->zT w' g (j*6+r) (cellSet (ins W.zOy k s) (ins kv k (.slice none 0 0)) j r)) :
  zAF w' lo hi m w'.heap.size v0 v1 (.slice (some ⟨g,0,none⟩) (W.sn+1) cap) v3 (zBg W k s):=by
 have dA:0<W.sn->Q bs:=fun h0=>hq _ (Or.inl ⟨h0,rfl⟩)
 have iA:∀j,P j->¬S j:=fun j hj e=>by
  have h1:=aA j (Or.inl hj);rcases hS j e with⟨h0,rfl⟩ | h | h
  ·exact pq _ hj (dA h0)
  ·omega
  ·omega
 have jA:∀j,R j->¬S j:=fun j hj e=>by
  have h1:=aA j (Or.inr (Or.inr hj));rcases hS j e with⟨h0,rfl⟩ | h | h
  ·exact qr _ (dA h0) hj
  ·omega
  ·omega
 have fA:∀i,i<W.sn->0<(W.zOy i).dn->kb i≠bs:=fun i hi h0=>by
  obtain⟨_,a,c,hv,_,hx⟩:=hO;obtain⟨off,ha,h⟩:=hx (by omega);exact(h i hi).zO4 h0
 have hD:∀i,i<W.sn->0<(W.zOy i).dn->¬S (kb i)/\kb i≠g:=fun i hi h0=>by
  have h1:=aA _ (Or.inr (Or.inl (hq _ (Or.inr ⟨i,hi,h0,rfl⟩))));refine⟨fun e=>?_,fun e=>?_⟩
  ·rcases hS _ e with⟨_,h⟩ | h | h
   ·exact fA i hi h0 h
   ·omega
   ·omega
  ·rcases hg with⟨_,h⟩ | h
   ·exact fA i hi h0 (e.trans h)
   ·omega
 obtain⟨gA,cA⟩:=zNC hO kA hk mA nA ht hD hm eA hc;have bA:∀j,yo g (ins kb k g) (W.sn+1) (ins W.zOy k s) j->Q j\/(hi<=j/\m<=j/\j<w'.heap.size):=by
  rintro j (⟨_,rfl⟩ | ⟨i,oA,h0,rfl⟩)
  ·rcases hg with⟨h0,rfl⟩ | ⟨h1,h2⟩
   ·exact Or.inl (dA h0)
   ·exact Or.inr ⟨h1,h2,lA⟩
  ·rcases Nat.lt_trichotomy i k with e | e | e
   ·rw[zDi e]at h0 ⊢;exact Or.inl (hq _ (Or.inr ⟨i,by omega,h0,rfl⟩))
   ·subst e;rw[zEY]at h0;omega
   ·rw[zDh e]at h0 ⊢;exact Or.inl (hq _ (Or.inr ⟨i - 1,by omega,h0,rfl⟩))
 refine⟨P,_,R,⟨hP.zOr ht iA,⟨g,_,_,gA,cA,fun j hj=>hj⟩,hZ.zOr ht jA,?_,pr,?_⟩,?_⟩
 ·intro j hj h;rcases bA j h with h | h
  ·exact pq j hj h
  ·have:=aA j (Or.inl hj);omega
 ·intro j hj h;rcases bA j hj with h' | h'
  ·exact qr j h' h
  ·have:=aA j (Or.inr (Or.inr h));omega
 ·rintro j (h | h | h)
  ·exact Or.inl (aA j (Or.inl h))
  ·rcases bA j h with h | h
   ·exact Or.inl (aA j (Or.inr (Or.inl h)))
   ·exact Or.inr h.2
  ·exact Or.inl (aA j (Or.inr (Or.inr h)))
open Go.Extern.Stop Go.Stop Go.Extern
abbrev zBU(a:Addr):Value:=.iface 369 (.pointer (some a))
def errG:Nat->Nat
 | 0=>5
 | 1=>4
 | 2=>2
 | 3=>0
 | 4=>1
 | 5=>3
 | _=>7
def zEU:Nat->Int
 | 0=>1
 | 1=>2
 | 2=>4
 | 3=>5
 | 4=>6
 | 5=>7
 | _=>8
structure zOk (w:World) (p:Nat->Addr):Prop where
 cell:∀i,i<7->w.cell? ⟨errG i,0,none⟩=some (zBU (p i))
 row:∀i,i<7->∃cs t,w.heap[(p i).block]?=some (.cells cs t (0,0))
 ne:∀i j,i<7->j<7->i≠j->p i≠p j
theorem zNf{l m:List (Int×Int)}{k:Nat}(hk:k<l.length)(h:(zg l k,zj l k)∈m):zCJ (l.take (k+1)) m=zCJ (l.take k) m:=by
 unfold zg zj at h;rw[yQ hk]at h;unfold zCJ;rw[List.take_succ_eq_append_getElem hk,List.filter_append,List.filter_cons];simp only[List.filter_nil];rw[if_neg (by simp;exact h),List.append_nil]
theorem zMi{l m:List (Int×Int)}{k:Nat}(hk:k<l.length)(h:(zg l k,zj l k)∉m):zCJ (l.take (k+1)) m=zCJ (l.take k) m ++ [(zg l k,zj l k)]:=by
 unfold zg zj at h ⊢;rw[yQ hk]at h ⊢;unfold zCJ;rw[List.take_succ_eq_append_getElem hk,List.filter_append,List.filter_cons];simp only[List.filter_nil];rw[if_pos (by simp;exact h)]
theorem zMh(l m:List (Int×Int))(k:Nat):(zCJ (l.take k) m).length<=k:=by
 unfold zCJ;exact Nat.le_trans (List.length_filter_le _ _) (by rw[List.length_take];omega)
theorem zFu(v0 v1 v2 v3 vd:Value)(lo hi mC iC dn:Nat)(ds db:Nat->Int)(W:zH)(x rs rb:Int)(dA aA:List (Int×Int))(w:World)(h:zr w lo hi v0 v1 v2 v3 W)(hD:zp w mC iC vd dn ds db)(hR:zt W.zOv)(hT:qQ W.zOv rs rb)(hA:qQ W.zOv (zN W x).rs (zN W x).rb)(hP:zCA W)(nA:dA=zY W.zOv rs rb)(oA:aA=zY W.zOv (zN W x).rs (zN W x).rb) :
  Calls Tryz.prog 103 #[qT v0 v1 v2 v3 W,.int .i64 x,.agg #[.int .i64 rs,.int .i64 rb],vd] w fun e w'=>zK (zC8 dn ds db (zCJ aA dA)) e/\Below w.heap.size w w':=by
 have Hp:=zB h;have HR:=zB hR;have HT:=zB hT;have HA:=zB hA;have HP:=zB hP;have fA:=zB nA;have lA:=zB oA;have HD:=zB hD;clear h hR hT hA hP nA oA hD;have ha:=zC w (.cells #[v0,v1,.int .i64 W.time,.int .i64 W.next,v2,v3] 40);have hB:=za.zOt w v0 v1 (.int .i64 W.time) (.int .i64 W.next) v2 v3 40;have iB:=zC (w.alloc (.cells #[v0,v1,.int .i64 W.time,.int .i64 W.next,v2,v3] 40)) (.cells #[.int .i64 rs,.int .i64 rb] 99);have hX:=zk.zOt (w.alloc (.cells #[v0,v1,.int .i64 W.time,.int .i64 W.next,v2,v3] 40)) (.int .i64 rs) (.int .i64 rb) 99;have gB:=hB.zOp iB;have aB:=zA ha iB;have lC:(w.alloc (.cells #[v0,v1,.int .i64 W.time,.int .i64 W.next,v2,v3] 40)).heap.size=w.heap.size+1:=World.size_alloc _ _;rw[lC]at hX;clear ha iB hB;go_enter Tryz.func103,Tryz.ntmps103;go_wp2_with fail;generalize ((w.alloc (.cells #[v0,v1,.int .i64 W.time,.int .i64 W.next,v2,v3] 40)).alloc (.cells #[.int .i64 rs,.int .i64 rb] 99))=W0 at hX gB aB ⊢;refine(yS v0 v1 v2 _ lo hi W x W0 (Hp.out.zOp aB)).mono ?_;rintro e w1 ⟨s,b,t,rfl,hF,vA⟩;have hq:=zEq HP.out hF;have dC:=zB (show qQ W.zOv s b by rw[hq.1,hq.2.1];exact HA.out);have HF:=zB (show aA=zY W.zOv s b by rw[lA.out,hq.1,hq.2.1]);clear hq lA HA;have eC:=hX.zOp vA;have bC:=gB.zOp vA;have fC:=zA aB vA;have tA:=zC w1 (.cells #[.int .i64 s,.int .i64 b] 99);have aC:=zB (zk.zOt w1 (.int .i64 s) (.int .i64 b) 99);have eB:=zB (eC.zOp tA);have dB:=zB (bC.zOp tA);have iA:=zA fC tA;clear hX gB aB vA lC hF eC bC fC tA;obtain⟨⟨y0,y1⟩,⟨y2,y3⟩⟩:=aC.out;obtain⟨⟨z0,z1⟩,⟨z2,z3⟩⟩:=eB.out;obtain⟨⟨x0,x1⟩,⟨x2,x3⟩,⟨x4,x5⟩,⟨x6,x7⟩,⟨x8,x9⟩,⟨oB,pB⟩⟩:=dB.out;go_wp2_with fail;generalize w1.alloc (.cells #[.int .i64 s,.int .i64 b] 99)=w3 at *;refine(q8 v0 v1 lo hi W.zOv s b w3 (Hp.out.zOv.zOp iA) HR.out dC.out).mono ?_;rintro e w4 ⟨vo,rfl,kC,bB⟩;have ho:=(kC.atW (by have:=qs W.zOv s b;omega));have vB:=zB (eB.out.zOp bB);have sB:=zB (dB.out.zOp bB);have jA:=zA iA bB;clear kC bB eB dB aC iA x0 x1 x2 x3 x4 x5 x6 x7 x8 x9 oB pB y0 y1 y2 y3 z0 z1 z2 z3;obtain⟨⟨z0,z1⟩,⟨z2,z3⟩⟩:=vB.out;obtain⟨⟨x0,x1⟩,⟨x2,x3⟩,⟨x4,x5⟩,⟨x6,x7⟩,⟨x8,x9⟩,⟨oB,pB⟩⟩:=sB.out;go_wp2_with fail;refine(q8 v0 v1 lo hi W.zOv rs rb w4 (Hp.out.zOv.zOp jA) HR.out HT.out).mono ?_;rintro e w5 ⟨vn,rfl,jC,jB⟩;have hn:=(jC.atW (by have:=qs W.zOv rs rb;omega));have cB:=ho.zOp jB;have mA:=zA jA jB;clear jC jB vB sB jA ho x0 x1 x2 x3 x4 x5 x6 x7 x8 x9 oB pB z0 z1 z2 z3;have HL:=zB (show dA.length<=73/\aA.length<=73 by rw[fA.out,HF.out];exact⟨qs _ _ _,qs _ _ _⟩);rw[<-fA.out]at hn;rw[<-HF.out]at cB;clear HF dC HT fA HR HP;obtain⟨mo,ao,co,rfl,fD,_⟩:=id cB;have bD:aA.length<=73:=HL.out.2;have Hn:=zB hn;have Ho:=zB cB;have nC:=zB (HD.out.zOp mA);clear hn cB HD;unfold maxLen at mo;obtain⟨i0,gC,nB⟩:=Option.map_eq_some_iff.1 zCt;simp only[Prod.mk.injEq]at nB;have HI:=zB (And.intro gC nB);clear gC nB;have rB:=zB (zC w5 (.cells #[] 99));have tB:=zB (show qH (w5.alloc (.cells #[] 99)) w5.heap.size (.slice (some ⟨w5.heap.size,0,none⟩) 0 0) [] from World.ownsRow_lit (e:=99) (size:=2) w5 #[] 0 (Nat.le_refl _) (by unfold maxLen;omega) rfl);go_wp2
 go_loopw [13,14] (fun vw i wr=>∃k:Nat,k<=aA.length/\i = .int .i64 k/\qH wr w5.heap.size vw (zCJ (aA.take k) dA)/\Below w5.heap.size w5 wr) (fun _ i _=>aA.length - (intOf i).toNat)
 case atStart=>exact⟨0,Nat.zero_le _,rfl,by rw[List.take_zero];exact tB.out,rB.out⟩
 case round=>
  obtain⟨k,hk,rfl,rA,hb⟩:=hrel;have cA:=zB rA;clear rA tB rB;by_cases mB:k<aA.length
  ·have tC:(k:Int)<(aA.length:Int):=(by omega);obtain⟨b1,off,rfl,q0,q1⟩:=(Ho.out.zOp hb).cellsD mB;go_wp2_with fail;refine(zCv _ dA.length 0 w5.heap.size (zg dA) (zj dA) (zg aA k) (zj aA k) _ (Hn.out.zOp hb)).mono ?_;rintro e w6 ⟨⟨t6,rfl,sA⟩,gA⟩;have z0:=(gA.cell (p:=⟨b1,off+k*2,none⟩) (zD q0)).trans q0;have z1:=(gA.cell (p:=⟨b1,off+k*2+1,none⟩) (zD q1)).trans q1;have kB:=zA hb gA;have bA:=zB (cA.out.zOp gA);have fB:=zB (sA.trans zCx);clear sA gA q0 q1 cA;cases t6
   ·have lB:=zC w6 (.cells #[.int .i64 (zg aA k),.int .i64 (zj aA k)] 99);have eA:=zB (bA.out.zOp lB);have cC:=zA kB lB;have dD:=kB.size;have eD:(w6.alloc (.cells #[.int .i64 (zg aA k),.int .i64 (zj aA k)] 99)).heap.size=w6.heap.size+1:=World.size_alloc _ _;have HN:=zB (World.news_of_block (heap_alloc_last w6 (.cells #[.int .i64 (zg aA k),.int .i64 (zj aA k)] 99)));have sC:=zMh aA dA k;clear lB bA;go_wp2_with (first
     | (at_builtin;refine wpList_append_lies _ rfl _ _ 100 rfl w5.heap.size 99 i0 (.agg #[.int .i64 0,.int .i64 0]) 2 16 (by kernel_rfl) HI.out.1 HI.out.2.1 HI.out.2.2.1 HI.out.2.2.2 rfl (by decide) _ _ _ rfl eA.out ⟨w6.heap.size,0,none⟩ 1 1 [.int .i64 (zg aA k),.int .i64 (zj aA k)] rfl rfl HN.out (by simp[Value.oneCell']) (by decide) (by unfold maxLen;omega) (by omega) (by omega) _ rfl ?_;intro g' pC w8 pA kA rC vC)
     | go_in)
    go_roundw
    case rel=>exact⟨k+1,by omega,by go_num,by rw[zMi mB (fun h=>absurd (fB.out.2 h) (by simp))];exact qH.next pA,cC.grown kA cC.size (fun q hq=>(eA.out.lt hq).1)⟩
    case measure=>simp[intOf];omega
   ·have Hm:=zB (fB.out.1 rfl);clear fB;go_wp2;go_roundw
    case rel=>exact⟨k+1,by omega,by go_num,by rw[zNf mB Hm.out];exact bA.out,kB⟩
    case measure=>simp[intOf];omega
  ·obtain rfl:k=aA.length:=(by omega);have hw:=cA.out;rw[List.take_length]at hw;have cD:(zCJ aA dA).length<=aA.length:=List.length_filter_le _ _;have aD:=hw.atW (by omega);clear hw cA;go_wp2_with fail;refine(zFc vd _ dn mC iC _ 0 wr.heap.size ds db _ _ wr (nC.out.zOp hb) aD).mono ?_;rintro e w6 ⟨⟨t6,rfl,sA⟩,gA⟩;have oC:=zB sA;clear sA;go_wp2;go_ret;exact⟨⟨t6,rfl,oC.out⟩,zA mA (zA hb gA)⟩
def zB8(W:zH)(i:Nat):Prop:=zKi (yf W (zc W i)) (zCR W (zc W i)) (zN W (zc W i).zO0).time (zc W i).time
theorem zAz.snap{W:zH}(h:zAz W){k:Nat}(hk:k<W.pn):qQ W.zOv (W.zOw k).rs (W.zOw k).rb:=by
 have:=h.tree k (by unfold qf;omega);rw[qZ hk]at this;exact this
theorem zAz.set{W:zH}(h:zAz W){k:Nat}(hk:k<W.sn):qQ W.zOv (W.zOy k).rs (W.zOy k).rb:=by
 have:=h.tree (W.pn+k) (by unfold qf;omega);rw[yk]at this;exact this
theorem zJA{v0 v1 v2 v3:Value}{lo hi:Nat}{W:zH}{w:World}(h:zr w lo hi v0 v1 v2 v3 W)(hT:zAz W)(hP:zCA W){k:Nat}(hk:k<W.pn)(w':World)(hb:Below w.heap.size w w') :
  Calls Tryz.prog 167 #[qT v0 v1 v2 v3 W,.int .i64 (W.zOw k).zO0,.agg #[.int .i64 (W.zOw k).rs,.int .i64 (W.zOw k).rb],.int .i64 (W.zOw k).time] w' fun e aA=>zK (zB8 W k) e/\Below w'.heap.size w' aA:=by
 unfold zB8;rw[qZ hk];exact zEH v0 v1 v2 v3 lo hi W _ _ _ _ _ _ _ w' (h.zOp hb) hT.right (hT.snap hk) (hT.old _) hP rfl rfl rfl
theorem zJ3{v0 v1 v2 v3:Value}{lo hi:Nat}{W:zH}{w:World}(h:zr w lo hi v0 v1 v2 v3 W)(hT:zAz W)(hP:zCA W){k:Nat}(hk:k<W.sn)(w':World)(hb:Below w.heap.size w w') :
  Calls Tryz.prog 167 #[qT v0 v1 v2 v3 W,.int .i64 (W.zOy k).zO0,.agg #[.int .i64 (W.zOy k).rs,.int .i64 (W.zOy k).rb],.int .i64 W.time] w' fun e aA=>zK (zB8 W (W.pn+k)) e/\Below w'.heap.size w' aA:=by
 unfold zB8;rw[yk];exact zEH v0 v1 v2 v3 lo hi W _ _ _ _ _ _ _ w' (h.zOp hb) hT.right (hT.set hk) (hT.old _) hP rfl rfl rfl
theorem zJL(v0 v1 v2 v3:Value)(lo hi:Nat)(W:zH)(w:World)(h:zr w lo hi v0 v1 v2 v3 W)(hT:zAz W)(hP:zCA W) :
  Calls Tryz.prog 106 #[qT v0 v1 v2 v3 W] w fun e w'=>zK (∀i,i<qf W->zB8 W i) e/\Below w.heap.size w w':=by
 have Hp:=zB h;have HT:=zB hT;have HP:=zB hP;obtain⟨m1,a,c,rfl,mc,_⟩:=id h.zOw;obtain⟨m2,a',c',rfl,lA,_⟩:=id h.zOy;unfold maxLen at m1 m2;clear h hT hP;have ha:=zC w (.cells #[v0,v1,.int .i64 W.time,.int .i64 W.next,.slice a' W.sn c',.slice a W.pn c] 40);have HB:=zB (za.zOt w v0 v1 (.int .i64 W.time) (.int .i64 W.next) (.slice a' W.sn c') (.slice a W.pn c) 40);go_enter Tryz.func106,Tryz.ntmps106;go_wp2
 go_loopw [3] (fun i wr=>∃k:Nat,k<=W.pn/\i = .int .i64 k/\(∀j,j<k->zB8 W j)/\za wr w.heap.size v0 v1 (.int .i64 W.time) (.int .i64 W.next) (.slice a' W.sn c') (.slice a W.pn c)/\Below w.heap.size w wr) (fun i _=>W.pn - (intOf i).toNat)
 case atStart=>exact⟨0,Nat.zero_le _,rfl,fun j hj=>absurd hj (Nat.not_lt_zero _),HB.out,ha⟩
 case round=>
  obtain⟨k,hk,rfl,cA,hX,hb⟩:=hrel;have bA:=zB cA;have HX:=zB hX;clear cA hX ha HB;obtain⟨⟨x0,x1⟩,⟨x2,x3⟩,⟨x4,x5⟩,⟨x6,x7⟩,⟨x8,x9⟩,⟨kA,gA⟩⟩:=HX.out;by_cases dA:k<W.pn
  ·have jA:(k:Int)<(W.pn:Int):=(by omega);have Hc:=zB (zJA (Hp.out.zOp hb) HT.out HP.out dA);obtain⟨b,off,vd,rfl,hs⟩:=(Hp.out.zOw.zOp hb).cells dA;have q3:=hs.c3;have q4:=hs.c4;have q5:=hs.c5;have q6:=hs.c6;clear hs x1 x3 x5 x7 x9 gA;go_wp2_with fail;go_region_held3 (fun w'=>w'.cell? ⟨w.heap.size,0,none⟩=some v0/\w'.cell? ⟨w.heap.size,1,none⟩=some v1/\w'.cell? ⟨w.heap.size,2,none⟩=some (.int .i64 W.time)/\w'.cell? ⟨w.heap.size,3,none⟩=some (.int .i64 W.next)/\w'.cell? ⟨w.heap.size,4,none⟩=some (.slice a' W.sn c')/\w'.cell? ⟨w.heap.size,5,none⟩=some (.slice (some ⟨b,off,none⟩) W.pn c)/\w'.cell? ⟨b,off+k*8+3,none⟩=some (.int .i64 (W.zOw k).zO0)/\w'.cell? ⟨b,off+k*8+4,none⟩=some (.int .i64 (W.zOw k).time)/\w'.cell? ⟨b,off+k*8+5,none⟩=some (.int .i64 (W.zOw k).rs)/\w'.cell? ⟨b,off+k*8+6,none⟩=some (.int .i64 (W.zOw k).rb)) (go_keep)
    (first | (go_at_call 167;refine(Hc.out _ ?_).mono ?_;(exact(Below.refl _ _).drew);rintro e w6 ⟨⟨t6,rfl,fA⟩,aA⟩;obtain⟨⟨y0,_⟩,⟨y1,_⟩,⟨y2,_⟩,⟨y3,_⟩,⟨y4,_⟩,⟨y5,_⟩⟩:=HX.out.zOp (zJ aA);have z3:=(aA.cell (p:=⟨b,off+k*8+3,none⟩) (zD q3)).trans q3;have z4:=(aA.cell (p:=⟨b,off+k*8+4,none⟩) (zD q4)).trans q4;have z5:=(aA.cell (p:=⟨b,off+k*8+5,none⟩) (zD q5)).trans q5;have z6:=(aA.cell (p:=⟨b,off+k*8+6,none⟩) (zD q6)).trans q6))
   have eA:=yw hb aA;have iA:=zB (HX.out.zOp (zJ aA));have Ht:=zB fA;clear fA aA z3 z4 z5 z6 y0 y1 y2 y3 y4 y5 q3 q4 q5 q6 HX;cases t6
   ·have Hn:=zB (show ¬zB8 W k from fun hA=>absurd (Ht.out.2 hA) (by simp));clear Ht;go_wp2;go_ret;exact⟨zK.no fun hA=>Hn.out (hA k (by unfold qf;omega)),eA⟩
   ·have Hn:=zB (Ht.out.1 rfl);clear Ht;go_wp2;go_roundw
    case rel=>exact⟨k+1,by omega,by go_num,qE dA bA.out Hn.out,iA.out,eA⟩
    case measure=>simp[intOf];omega
  ·obtain rfl:k=W.pn:=(by omega);go_wp2
   go_loopw [4] (fun i wr=>∃k:Nat,k<=W.sn/\i = .int .i64 k/\(∀j,j<W.pn+k->zB8 W j)/\za wr w.heap.size v0 v1 (.int .i64 W.time) (.int .i64 W.next) (.slice a' W.sn c') (.slice a W.pn c)/\Below w.heap.size w wr) (fun i _=>W.sn - (intOf i).toNat)
   case atStart=>exact⟨0,Nat.zero_le _,rfl,bA.out,HX.out,hb⟩
   case round=>
    clear x0 x1 x2 x3 x4 x5 x6 x7 x8 x9 kA gA HX hb bA;obtain⟨k,hk,rfl,cA,hX,hb⟩:=hrel;have bA:=zB cA;have HX:=zB hX;clear cA hX;obtain⟨⟨x0,x1⟩,⟨x2,x3⟩,⟨x4,x5⟩,⟨x6,x7⟩,⟨x8,x9⟩,⟨kA,gA⟩⟩:=HX.out;by_cases dA:k<W.sn
    ·have jA:(k:Int)<(W.sn:Int):=(by omega);have Hc:=zB (zJ3 (Hp.out.zOp hb) HT.out HP.out dA);obtain⟨b,off,vd,rfl,hs⟩:=(Hp.out.zOy.zOp hb).cells dA;have q3:=hs.c2;have q5:=hs.c3;have q6:=hs.c4;clear hs x1 x3 x5 x7 x9 gA;go_wp2_with fail;go_region_held3 (fun w'=>w'.cell? ⟨w.heap.size,0,none⟩=some v0/\w'.cell? ⟨w.heap.size,1,none⟩=some v1/\w'.cell? ⟨w.heap.size,2,none⟩=some (.int .i64 W.time)/\w'.cell? ⟨w.heap.size,3,none⟩=some (.int .i64 W.next)/\w'.cell? ⟨w.heap.size,4,none⟩=some (.slice (some ⟨b,off,none⟩) W.sn c')/\w'.cell? ⟨w.heap.size,5,none⟩=some (.slice a W.pn c)/\w'.cell? ⟨b,off+k*6+2,none⟩=some (.int .i64 (W.zOy k).zO0)/\w'.cell? ⟨b,off+k*6+3,none⟩=some (.int .i64 (W.zOy k).rs)/\w'.cell? ⟨b,off+k*6+4,none⟩=some (.int .i64 (W.zOy k).rb)) (go_keep)
      (first | (go_at_call 167;refine(Hc.out _ ?_).mono ?_;(exact(Below.refl _ _).drew);rintro e w6 ⟨⟨t6,rfl,fA⟩,aA⟩;obtain⟨⟨y0,_⟩,⟨y1,_⟩,⟨y2,_⟩,⟨y3,_⟩,⟨y4,_⟩,⟨y5,_⟩⟩:=HX.out.zOp (zJ aA);have z3:=(aA.cell (p:=⟨b,off+k*6+2,none⟩) (zD q3)).trans q3;have z5:=(aA.cell (p:=⟨b,off+k*6+3,none⟩) (zD q5)).trans q5;have z6:=(aA.cell (p:=⟨b,off+k*6+4,none⟩) (zD q6)).trans q6))
     have eA:=yw hb aA;have iA:=zB (HX.out.zOp (zJ aA));have Ht:=zB fA;clear fA aA z3 z5 z6 y0 y1 y2 y3 y4 y5 q3 q5 q6 HX;cases t6
     ·have Hn:=zB (show ¬zB8 W (W.pn+k)from fun hA=>absurd (Ht.out.2 hA) (by simp));clear Ht;go_wp2;go_ret;exact⟨zK.no fun hA=>Hn.out (hA _ (by unfold qf;omega)),eA⟩
     ·have Hn:=zB (Ht.out.1 rfl);clear Ht;go_wp2;go_roundw
      case rel=>
       refine⟨k+1,by omega,by go_num,fun j hj=>?_,iA.out,eA⟩;by_cases e:j=W.pn+k
       ·subst e;exact Hn.out
       ·exact bA.out j (by omega)
      case measure=>simp[intOf];omega
    ·obtain rfl:k=W.sn:=(by omega);go_wp2;go_ret;exact⟨zK.yes bA.out,hb⟩
end Go.Proofs.YtgabgheflgjgiaaGreatDoor

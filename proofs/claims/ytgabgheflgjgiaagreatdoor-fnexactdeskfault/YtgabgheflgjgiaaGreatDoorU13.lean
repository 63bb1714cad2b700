/- A part of the proof. -/
import Derived.Test.YtgabgheflgjgiaaGreatDoorU12
set_option linter.unusedVariables false
set_option maxRecDepth 20000
set_option maxHeartbeats 8000000
namespace Go.Proofs.YtgabgheflgjgiaaGreatDoor
open Go.RowKit
def yP(w:World)(R n:Nat)(f:Nat->Bool):Prop:=∀i,i<n->zT w R i (.bool (f i))
theorem yP.zOp{w w':World}{R n:Nat}{f:Nat->Bool}(h:yP w R n f)(t:Below w.heap.size w w'):yP w' R n f:=fun i hi=>(h i hi).zOp t
theorem yP.put{w:World}{R n:Nat}{f:Nat->Bool}(h:yP w R n f){k:Nat}(c:Bool):yP (w.setCell ⟨R,k,none⟩ (.bool c)) R n (fun i=>if i=k then c else f i):=fun i hi=>by
 by_cases e:i=k
 ·subst e;show zT _ R i (.bool (if i=i then c else f i));rw[if_pos rfl];exact(h i hi).set _
 ·show zT _ R i (.bool (if i=k then c else f i));rw[if_neg e];exact(h i hi).zOq _ (Or.inr (fun h=>e h.symm))
theorem zNi(z:Value)(n:Nat){i:Nat}(hi:i<n):(madeCells #[z] n)[i]?=some z:=by
 simp[madeCells,hi,Nat.mod_one]
theorem yP.zOt(w:World)(n:Nat)(t:TypeId):yP (w.alloc (.cells (madeCells #[.bool false] n) t)) w.heap.size n (fun _=>false):=fun i hi=>by
 have hb:(w.alloc (.cells (madeCells #[Value.bool false] n) t)).heap[w.heap.size]?=some (.cells (madeCells #[.bool false] n) t):=heap_alloc_new _ _;exact zL hb (zNi _ _ hi)
theorem zMH:(Tryz.prog.info? 4).map (fun i=>(i.zero,i.size,i.bytes))=some (some (.bool false),1,1):=by kernel_rfl
theorem zDr(n:Nat)(hn:n<=1000)(w:World):(Instr.makeSlice 138 (.int .i64 (n:Int)) (.int .i64 (n:Int))).run Tryz.prog w = .ok (.slice (some ⟨w.heap.size,0,none⟩) n n) (w.alloc (.cells (madeCells #[.bool false] n) 4)):=
 run_make_row' 138 4 (.bool false) 1 (by kernel_rfl) zMH rfl .i64 .i64 n (by omega) (by omega) w
open Go.Maps
def zEO(W:zH)(s:Nat):Prop:=∃m,m<qf W/\∃b,((s:Int),b)∈yf W (zc W m)
def zBH(W:zH)(i:Nat):Int×Int:=if i<W.sn then((W.zOy i).rs,(W.zOy i).rb)else((W.zOw (i - W.sn)).rs,(W.zOw (i - W.sn)).rb)
def zBo(W:zH)(n:Nat):List (Int×Int):=(List.range n).map (zBH W)
theorem zBc(W:zH)(n:Nat):(zBo W n).length=n:=by simp[zBo]
theorem zF1(W:zH)(n:Nat):zBo W (n+1)=zBo W n ++ [zBH W n]:=by simp[zBo,List.range_succ]
theorem zD3{W:zH}{i:Nat}(h:i<W.sn):zBH W i=((W.zOy i).rs,(W.zOy i).rb):=if_pos h
theorem zDG(W:zH)(i:Nat):zBH W (W.sn+i)=((W.zOw i).rs,(W.zOw i).rb):=by
 unfold zBH;rw[if_neg (by omega),show W.sn+i - W.sn=i by omega]
theorem zLo{W:zH}{n i:Nat}(h:i<n):zg (zBo W n) i=(zBH W i).1/\zj (zBo W n) i=(zBH W i).2:=by
 unfold zg zj;rw[yQ (by rw[zBc];exact h)];simp[zBo]
theorem zM2{W:zH}(hT:zAz W){i:Nat}(hi:i<W.sn+W.pn):qQ W.zOv (zBH W i).1 (zBH W i).2:=by
 by_cases h:i<W.sn
 ·rw[zD3 h];exact hT.set h
 ·have:=zDG W (i - W.sn);rw[show W.sn+(i - W.sn)=i by omega]at this;rw[this];exact hT.snap (by omega)
theorem zKF{W:zH}{s:Nat}:zEO W s↔∃i,i<W.sn+W.pn/\∃b,((s:Int),b)∈zY W.zOv (zBH W i).1 (zBH W i).2:=by
 unfold zEO qf yf;constructor
 ·rintro⟨m,hm,b,h⟩;by_cases hp:m<W.pn
  ·rw[qZ hp]at h;exact⟨W.sn+m,by omega,b,by rw[zDG];exact h⟩
  ·have e:=yk W (m - W.pn);rw[show W.pn+(m - W.pn)=m by omega]at e;rw[e]at h;exact⟨m - W.pn,by omega,b,by rw[zD3 (by omega)];exact h⟩
 ·rintro⟨i,hi,b,h⟩;by_cases hs:i<W.sn
  ·rw[zD3 hs]at h;exact⟨W.pn+i,by omega,b,by rw[yk];exact h⟩
  ·have e:=zDG W (i - W.sn);rw[show W.sn+(i - W.sn)=i by omega]at e;rw[e]at h;exact⟨i - W.sn,by omega,b,by rw[qZ (by omega)];exact h⟩
def zON(W:zH)(k:Nat)(l:List (Int×Int))(j s:Nat):Prop:=(∃i,i<k/\∃b,((s:Int),b)∈zY W.zOv (zBH W i).1 (zBH W i).2)\/∃q,q<j/\zg l q=(s:Int)
def zDT(W:zH)(k:Nat)(l:List (Int×Int))(j:Nat)(f:Nat->Bool):Prop:=∀s,f s=true↔zON W k l j s
theorem zKP{W:zH}{k j s:Nat}{l:List (Int×Int)}{f:Nat->Bool}(h:zDT W k l j f)(hs:zg l j=(s:Int)):zDT W k l (j+1) (fun i=>if i=s then true else f i):=by
 intro i;show(if i=s then true else f i)=true↔_;by_cases e:i=s
 ·subst e;rw[if_pos rfl];exact⟨fun _=>Or.inr ⟨j,by omega,hs⟩,fun _=>rfl⟩
 ·rw[if_neg e,h i];constructor
  ·rintro(h | ⟨q,hq,h⟩)
   ·exact Or.inl h
   ·exact Or.inr ⟨q,by omega,h⟩
  ·rintro(h | ⟨q,hq,h⟩)
   ·exact Or.inl h
   ·by_cases eq:q=j
    ·subst eq;exact absurd (by omega) e
    ·exact Or.inr ⟨q,by omega,h⟩
theorem zKQ{W:zH}{k:Nat}{l:List (Int×Int)}{f:Nat->Bool}(h:zDT W k l l.length f)(hl:l=zY W.zOv (zBH W k).1 (zBH W k).2):zDT W (k+1) [] 0 f:=by
 intro s;rw[h s];constructor
 ·rintro(⟨i,hi,h⟩ | ⟨q,hq,e⟩)
  ·exact Or.inl ⟨i,by omega,h⟩
  ·refine Or.inl ⟨k,by omega,(l[q]).2,?_⟩;unfold zg at e;rw[yQ hq]at e;rw[<-hl,<-e];exact List.getElem_mem hq
 ·rintro(⟨i,hi,b,h2⟩ | ⟨q,hq,e⟩)
  ·by_cases e:i=k
   ·subst e;rw[<-hl]at h2;obtain⟨q,hq,e⟩:=List.getElem_of_mem h2;exact Or.inr ⟨q,hq,by unfold zg;rw[yQ hq,e]⟩
   ·exact Or.inl ⟨i,by omega,b,h2⟩
  ·omega
theorem zJR{W:zH}{k:Nat}{f:Nat->Bool}(h:zDT W k [] 0 f)(l:List (Int×Int)):zDT W k l 0 f:=by
 intro s;rw[h s];constructor
 ·rintro(h | ⟨q,hq,_⟩)
  ·exact Or.inl h
  ·omega
 ·rintro(h | ⟨q,hq,_⟩)
  ·exact Or.inl h
  ·omega
theorem zHH{p:zI}{rs rb:Int}(hR:zt p)(hT:qQ p rs rb){j:Nat}(hj:j<(zY p rs rb).length):∃s:Nat,zg (zY p rs rb) j=(s:Int)/\s<p.n:=by
 unfold zg;rw[yQ hj];have:=(zBm hR hT (List.getElem_mem hj)).1;obtain⟨_,h0,h1,_⟩:=this;exact⟨((zY p rs rb)[j]).1.toNat,by omega,by omega⟩
theorem za.grown{w w1:World}{b:Nat}{v0 v1 v2 v3 v4 v5:Value}{row:Option Nat}(h:za w b v0 v1 v2 v3 v4 v5)(hg:w.grownBy w1 row)(aA:∀q,row=some q->b≠q):za w1 b v0 v1 v2 v3 v4 v5:=by
 have hb:b<w.heap.size:=h.1.lt;refine h.zOr (S:=fun k=>row=some k) ⟨hg.os,hg.tape,hg.output,hg.size,fun k hk hs=>hg.block k hk (fun e=>hs e.symm)⟩ (fun e=>aA b e rfl)
theorem yP.grown{w w1:World}{R n:Nat}{f:Nat->Bool}{row:Option Nat}(h:yP w R n f)(hg:w.grownBy w1 row)(aA:∀q,row=some q->R≠q):yP w1 R n f:=fun i hi=>
 (h i hi).zOr (S:=fun k=>row=some k) ⟨hg.os,hg.tape,hg.output,hg.size,fun k hk hs=>hg.block k hk (fun e=>hs e.symm)⟩ (fun e=>aA R e rfl)
theorem zIe(v0 v1 v2 v3:Value)(lo hi:Nat)(W:zH)(w:World)(h:zr w lo hi v0 v1 v2 v3 W)(hT:zAz W)(hs:W.sn<=8)(hp:W.pn<=20) :
  Calls Tryz.prog 104 #[qT v0 v1 v2 v3 W] w fun e w'=>∃R f,e = .returned (.slice (some ⟨R,0,none⟩) W.zOv.n W.zOv.n)/\w.heap.size<=R/\yP w' R W.zOv.n f/\(∀s,f s=true↔zEO W s)/\Below w.heap.size w w':=by
 have Hp:=zB h;have HT:=zB hT;obtain⟨m1,a,c,rfl,mc,_⟩:=id h.zOw;obtain⟨m2,a',c',rfl,aD,_⟩:=id h.zOy;obtain⟨m0,a0,c0,rfl,bD,_⟩:=id h.zOv.1;unfold maxLen at m0 m1 m2;have tC:W.zOv.n<=200:=hT.right.1;clear h hT;obtain⟨i0,rB,oB⟩:=Option.map_eq_some_iff.1 zCt;simp only[Prod.mk.injEq]at oB;have HI:=zB (And.intro rB oB);clear rB oB;have sC:=zDr W.zOv.n (by omega);have ha:=zC w (.cells #[.slice a0 W.zOv.n c0,v1,.int .i64 W.time,.int .i64 W.next,.slice a' W.sn c',.slice a W.pn c] 40);have nB:(w.alloc (.cells #[.slice a0 W.zOv.n c0,v1,.int .i64 W.time,.int .i64 W.next,.slice a' W.sn c',.slice a W.pn c] 40)).heap.size=w.heap.size+1:=World.size_alloc _ _;have dC:∀W1:World,W1=w.alloc (.cells #[.slice a0 W.zOv.n c0,v1,.int .i64 W.time,.int .i64 W.next,.slice a' W.sn c',.slice a W.pn c] 40)->za ((W1.alloc (.cells (madeCells #[.bool false] W.zOv.n) 4)).alloc (.cells #[] 99)) w.heap.size (.slice a0 W.zOv.n c0) v1 (.int .i64 W.time) (.int .i64 W.next) (.slice a' W.sn c') (.slice a W.pn c)/\yP ((W1.alloc (.cells (madeCells #[.bool false] W.zOv.n) 4)).alloc (.cells #[] 99)) (w.heap.size+1) W.zOv.n (fun _=>false)/\qH ((W1.alloc (.cells (madeCells #[.bool false] W.zOv.n) 4)).alloc (.cells #[] 99)) (w.heap.size+2) (.slice (some ⟨w.heap.size+1+1,0,none⟩) 0 0) []/\Below w.heap.size w ((W1.alloc (.cells (madeCells #[.bool false] W.zOv.n) 4)).alloc (.cells #[] 99)):=by
  rintro W1 rfl;have hB:=za.zOt w (.slice a0 W.zOv.n c0) v1 (.int .i64 W.time) (.int .i64 W.next) (.slice a' W.sn c') (.slice a W.pn c) 40;have hR:=yP.zOt (w.alloc (.cells #[.slice a0 W.zOv.n c0,v1,.int .i64 W.time,.int .i64 W.next,.slice a' W.sn c',.slice a W.pn c] 40)) W.zOv.n 4;rw[nB]at hR;generalize w.alloc (.cells #[.slice a0 W.zOv.n c0,v1,.int .i64 W.time,.int .i64 W.next,.slice a' W.sn c',.slice a W.pn c] 40)=W1 at *;have b2:=zC W1 (.cells (madeCells #[.bool false] W.zOv.n) 4);have dB:(W1.alloc (.cells (madeCells #[.bool false] W.zOv.n) 4)).heap.size=w.heap.size+1+1:=(by rw[World.size_alloc,nB]);have iC:=hB.zOp b2;have jC:=zA ha b2;generalize W1.alloc (.cells (madeCells #[.bool false] W.zOv.n) 4)=W2 at *;have b3:=zC W2 (.cells #[] 99);have l3:=World.ownsRow_lit (e:=99) (size:=2) (base:=w.heap.size+2) W2 #[] 0 (by rw[dB];omega) (by unfold maxLen;omega) rfl;rw[dB]at l3;exact⟨iC.zOp b3,hR.zOp b3,l3,zA jC b3⟩
 have pB:=zB (dC _ rfl);clear dC;go_enter Tryz.func104,Tryz.ntmps104;obtain⟨⟨x0,x1⟩,⟨x2,x3⟩,⟨x4,x5⟩,⟨x6,x7⟩,⟨x8,x9⟩,⟨kA,pA⟩⟩:=za.zOt w (.slice a0 W.zOv.n c0) v1 (.int .i64 W.time) (.int .i64 W.next) (.slice a' W.sn c') (.slice a W.pn c) 40;go_wp2;clear x0 x1 x2 x3 x4 x5 x6 x7 x8 x9 kA pA ha
 go_loopw [4,5] (fun vr i wr=>∃k:Nat,k<=W.sn/\i = .int .i64 k/\qH wr (w.heap.size+2) vr (zBo W k)/\za wr w.heap.size (.slice a0 W.zOv.n c0) v1 (.int .i64 W.time) (.int .i64 W.next) (.slice a' W.sn c') (.slice a W.pn c)/\yP wr (w.heap.size+1) W.zOv.n (fun _=>false)/\Below w.heap.size w wr) (fun _ i _=>W.sn - (intOf i).toNat)
 case atStart=>
  obtain⟨s1,s2,s3,s4⟩:=pB.out;exact⟨0,Nat.zero_le _,rfl,s3,s1,s2,s4⟩
 case round=>
  clear pB nB;obtain⟨k,hk,rfl,dA,hX,hR,hb⟩:=hrel;have aA:=zB dA;have HX:=zB hX;have eA:=zB hR;clear dA hX hR;obtain⟨⟨x0,x1⟩,⟨x2,x3⟩,⟨x4,x5⟩,⟨x6,x7⟩,⟨x8,x9⟩,⟨kA,pA⟩⟩:=HX.out;by_cases mA:k<W.sn
  ·have aB:(k:Int)<(W.sn:Int):=(by omega);obtain⟨b,off,vd,rfl,jA⟩:=(Hp.out.zOy.zOp hb).cells mA;have q3:=jA.c3;have q4:=jA.c4;clear jA;have gA:=zC wr (.cells #[.int .i64 (W.zOy k).rs,.int .i64 (W.zOy k).rb] 99);have cA:=zB (aA.out.zOp gA);have sA:=zB (HX.out.zOp gA);have rA:=zB (eA.out.zOp gA);have tA:=zA hb gA;have dB:=zD kA;have mC:=(eA.out);have lC:(wr.alloc (.cells #[.int .i64 (W.zOy k).rs,.int .i64 (W.zOy k).rb] 99)).heap.size=wr.heap.size+1:=World.size_alloc _ _;have HN:=zB (World.news_of_block (heap_alloc_last wr (.cells #[.int .i64 (W.zOy k).rs,.int .i64 (W.zOy k).rb] 99)));have nA:=zBc W k;clear gA aA HX eA mC;go_wp2_with (first
    | (at_builtin;refine wpList_append_lies _ rfl _ _ 100 rfl (w.heap.size+2) 99 i0 (.agg #[.int .i64 0,.int .i64 0]) 2 16 (by kernel_rfl) HI.out.1 HI.out.2.1 HI.out.2.2.1 HI.out.2.2.2 rfl (by decide) _ _ _ rfl cA.out ⟨wr.heap.size,0,none⟩ 1 1 [.int .i64 (W.zOy k).rs,.int .i64 (W.zOy k).rb] rfl rfl HN.out (by simp[Value.oneCell']) (by decide) (by unfold maxLen;omega) (by omega) (by omega) _ rfl ?_;intro g' gB w8 iA bA jB lB)
    | go_in)
   go_roundw
   case rel=>
    have oA:∀q,Value.ownBlock _=some q->w.heap.size+2<=q:=fun q hq=>(cA.out.lt hq).1
    refine⟨k+1,by omega,by go_num,?_,sA.out.grown bA (fun q hq=>by have:=oA q hq;omega),rA.out.grown bA (fun q hq=>by have:=oA q hq;omega),tA.grown bA tA.size (fun q hq=>by have:=oA q hq;omega)⟩;rw[zF1,zD3 mA];have bB:=qH.next iA;rw[nA]at bB;exact bB
   case measure=>simp[intOf];omega
  ·obtain rfl:k=W.sn:=(by omega);go_wp2
   go_loopw [4,6] (fun vr i wr=>∃k:Nat,k<=W.pn/\i = .int .i64 k/\qH wr (w.heap.size+2) vr (zBo W (W.sn+k))/\za wr w.heap.size (.slice a0 W.zOv.n c0) v1 (.int .i64 W.time) (.int .i64 W.next) (.slice a' W.sn c') (.slice a W.pn c)/\yP wr (w.heap.size+1) W.zOv.n (fun _=>false)/\Below w.heap.size w wr) (fun _ i _=>W.pn - (intOf i).toNat)
   case atStart=>exact⟨0,Nat.zero_le _,rfl,aA.out,HX.out,eA.out,hb⟩
   case round=>
    clear x0 x1 x2 x3 x4 x5 x6 x7 x8 x9 kA pA HX hb aA eA;obtain⟨k,hk,rfl,dA,hX,hR,hb⟩:=hrel;have aA:=zB dA;have HX:=zB hX;have eA:=zB hR;clear dA hX hR;obtain⟨⟨x0,x1⟩,⟨x2,x3⟩,⟨x4,x5⟩,⟨x6,x7⟩,⟨x8,x9⟩,⟨kA,pA⟩⟩:=HX.out;by_cases mA:k<W.pn
    ·have aB:(k:Int)<(W.pn:Int):=(by omega);obtain⟨b,off,vd,rfl,jA⟩:=(Hp.out.zOw.zOp hb).cells mA;have q3:=jA.c5;have q4:=jA.c6;clear jA;have gA:=zC wr (.cells #[.int .i64 (W.zOw k).rs,.int .i64 (W.zOw k).rb] 99);have cA:=zB (aA.out.zOp gA);have sA:=zB (HX.out.zOp gA);have rA:=zB (eA.out.zOp gA);have tA:=zA hb gA;have dB:=zD kA;have lC:(wr.alloc (.cells #[.int .i64 (W.zOw k).rs,.int .i64 (W.zOw k).rb] 99)).heap.size=wr.heap.size+1:=World.size_alloc _ _;have HN:=zB (World.news_of_block (heap_alloc_last wr (.cells #[.int .i64 (W.zOw k).rs,.int .i64 (W.zOw k).rb] 99)));have nA:=zBc W (W.sn+k);clear gA aA HX eA;go_wp2_with (first
      | (at_builtin;refine wpList_append_lies _ rfl _ _ 100 rfl (w.heap.size+2) 99 i0 (.agg #[.int .i64 0,.int .i64 0]) 2 16 (by kernel_rfl) HI.out.1 HI.out.2.1 HI.out.2.2.1 HI.out.2.2.2 rfl (by decide) _ _ _ rfl cA.out ⟨wr.heap.size,0,none⟩ 1 1 [.int .i64 (W.zOw k).rs,.int .i64 (W.zOw k).rb] rfl rfl HN.out (by simp[Value.oneCell']) (by decide) (by unfold maxLen;omega) (by omega) (by omega) _ rfl ?_;intro g' gB w8 iA bA jB lB)
      | go_in)
     go_roundw
     case rel=>
      have oA:∀q,Value.ownBlock _=some q->w.heap.size+2<=q:=fun q hq=>(cA.out.lt hq).1
      refine⟨k+1,by omega,by go_num,?_,sA.out.grown bA (fun q hq=>by have:=oA q hq;omega),rA.out.grown bA (fun q hq=>by have:=oA q hq;omega),tA.grown bA tA.size (fun q hq=>by have:=oA q hq;omega)⟩;rw[show W.sn+(k+1)=W.sn+k+1 from rfl,zF1,zDG];have bB:=qH.next iA;rw[nA]at bB;exact bB
     case measure=>simp[intOf];omega
    ·obtain rfl:k=W.pn:=(by omega);go_wp2;obtain⟨ar,cr,rfl,pC⟩:=zX aA.out;rw[zBc]at *;clear x0 x1 x2 x3 x4 x5 x6 x7 x8 x9 kA pA
     go_loopw [7] (fun i wr=>∃k:Nat,∃f,k<=W.sn+W.pn/\i = .int .i64 k/\qH wr (w.heap.size+2) (.slice ar (W.sn+W.pn) cr) (zBo W (W.sn+W.pn))/\za wr w.heap.size (.slice a0 W.zOv.n c0) v1 (.int .i64 W.time) (.int .i64 W.next) (.slice a' W.sn c') (.slice a W.pn c)/\yP wr (w.heap.size+1) W.zOv.n f/\zDT W k [] 0 f/\Below w.heap.size w wr) (fun i _=>W.sn+W.pn - (intOf i).toNat)
     case atStart=>exact⟨0,fun _=>false,Nat.zero_le _,rfl,aA.out,HX.out,eA.out,fun s=>⟨fun h=>absurd h (by simp),fun h=>by rcases h with⟨i,hi,_⟩ | ⟨q,hq,_⟩<;>omega⟩,hb⟩
     case round=>
      clear HX hb aA eA;obtain⟨k,f,hk,rfl,dA,hX,hR,hm,hb⟩:=hrel;have aA:=zB dA;have HX:=zB hX;have eA:=zB hR;have Hm:=zB hm;clear dA hX hR hm;by_cases mA:k<W.sn+W.pn
      ·have aB:(k:Int)<(W.sn+W.pn:Int):=(by omega);have vB:=zM2 HT.out mA;have kB:=zLo (W:=W) mA;have fA:=(aA.out.atW (by rw[zBc];omega));rw[zBc]at fA;obtain⟨b,off,rfl,q0,q1⟩:=fA.cellsD mA;rw[kB.1]at q0;rw[kB.2]at q1;have eB:=zB vB;clear vB kB;generalize aC:(zBH W k).1=rs at *;generalize bC:(zBH W k).2=rb at *;have fB:=zB (And.intro aC bC);clear aC bC fA;obtain⟨⟨x0,x1⟩,⟨x2,x3⟩,⟨x4,x5⟩,⟨x6,x7⟩,⟨x8,x9⟩,⟨kA,pA⟩⟩:=HX.out;clear x1 x3 x4 x5 x6 x7 x8 x9 kA pA;go_wp2_with fail;go_region_held3 (fun w'=>w'.cell? ⟨w.heap.size,0,none⟩=some (.slice a0 W.zOv.n c0)/\w'.cell? ⟨w.heap.size,1,none⟩=some v1/\w'.cell? ⟨b,off+k*2,none⟩=some (.int .i64 rs)/\w'.cell? ⟨b,off+k*2+1,none⟩=some (.int .i64 rb)) (go_keep)
        (first | (go_at_call 58;refine(q8 _ v1 lo hi W.zOv rs rb _ ?_ HT.out.right eB.out).mono ?_;(exact(Hp.out.zOv.zOp hb).zOp (Below.refl _ _).drew);rintro e w6 ⟨vl,rfl,cC,lA⟩;obtain⟨⟨y0,_⟩,⟨y1,_⟩,_⟩:=HX.out.zOp (zJ lA);have z0:=(lA.cell (p:=⟨b,off+k*2,none⟩) (zD q0)).trans q0;have z1:=(lA.cell (p:=⟨b,off+k*2+1,none⟩) (zD q1)).trans q1))
       have vA:=yw hb lA;have sA:=zB (HX.out.zOp (zJ lA));have rA:=zB (eA.out.zOp (zJ lA));have cA:=zB (aA.out.zOp (zJ lA));have iB:0<W.zOv.n->w.heap.size+1<wr.heap.size:=fun h0=>(eA.out 0 h0).lt
       have Hl:=zB cC;clear lA cC z0 z1 y0 y1 q0 q1 x0 x2 HX eA aA;have eC:wr.drew.heap.size=wr.heap.size:=rfl;rw[eC]at Hl;obtain⟨al,cl,rfl,oC⟩:=zX Hl.out;have rC:=qs W.zOv rs rb;have fC:=zB (fun j (hj:j<(zY W.zOv rs rb).length)=>zHH HT.out.right eB.out hj);have HE:=zB (show zY W.zOv rs rb=zY W.zOv (zBH W k).1 (zBH W k).2 by rw[fB.out.1,fB.out.2]);generalize zY W.zOv rs rb=l at *;clear fB eB eC;go_wp2
       go_loopw [9] (fun i cB=>∃j:Nat,∃f,j<=l.length/\i = .int .i64 j/\qH cB wr.heap.size (.slice al l.length cl) l/\qH cB (w.heap.size+2) (.slice (some ⟨b,off,none⟩) (W.sn+W.pn) cr) (zBo W (W.sn+W.pn))/\za cB w.heap.size (.slice a0 W.zOv.n c0) v1 (.int .i64 W.time) (.int .i64 W.next) (.slice a' W.sn c') (.slice a W.pn c)/\yP cB (w.heap.size+1) W.zOv.n f/\zDT W k l j f/\Below w.heap.size w cB) (fun i _=>l.length - (intOf i).toNat)
       case atStart=>exact⟨0,f,Nat.zero_le _,rfl,Hl.out,cA.out,sA.out,rA.out,zJR Hm.out l,vA⟩
       case round=>
        clear sA rA cA Hl vA Hm f;obtain⟨j,f,hj,rfl,tB,dA,hX,hR,hm,vA⟩:=hrel;have Hl:=zB tB;have aA:=zB dA;have HX:=zB hX;have eA:=zB hR;have Hm:=zB hm;clear dA hX hR hm tB;by_cases sB:j<l.length
        ·have kC:(j:Int)<(l.length:Int):=(by omega);obtain⟨b2,nC,rfl,q0,q1⟩:=(Hl.out.atW (by omega)).cellsD sB;obtain⟨s,mB,jA⟩:=fC.out j sB;have vC:(s:Int)<(W.zOv.n:Int):=(by omega);rw[mB]at q0;obtain⟨y0,y1⟩:=eA.out s jA;have gC:=zB mB;clear mB q1;go_wp2;go_roundw
         case rel=>exact⟨j+1,_,by omega,by go_num,Hl.out.put (iB (by omega)) _,aA.out.put (by omega) _,HX.out.zOr (zE.put _ (w.heap.size+1) s _) (by omega),eA.out.put true,zKP Hm.out gC.out,vA.setCell (show w.heap.size<=w.heap.size+1 by omega) _⟩
         case measure=>simp[intOf];omega
        ·obtain rfl:j=l.length:=(by omega);go_wp2;go_roundw
         case rel=>exact⟨k+1,f,by omega,by go_num,aA.out,HX.out,eA.out,zKQ Hm.out HE.out,vA⟩
         case measure=>simp[intOf];omega
      ·obtain rfl:k=W.sn+W.pn:=(by omega);go_wp2;go_ret;refine⟨_,f,rfl,by omega,eA.out,fun s=>?_,hb⟩;rw[Hm.out s,zKF];constructor
       ·rintro(h | ⟨q,hq,_⟩)
        ·exact h
        ·omega
       ·exact Or.inl
def zIN(W:zH)(k:Nat):Prop:=∀i,i<k->∀j,j<i->∀x,x∈zEc W (zc W i)->∀y,y∈zEc W (zc W j)->x.1≠y.1
def zB7(W:zH)(k:Nat)(now old:List (Int×Int))(j:Nat):Prop:=∀q,q<j->(zg now q,zj now q)∉old->∀i,i<k->∀y,y∈zEc W (zc W i)->zg now q≠y.1
def zOQ(W:zH)(k:Nat)(now old:List (Int×Int))(j s:Nat):Prop:=(∃i,i<k/\∃b,((s:Int),b)∈zEc W (zc W i))\/∃q,q<j/\zg now q=(s:Int)/\(zg now q,zj now q)∉old
def zBO(W:zH)(k:Nat)(now old:List (Int×Int))(j:Nat)(f:Nat->Bool):Prop:=∀s,f s=true↔zOQ W k now old j s
theorem zGY{W:zH}{k:Nat}{aA bA:List (Int×Int)}(h:zIN W k)(hn:aA=yf W (zc W k))(ho:bA=zCR W (zc W k))(hr:zB7 W k aA bA aA.length):zIN W (k+1):=by
 intro i hi j hj x hx y hy;by_cases e:i=k
 ·subst e;obtain⟨h1,h2⟩:=List.mem_filter.1 hx;rw[<-hn]at h1;rw[<-ho]at h2;obtain⟨q,hq,e⟩:=List.getElem_of_mem h1;have:=hr q hq;unfold zg zj at this;rw[yQ hq,e]at this;exact this (by simpa using h2) j hj y hy
 ·exact h i (by omega) j hj x hx y hy
theorem zIA{W:zH}{k j:Nat}{aA bA:List (Int×Int)}{f:Nat->Bool}(h:zBO W k aA bA j f)(cA:(zg aA j,zj aA j)∈bA):zBO W k aA bA (j+1) f:=by
 intro s;rw[h s];constructor
 ·rintro(h | ⟨q,hq,h⟩)
  ·exact Or.inl h
  ·exact Or.inr ⟨q,by omega,h⟩
 ·rintro(h | ⟨q,hq,h1,h2⟩)
  ·exact Or.inl h
  ·by_cases e:q=j
   ·subst e;exact absurd cA h2
   ·exact Or.inr ⟨q,by omega,h1,h2⟩
theorem zH9{W:zH}{k j s:Nat}{aA bA:List (Int×Int)}{f:Nat->Bool}(h:zBO W k aA bA j f)(hs:zg aA j=(s:Int))(cA:(zg aA j,zj aA j)∉bA):zBO W k aA bA (j+1) (fun i=>if i=s then true else f i):=by
 intro i;show(if i=s then true else f i)=true↔_;by_cases e:i=s
 ·subst e;rw[if_pos rfl];exact⟨fun _=>Or.inr ⟨j,by omega,hs,cA⟩,fun _=>rfl⟩
 ·rw[if_neg e,h i];constructor
  ·rintro(h | ⟨q,hq,h⟩)
   ·exact Or.inl h
   ·exact Or.inr ⟨q,by omega,h⟩
  ·rintro(h | ⟨q,hq,h,h2⟩)
   ·exact Or.inl h
   ·by_cases eq:q=j
    ·subst eq;exact absurd (by omega) e
    ·exact Or.inr ⟨q,by omega,h,h2⟩
theorem zJc{W:zH}{k j:Nat}{aA bA:List (Int×Int)}(h:zB7 W k aA bA j)(cA:(zg aA j,zj aA j)∈bA):zB7 W k aA bA (j+1):=by
 intro q hq;by_cases e:q=j
 ·subst e;exact fun h=>absurd cA h
 ·exact h q (by omega)
theorem zJb{W:zH}{k j s:Nat}{aA bA:List (Int×Int)}{f:Nat->Bool}(h:zB7 W k aA bA j)(hS:zBO W k aA bA j f)(hs:zg aA j=(s:Int))(hf:f s=false):zB7 W k aA bA (j+1):=by
 intro q hq;by_cases e:q=j
 ·subst e;intro _ i hi y hy ey;have:f s=true:=(hS s).2 (Or.inl ⟨i,hi,y.2,by rw[<-hs,ey];exact hy⟩);rw[hf]at this;exact absurd this (by simp)
 ·exact h q (by omega)
theorem zIB{W:zH}{k:Nat}{aA bA:List (Int×Int)}{f:Nat->Bool}(h:zBO W k aA bA aA.length f)(hn:aA=yf W (zc W k))(ho:bA=zCR W (zc W k)):zBO W (k+1) [] [] 0 f:=by
 intro s;rw[h s];constructor
 ·rintro(⟨i,hi,h⟩ | ⟨q,hq,e,h2⟩)
  ·exact Or.inl ⟨i,by omega,h⟩
  ·refine Or.inl ⟨k,by omega,(aA[q]).2,?_⟩;unfold zg zj at h2;unfold zg at e;rw[yQ hq]at e h2;refine List.mem_filter.2 ⟨?_,?_⟩
   ·rw[<-hn,<-e];exact List.getElem_mem hq
   ·rw[<-ho,<-e];simpa using h2
 ·rintro(⟨i,hi,b,h2⟩ | ⟨q,hq,_⟩)
  ·by_cases e:i=k
   ·subst e;obtain⟨h3,h4⟩:=List.mem_filter.1 h2;rw[<-hn]at h3;rw[<-ho]at h4;obtain⟨q,hq,e⟩:=List.getElem_of_mem h3;refine Or.inr ⟨q,hq,?_⟩;unfold zg zj;rw[yQ hq,e];exact⟨rfl,by simpa using h4⟩
   ·exact Or.inl ⟨i,by omega,b,h2⟩
  ·omega
theorem zHC{W:zH}{k:Nat}{f:Nat->Bool}(h:zBO W k [] [] 0 f)(aA bA:List (Int×Int)):zBO W k aA bA 0 f:=by
 intro s;rw[h s];constructor
 ·rintro(h | ⟨q,hq,_⟩)
  ·exact Or.inl h
  ·omega
 ·rintro(h | ⟨q,hq,_⟩)
  ·exact Or.inl h
  ·omega
theorem zHD{W:zH}{k j s:Nat}{aA bA:List (Int×Int)}{f:Nat->Bool}(hT:zAz W)(hk:k<qf W)(hn:aA=yf W (zc W k))(ho:bA=zCR W (zc W k))(hS:zBO W k aA bA j f)(hj:j<aA.length)(hs:zg aA j=(s:Int))(cA:(zg aA j,zj aA j)∉bA)(hf:f s=true):¬zFH W:=by
 intro hA;rcases(hS s).1 hf with⟨i,hi,b,h⟩ | ⟨q,hq,e,h2⟩
 ·refine hA k hk i hi (zg aA j,zj aA j) ?_ _ h hs;refine List.mem_filter.2 ⟨?_,by rw[<-ho];simpa using cA⟩;rw[<-hn];unfold zg zj;rw[yQ hj];exact List.getElem_mem hj
 ·have dA:=zFz hT.right (l:=aA) (fun x hx=>by rw[hn]at hx;exact(zBm hT.right (hT.tree k hk) hx).1) (by rw[hn];exact zDu hT.right (hT.tree k hk)) (by rw[hn];have:=qs W.zOv (zc W k).rs (zc W k).rb;unfold yf;omega);exact dA.2.2 j hj q hq (by rw[e,hs])
end Go.Proofs.YtgabgheflgjgiaaGreatDoor

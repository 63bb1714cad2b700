/- A part of the proof. -/
import Derived.Test.YtgabgheflgjgiaaGreatDoorV12
set_option linter.unusedVariables false
set_option maxRecDepth 20000
set_option maxHeartbeats 8000000
namespace Go.Proofs.YtgabgheflgjgiaaGreatDoor
open Go.RowKit
def yP(w:World)(R n:Nat)(f:Nat->Bool):Prop:=∀i,i<n->zT w R i (.bool (f i))
theorem yP.zOU{w w':World}{R n:Nat}{f:Nat->Bool}(h:yP w R n f)(t:Below w.heap.size w w'):yP w' R n f:=fun i hi=>(h i hi).zOU t
theorem yP.put{w:World}{R n:Nat}{f:Nat->Bool}(h:yP w R n f){k:Nat}(c:Bool):yP (w.setCell ⟨R,k,none⟩ (.bool c)) R n (fun i=>if i=k then c else f i):=fun i hi=>by
 by_cases e:i=k
 ·subst e;show zT _ R i (.bool (if i=i then c else f i));rw[if_pos rfl];exact(h i hi).set _
 ·show zT _ R i (.bool (if i=k then c else f i));rw[if_neg e];exact(h i hi).zOV _ (Or.inr (fun h=>e h.symm))
theorem zNP(z:Value)(n:Nat){i:Nat}(hi:i<n):(madeCells #[z] n)[i]?=some z:=by
 simp[madeCells,hi,Nat.mod_one]
theorem yP.zOY(w:World)(n:Nat)(t:TypeId):yP (w.alloc (.cells (madeCells #[.bool false] n) t)) w.heap.size n (fun _=>false):=fun i hi=>by
 have hb:(w.alloc (.cells (madeCells #[Value.bool false] n) t)).heap[w.heap.size]?=some (.cells (madeCells #[.bool false] n) t):=heap_alloc_new _ _;exact zL hb (zNP _ _ hi)
theorem zL0:(Tryz.prog.info? 4).map (fun i=>(i.zero,i.size,i.bytes))=some (some (.bool false),1,1):=by kernel_rfl
theorem zDl(n:Nat)(hn:n<=1000)(w:World):(Instr.makeSlice 138 (.int .i64 (n:Int)) (.int .i64 (n:Int))).run Tryz.prog w = .ok (.slice (some ⟨w.heap.size,0,none⟩) n n) (w.alloc (.cells (madeCells #[.bool false] n) 4)):=
 run_make_row' 138 4 (.bool false) 1 (by kernel_rfl) zL0 rfl .i64 .i64 n (by omega) (by omega) w
open Go.Maps
def zEI(W:zH)(s:Nat):Prop:=∃m,m<qf W/\∃b,((s:Int),b)∈yf W (zc W m)
def zBG(W:zH)(i:Nat):Int×Int:=if i<W.sn then((W.zOd i).rs,(W.zOd i).rb)else((W.zOb (i - W.sn)).rs,(W.zOb (i - W.sn)).rb)
def zBm(W:zH)(n:Nat):List (Int×Int):=(List.range n).map (zBG W)
theorem zBa(W:zH)(n:Nat):(zBm W n).length=n:=by simp[zBm]
theorem zFr(W:zH)(n:Nat):zBm W (n+1)=zBm W n ++ [zBG W n]:=by simp[zBm,List.range_succ]
theorem zDx{W:zH}{i:Nat}(h:i<W.sn):zBG W i=((W.zOd i).rs,(W.zOd i).rb):=if_pos h
theorem zDC(W:zH)(i:Nat):zBG W (W.sn+i)=((W.zOb i).rs,(W.zOb i).rb):=by
 unfold zBG;rw[if_neg (by omega),show W.sn+i - W.sn=i by omega]
theorem zLX{W:zH}{n i:Nat}(h:i<n):zg (zBm W n) i=(zBG W i).1/\zj (zBm W n) i=(zBG W i).2:=by
 unfold zg zj;rw[yQ (by rw[zBa];exact h)];simp[zBm]
theorem zMk{W:zH}(hT:zAy W){i:Nat}(hi:i<W.sn+W.pn):qQ W.zOa (zBG W i).1 (zBG W i).2:=by
 by_cases h:i<W.sn
 ·rw[zDx h];exact hT.set h
 ·have:=zDC W (i - W.sn);rw[show W.sn+(i - W.sn)=i by omega]at this;rw[this];exact hT.snap (by omega)
theorem zJ2{W:zH}{s:Nat}:zEI W s↔∃i,i<W.sn+W.pn/\∃b,((s:Int),b)∈zY W.zOa (zBG W i).1 (zBG W i).2:=by
 unfold zEI qf yf;constructor
 ·rintro⟨m,hm,b,h⟩;by_cases hp:m<W.pn
  ·rw[qZ hp]at h;exact⟨W.sn+m,by omega,b,by rw[zDC];exact h⟩
  ·have e:=yk W (m - W.pn);rw[show W.pn+(m - W.pn)=m by omega]at e;rw[e]at h;exact⟨m - W.pn,by omega,b,by rw[zDx (by omega)];exact h⟩
 ·rintro⟨i,hi,b,h⟩;by_cases hs:i<W.sn
  ·rw[zDx hs]at h;exact⟨W.pn+i,by omega,b,by rw[yk];exact h⟩
  ·have e:=zDC W (i - W.sn);rw[show W.sn+(i - W.sn)=i by omega]at e;rw[e]at h;exact⟨i - W.sn,by omega,b,by rw[qZ (by omega)];exact h⟩
def zN3(W:zH)(k:Nat)(l:List (Int×Int))(j s:Nat):Prop:=(∃i,i<k/\∃b,((s:Int),b)∈zY W.zOa (zBG W i).1 (zBG W i).2)\/∃q,q<j/\zg l q=(s:Int)
def zDO(W:zH)(k:Nat)(l:List (Int×Int))(j:Nat)(f:Nat->Bool):Prop:=∀s,f s=true↔zN3 W k l j s
theorem zKB{W:zH}{k j s:Nat}{l:List (Int×Int)}{f:Nat->Bool}(h:zDO W k l j f)(hs:zg l j=(s:Int)):zDO W k l (j+1) (fun i=>if i=s then true else f i):=by
 intro i;show(if i=s then true else f i)=true↔_;by_cases e:i=s
 ·subst e;rw[if_pos rfl];exact⟨fun _=>Or.inr ⟨j,by omega,hs⟩,fun _=>rfl⟩
 ·rw[if_neg e,h i];constructor
  ·rintro(h | ⟨q,hq,h⟩)
   ·exact Or.inl h
   ·exact Or.inr ⟨q,by omega,h⟩
  ·rintro(h | ⟨q,hq,h⟩)
   ·exact Or.inl h
   ·by_cases eq:q=j
    ·subst eq;exact absurd (by omega) e
    ·exact Or.inr ⟨q,by omega,h⟩
theorem zKC{W:zH}{k:Nat}{l:List (Int×Int)}{f:Nat->Bool}(h:zDO W k l l.length f)(hl:l=zY W.zOa (zBG W k).1 (zBG W k).2):zDO W (k+1) [] 0 f:=by
 intro s;rw[h s];constructor
 ·rintro(⟨i,hi,h⟩ | ⟨q,hq,e⟩)
  ·exact Or.inl ⟨i,by omega,h⟩
  ·refine Or.inl ⟨k,by omega,(l[q]).2,?_⟩;unfold zg at e;rw[yQ hq]at e;rw[<-hl,<-e];exact List.getElem_mem hq
 ·rintro(⟨i,hi,b,h2⟩ | ⟨q,hq,e⟩)
  ·by_cases e:i=k
   ·subst e;rw[<-hl]at h2;obtain⟨q,hq,e⟩:=List.getElem_of_mem h2;exact Or.inr ⟨q,hq,by unfold zg;rw[yQ hq,e]⟩
   ·exact Or.inl ⟨i,by omega,b,h2⟩
  ·omega
theorem zJE{W:zH}{k:Nat}{f:Nat->Bool}(h:zDO W k [] 0 f)(l:List (Int×Int)):zDO W k l 0 f:=by
 intro s;rw[h s];constructor
 ·rintro(h | ⟨q,hq,_⟩)
  ·exact Or.inl h
  ·omega
 ·rintro(h | ⟨q,hq,_⟩)
  ·exact Or.inl h
  ·omega
theorem zG5{p:zI}{rs rb:Int}(hR:zt p)(hT:qQ p rs rb){j:Nat}(hj:j<(zY p rs rb).length):∃s:Nat,zg (zY p rs rb) j=(s:Int)/\s<p.n:=by
 unfold zg;rw[yQ hj];have:=(zBk hR hT (List.getElem_mem hj)).1;obtain⟨_,h0,h1,_⟩:=this;exact⟨((zY p rs rb)[j]).1.toNat,by omega,by omega⟩
theorem za.grown{w w1:World}{b:Nat}{v0 v1 v2 v3 v4 v5:Value}{row:Option Nat}(h:za w b v0 v1 v2 v3 v4 v5)(hg:w.grownBy w1 row)(hne:∀q,row=some q->b≠q):za w1 b v0 v1 v2 v3 v4 v5:=by
 have hb:b<w.heap.size:=h.1.lt;refine h.zOW (S:=fun k=>row=some k) ⟨hg.os,hg.tape,hg.output,hg.size,fun k hk hs=>hg.block k hk (fun e=>hs e.symm)⟩ (fun e=>hne b e rfl)
theorem yP.grown{w w1:World}{R n:Nat}{f:Nat->Bool}{row:Option Nat}(h:yP w R n f)(hg:w.grownBy w1 row)(hne:∀q,row=some q->R≠q):yP w1 R n f:=fun i hi=>
 (h i hi).zOW (S:=fun k=>row=some k) ⟨hg.os,hg.tape,hg.output,hg.size,fun k hk hs=>hg.block k hk (fun e=>hs e.symm)⟩ (fun e=>hne R e rfl)
theorem zIR(v0 v1 v2 v3:Value)(lo hi:Nat)(W:zH)(w:World)(h:zr w lo hi v0 v1 v2 v3 W)(hT:zAy W)(hs:W.sn<=8)(hp:W.pn<=20) :
  Calls Tryz.prog 104 #[qT v0 v1 v2 v3 W] w fun e w'=>∃R f,e = .returned (.slice (some ⟨R,0,none⟩) W.zOa.n W.zOa.n)/\w.heap.size<=R/\yP w' R W.zOa.n f/\(∀s,f s=true↔zEI W s)/\Below w.heap.size w w':=by
 have Hp:=zB h;have HT:=zB hT;obtain⟨m1,a,c,rfl,mc,_⟩:=id h.zOb;obtain⟨m2,a',c',rfl,lC,_⟩:=id h.zOd;obtain⟨m0,a0,c0,rfl,mC,_⟩:=id h.zOa.1;unfold maxLen at m0 m1 m2;have kC:W.zOa.n<=200:=hT.right.1;clear h hT;obtain⟨i0,kB,iB⟩:=Option.map_eq_some_iff.1 zCp;simp only[Prod.mk.injEq]at iB;have HI:=zB (And.intro kB iB);clear kB iB;have jC:=zDl W.zOa.n (by omega);have ha:=zC w (.cells #[.slice a0 W.zOa.n c0,v1,.int .i64 W.time,.int .i64 W.next,.slice a' W.sn c',.slice a W.pn c] 40);have hz1:(w.alloc (.cells #[.slice a0 W.zOa.n c0,v1,.int .i64 W.time,.int .i64 W.next,.slice a' W.sn c',.slice a W.pn c] 40)).heap.size=w.heap.size+1:=World.size_alloc _ _;have sB:∀W1:World,W1=w.alloc (.cells #[.slice a0 W.zOa.n c0,v1,.int .i64 W.time,.int .i64 W.next,.slice a' W.sn c',.slice a W.pn c] 40)->za ((W1.alloc (.cells (madeCells #[.bool false] W.zOa.n) 4)).alloc (.cells #[] 99)) w.heap.size (.slice a0 W.zOa.n c0) v1 (.int .i64 W.time) (.int .i64 W.next) (.slice a' W.sn c') (.slice a W.pn c)/\yP ((W1.alloc (.cells (madeCells #[.bool false] W.zOa.n) 4)).alloc (.cells #[] 99)) (w.heap.size+1) W.zOa.n (fun _=>false)/\qH ((W1.alloc (.cells (madeCells #[.bool false] W.zOa.n) 4)).alloc (.cells #[] 99)) (w.heap.size+2) (.slice (some ⟨w.heap.size+1+1,0,none⟩) 0 0) []/\Below w.heap.size w ((W1.alloc (.cells (madeCells #[.bool false] W.zOa.n) 4)).alloc (.cells #[] 99)):=by
  rintro W1 rfl;have hB:=za.zOY w (.slice a0 W.zOa.n c0) v1 (.int .i64 W.time) (.int .i64 W.next) (.slice a' W.sn c') (.slice a W.pn c) 40;have hR:=yP.zOY (w.alloc (.cells #[.slice a0 W.zOa.n c0,v1,.int .i64 W.time,.int .i64 W.next,.slice a' W.sn c',.slice a W.pn c] 40)) W.zOa.n 4;rw[hz1]at hR;generalize w.alloc (.cells #[.slice a0 W.zOa.n c0,v1,.int .i64 W.time,.int .i64 W.next,.slice a' W.sn c',.slice a W.pn c] 40)=W1 at *;have b2:=zC W1 (.cells (madeCells #[.bool false] W.zOa.n) 4);have hz2:(W1.alloc (.cells (madeCells #[.bool false] W.zOa.n) 4)).heap.size=w.heap.size+1+1:=(by rw[World.size_alloc,hz1]);have bC:=hB.zOU b2;have cC:=zA ha b2;generalize W1.alloc (.cells (madeCells #[.bool false] W.zOa.n) 4)=W2 at *;have b3:=zC W2 (.cells #[] 99);have l3:=World.ownsRow_lit (e:=99) (size:=2) (base:=w.heap.size+2) W2 #[] 0 (by rw[hz2];omega) (by unfold maxLen;omega) rfl;rw[hz2]at l3;exact⟨bC.zOU b3,hR.zOU b3,l3,zA cC b3⟩
 have jB:=zB (sB _ rfl);clear sB;go_enter Tryz.func104,Tryz.ntmps104;obtain⟨⟨x0,x1⟩,⟨x2,x3⟩,⟨x4,x5⟩,⟨x6,x7⟩,⟨x8,x9⟩,⟨jA,mA⟩⟩:=za.zOY w (.slice a0 W.zOa.n c0) v1 (.int .i64 W.time) (.int .i64 W.next) (.slice a' W.sn c') (.slice a W.pn c) 40;go_wp2;clear x0 x1 x2 x3 x4 x5 x6 x7 x8 x9 jA mA ha
 go_loopw [4,5] (fun vr i wr=>∃k:Nat,k<=W.sn/\i = .int .i64 k/\qH wr (w.heap.size+2) vr (zBm W k)/\za wr w.heap.size (.slice a0 W.zOa.n c0) v1 (.int .i64 W.time) (.int .i64 W.next) (.slice a' W.sn c') (.slice a W.pn c)/\yP wr (w.heap.size+1) W.zOa.n (fun _=>false)/\Below w.heap.size w wr) (fun _ i _=>W.sn - (intOf i).toNat)
 case atStart=>
  obtain⟨s1,s2,s3,s4⟩:=jB.out;exact⟨0,Nat.zero_le _,rfl,s3,s1,s2,s4⟩
 case round=>
  clear jB hz1;obtain⟨k,hk,rfl,dA,hX,hR,hb⟩:=hrel;have aA:=zB dA;have HX:=zB hX;have eA:=zB hR;clear dA hX hR;obtain⟨⟨x0,x1⟩,⟨x2,x3⟩,⟨x4,x5⟩,⟨x6,x7⟩,⟨x8,x9⟩,⟨jA,mA⟩⟩:=HX.out;by_cases hlt:k<W.sn
  ·have sA:(k:Int)<(W.sn:Int):=(by omega);obtain⟨b,off,vd,rfl,hs2⟩:=(Hp.out.zOd.zOU hb).cells hlt;have q3:=hs2.c3;have q4:=hs2.c4;clear hs2;have gA:=zC wr (.cells #[.int .i64 (W.zOd k).rs,.int .i64 (W.zOd k).rb] 99);have cA:=zB (aA.out.zOU gA);have oA:=zB (HX.out.zOU gA);have nA:=zB (eA.out.zOU gA);have pA:=zA hb gA;have hz2:=zD jA;have hz4:=(eA.out);have hz3:(wr.alloc (.cells #[.int .i64 (W.zOd k).rs,.int .i64 (W.zOd k).rb] 99)).heap.size=wr.heap.size+1:=World.size_alloc _ _;have HN:=zB (World.news_of_block (heap_alloc_last wr (.cells #[.int .i64 (W.zOd k).rs,.int .i64 (W.zOd k).rb] 99)));have lA:=zBa W k;clear gA aA HX eA hz4;go_wp2_with (first
    | (at_builtin;refine wpList_append_lies _ rfl _ _ 100 rfl (w.heap.size+2) 99 i0 (.agg #[.int .i64 0,.int .i64 0]) 2 16 (by kernel_rfl) HI.out.1 HI.out.2.1 HI.out.2.2.1 HI.out.2.2.2 rfl (by decide) _ _ _ rfl cA.out ⟨wr.heap.size,0,none⟩ 1 1 [.int .i64 (W.zOd k).rs,.int .i64 (W.zOd k).rb] rfl rfl HN.out (by simp[Value.oneCell']) (by decide) (by unfold maxLen;omega) (by omega) (by omega) _ rfl ?_;intro g' cB w8 iA bA eB gB)
    | go_in)
   go_roundw
   case rel=>
    have hne:∀q,Value.ownBlock _=some q->w.heap.size+2<=q:=fun q hq=>(cA.out.lt hq).1
    refine⟨k+1,by omega,by go_num,?_,oA.out.grown bA (fun q hq=>by have:=hne q hq;omega),nA.out.grown bA (fun q hq=>by have:=hne q hq;omega),pA.grown bA pA.size (fun q hq=>by have:=hne q hq;omega)⟩;rw[zFr,zDx hlt];have tA:=qH.next iA;rw[lA]at tA;exact tA
   case measure=>simp[intOf];omega
  ·obtain rfl:k=W.sn:=(by omega);go_wp2
   go_loopw [4,6] (fun vr i wr=>∃k:Nat,k<=W.pn/\i = .int .i64 k/\qH wr (w.heap.size+2) vr (zBm W (W.sn+k))/\za wr w.heap.size (.slice a0 W.zOa.n c0) v1 (.int .i64 W.time) (.int .i64 W.next) (.slice a' W.sn c') (.slice a W.pn c)/\yP wr (w.heap.size+1) W.zOa.n (fun _=>false)/\Below w.heap.size w wr) (fun _ i _=>W.pn - (intOf i).toNat)
   case atStart=>exact⟨0,Nat.zero_le _,rfl,aA.out,HX.out,eA.out,hb⟩
   case round=>
    clear x0 x1 x2 x3 x4 x5 x6 x7 x8 x9 jA mA HX hb aA eA;obtain⟨k,hk,rfl,dA,hX,hR,hb⟩:=hrel;have aA:=zB dA;have HX:=zB hX;have eA:=zB hR;clear dA hX hR;obtain⟨⟨x0,x1⟩,⟨x2,x3⟩,⟨x4,x5⟩,⟨x6,x7⟩,⟨x8,x9⟩,⟨jA,mA⟩⟩:=HX.out;by_cases hlt:k<W.pn
    ·have sA:(k:Int)<(W.pn:Int):=(by omega);obtain⟨b,off,vd,rfl,hs2⟩:=(Hp.out.zOb.zOU hb).cells hlt;have q3:=hs2.c5;have q4:=hs2.c6;clear hs2;have gA:=zC wr (.cells #[.int .i64 (W.zOb k).rs,.int .i64 (W.zOb k).rb] 99);have cA:=zB (aA.out.zOU gA);have oA:=zB (HX.out.zOU gA);have nA:=zB (eA.out.zOU gA);have pA:=zA hb gA;have hz2:=zD jA;have hz3:(wr.alloc (.cells #[.int .i64 (W.zOb k).rs,.int .i64 (W.zOb k).rb] 99)).heap.size=wr.heap.size+1:=World.size_alloc _ _;have HN:=zB (World.news_of_block (heap_alloc_last wr (.cells #[.int .i64 (W.zOb k).rs,.int .i64 (W.zOb k).rb] 99)));have lA:=zBa W (W.sn+k);clear gA aA HX eA;go_wp2_with (first
      | (at_builtin;refine wpList_append_lies _ rfl _ _ 100 rfl (w.heap.size+2) 99 i0 (.agg #[.int .i64 0,.int .i64 0]) 2 16 (by kernel_rfl) HI.out.1 HI.out.2.1 HI.out.2.2.1 HI.out.2.2.2 rfl (by decide) _ _ _ rfl cA.out ⟨wr.heap.size,0,none⟩ 1 1 [.int .i64 (W.zOb k).rs,.int .i64 (W.zOb k).rb] rfl rfl HN.out (by simp[Value.oneCell']) (by decide) (by unfold maxLen;omega) (by omega) (by omega) _ rfl ?_;intro g' cB w8 iA bA eB gB)
      | go_in)
     go_roundw
     case rel=>
      have hne:∀q,Value.ownBlock _=some q->w.heap.size+2<=q:=fun q hq=>(cA.out.lt hq).1
      refine⟨k+1,by omega,by go_num,?_,oA.out.grown bA (fun q hq=>by have:=hne q hq;omega),nA.out.grown bA (fun q hq=>by have:=hne q hq;omega),pA.grown bA pA.size (fun q hq=>by have:=hne q hq;omega)⟩;rw[show W.sn+(k+1)=W.sn+k+1 from rfl,zFr,zDC];have tA:=qH.next iA;rw[lA]at tA;exact tA
     case measure=>simp[intOf];omega
    ·obtain rfl:k=W.pn:=(by omega);go_wp2;obtain⟨ar,cr,rfl,gC⟩:=zX aA.out;rw[zBa]at *;clear x0 x1 x2 x3 x4 x5 x6 x7 x8 x9 jA mA
     go_loopw [7] (fun i wr=>∃k:Nat,∃f,k<=W.sn+W.pn/\i = .int .i64 k/\qH wr (w.heap.size+2) (.slice ar (W.sn+W.pn) cr) (zBm W (W.sn+W.pn))/\za wr w.heap.size (.slice a0 W.zOa.n c0) v1 (.int .i64 W.time) (.int .i64 W.next) (.slice a' W.sn c') (.slice a W.pn c)/\yP wr (w.heap.size+1) W.zOa.n f/\zDO W k [] 0 f/\Below w.heap.size w wr) (fun i _=>W.sn+W.pn - (intOf i).toNat)
     case atStart=>exact⟨0,fun _=>false,Nat.zero_le _,rfl,aA.out,HX.out,eA.out,fun s=>⟨fun h=>absurd h (by simp),fun h=>by rcases h with⟨i,hi,_⟩ | ⟨q,hq,_⟩<;>omega⟩,hb⟩
     case round=>
      clear HX hb aA eA;obtain⟨k,f,hk,rfl,dA,hX,hR,hm,hb⟩:=hrel;have aA:=zB dA;have HX:=zB hX;have eA:=zB hR;have Hm:=zB hm;clear dA hX hR hm;by_cases hlt:k<W.sn+W.pn
      ·have sA:(k:Int)<(W.sn+W.pn:Int):=(by omega);have nB:=zMk HT.out hlt;have fB:=zLX (W:=W) hlt;have fA:=(aA.out.atW (by rw[zBa];omega));rw[zBa]at fA;obtain⟨b,off,rfl,q0,q1⟩:=fA.cellsD hlt;rw[fB.1]at q0;rw[fB.2]at q1;have aB:=zB nB;clear nB fB;generalize oB:(zBG W k).1=rs at *;generalize pB:(zBG W k).2=rb at *;have bB:=zB (And.intro oB pB);clear oB pB fA;obtain⟨⟨x0,x1⟩,⟨x2,x3⟩,⟨x4,x5⟩,⟨x6,x7⟩,⟨x8,x9⟩,⟨jA,mA⟩⟩:=HX.out;clear x1 x3 x4 x5 x6 x7 x8 x9 jA mA;go_wp2_with fail;go_region_held3 (fun w'=>w'.cell? ⟨w.heap.size,0,none⟩=some (.slice a0 W.zOa.n c0)/\w'.cell? ⟨w.heap.size,1,none⟩=some v1/\w'.cell? ⟨b,off+k*2,none⟩=some (.int .i64 rs)/\w'.cell? ⟨b,off+k*2+1,none⟩=some (.int .i64 rb)) (go_keep)
        (first | (go_at_call 58;refine(q8 _ v1 lo hi W.zOa rs rb _ ?_ HT.out.right aB.out).mono ?_;(exact(Hp.out.zOa.zOU hb).zOU (Below.refl _ _).drew);rintro e w6 ⟨vl,rfl,rB,kA⟩;obtain⟨⟨y0,_⟩,⟨y1,_⟩,_⟩:=HX.out.zOU (zJ kA);have z0:=(kA.cell (p:=⟨b,off+k*2,none⟩) (zD q0)).trans q0;have z1:=(kA.cell (p:=⟨b,off+k*2+1,none⟩) (zD q1)).trans q1))
       have rA:=yw hb kA;have oA:=zB (HX.out.zOU (zJ kA));have nA:=zB (eA.out.zOU (zJ kA));have cA:=zB (aA.out.zOU (zJ kA));have dB:0<W.zOa.n->w.heap.size+1<wr.heap.size:=fun h0=>(eA.out 0 h0).lt
       have Hl:=zB rB;clear kA rB z0 z1 y0 y1 q0 q1 x0 x2 HX eA aA;have tB:wr.drew.heap.size=wr.heap.size:=rfl;rw[tB]at Hl;obtain⟨al,cl,rfl,fC⟩:=zX Hl.out;have iC:=qs W.zOa rs rb;have vB:=zB (fun j (hj:j<(zY W.zOa rs rb).length)=>zG5 HT.out.right aB.out hj);have HE:=zB (show zY W.zOa rs rb=zY W.zOa (zBG W k).1 (zBG W k).2 by rw[bB.out.1,bB.out.2]);generalize zY W.zOa rs rb=l at *;clear bB aB tB;go_wp2
       go_loopw [9] (fun i vA=>∃j:Nat,∃f,j<=l.length/\i = .int .i64 j/\qH vA wr.heap.size (.slice al l.length cl) l/\qH vA (w.heap.size+2) (.slice (some ⟨b,off,none⟩) (W.sn+W.pn) cr) (zBm W (W.sn+W.pn))/\za vA w.heap.size (.slice a0 W.zOa.n c0) v1 (.int .i64 W.time) (.int .i64 W.next) (.slice a' W.sn c') (.slice a W.pn c)/\yP vA (w.heap.size+1) W.zOa.n f/\zDO W k l j f/\Below w.heap.size w vA) (fun i _=>l.length - (intOf i).toNat)
       case atStart=>exact⟨0,f,Nat.zero_le _,rfl,Hl.out,cA.out,oA.out,nA.out,zJE Hm.out l,rA⟩
       case round=>
        clear oA nA cA Hl rA Hm f;obtain⟨j,f,hj,rfl,mB,dA,hX,hR,hm,rA⟩:=hrel;have Hl:=zB mB;have aA:=zB dA;have HX:=zB hX;have eA:=zB hR;have Hm:=zB hm;clear dA hX hR hm mB;by_cases lB:j<l.length
        ·have dC:(j:Int)<(l.length:Int):=(by omega);obtain⟨b2,eC,rfl,q0,q1⟩:=(Hl.out.atW (by omega)).cellsD lB;obtain⟨s,hs1,hs2⟩:=vB.out j lB;have hs3:(s:Int)<(W.zOa.n:Int):=(by omega);rw[hs1]at q0;obtain⟨y0,y1⟩:=eA.out s hs2;have aC:=zB hs1;clear hs1 q1;go_wp2;go_roundw
         case rel=>exact⟨j+1,_,by omega,by go_num,Hl.out.put (dB (by omega)) _,aA.out.put (by omega) _,HX.out.zOW (zE.put _ (w.heap.size+1) s _) (by omega),eA.out.put true,zKB Hm.out aC.out,rA.setCell (show w.heap.size<=w.heap.size+1 by omega) _⟩
         case measure=>simp[intOf];omega
        ·obtain rfl:j=l.length:=(by omega);go_wp2;go_roundw
         case rel=>exact⟨k+1,f,by omega,by go_num,aA.out,HX.out,eA.out,zKC Hm.out HE.out,rA⟩
         case measure=>simp[intOf];omega
      ·obtain rfl:k=W.sn+W.pn:=(by omega);go_wp2;go_ret;refine⟨_,f,rfl,by omega,eA.out,fun s=>?_,hb⟩;rw[Hm.out s,zJ2];constructor
       ·rintro(h | ⟨q,hq,_⟩)
        ·exact h
        ·omega
       ·exact Or.inl
def zIB(W:zH)(k:Nat):Prop:=∀i,i<k->∀j,j<i->∀x,x∈zEU W (zc W i)->∀y,y∈zEU W (zc W j)->x.1≠y.1
def zB5(W:zH)(k:Nat)(now old:List (Int×Int))(j:Nat):Prop:=∀q,q<j->(zg now q,zj now q)∉old->∀i,i<k->∀y,y∈zEU W (zc W i)->zg now q≠y.1
def zN6(W:zH)(k:Nat)(now old:List (Int×Int))(j s:Nat):Prop:=(∃i,i<k/\∃b,((s:Int),b)∈zEU W (zc W i))\/∃q,q<j/\zg now q=(s:Int)/\(zg now q,zj now q)∉old
def zBN(W:zH)(k:Nat)(now old:List (Int×Int))(j:Nat)(f:Nat->Bool):Prop:=∀s,f s=true↔zN6 W k now old j s
theorem zGN{W:zH}{k:Nat}{aA bA:List (Int×Int)}(h:zIB W k)(hn:aA=yf W (zc W k))(ho:bA=zCO W (zc W k))(hr:zB5 W k aA bA aA.length):zIB W (k+1):=by
 intro i hi j hj x hx y hy;by_cases e:i=k
 ·subst e;obtain⟨h1,h2⟩:=List.mem_filter.1 hx;rw[<-hn]at h1;rw[<-ho]at h2;obtain⟨q,hq,e⟩:=List.getElem_of_mem h1;have:=hr q hq;unfold zg zj at this;rw[yQ hq,e]at this;exact this (by simpa using h2) j hj y hy
 ·exact h i (by omega) j hj x hx y hy
theorem zHy{W:zH}{k j:Nat}{aA bA:List (Int×Int)}{f:Nat->Bool}(h:zBN W k aA bA j f)(cA:(zg aA j,zj aA j)∈bA):zBN W k aA bA (j+1) f:=by
 intro s;rw[h s];constructor
 ·rintro(h | ⟨q,hq,h⟩)
  ·exact Or.inl h
  ·exact Or.inr ⟨q,by omega,h⟩
 ·rintro(h | ⟨q,hq,h1,h2⟩)
  ·exact Or.inl h
  ·by_cases e:q=j
   ·subst e;exact absurd cA h2
   ·exact Or.inr ⟨q,by omega,h1,h2⟩
theorem zHx{W:zH}{k j s:Nat}{aA bA:List (Int×Int)}{f:Nat->Bool}(h:zBN W k aA bA j f)(hs:zg aA j=(s:Int))(cA:(zg aA j,zj aA j)∉bA):zBN W k aA bA (j+1) (fun i=>if i=s then true else f i):=by
 intro i;show(if i=s then true else f i)=true↔_;by_cases e:i=s
 ·subst e;rw[if_pos rfl];exact⟨fun _=>Or.inr ⟨j,by omega,hs,cA⟩,fun _=>rfl⟩
 ·rw[if_neg e,h i];constructor
  ·rintro(h | ⟨q,hq,h⟩)
   ·exact Or.inl h
   ·exact Or.inr ⟨q,by omega,h⟩
  ·rintro(h | ⟨q,hq,h,h2⟩)
   ·exact Or.inl h
   ·by_cases eq:q=j
    ·subst eq;exact absurd (by omega) e
    ·exact Or.inr ⟨q,by omega,h,h2⟩
theorem zJP{W:zH}{k j:Nat}{aA bA:List (Int×Int)}(h:zB5 W k aA bA j)(cA:(zg aA j,zj aA j)∈bA):zB5 W k aA bA (j+1):=by
 intro q hq;by_cases e:q=j
 ·subst e;exact fun h=>absurd cA h
 ·exact h q (by omega)
theorem zJO{W:zH}{k j s:Nat}{aA bA:List (Int×Int)}{f:Nat->Bool}(h:zB5 W k aA bA j)(hS:zBN W k aA bA j f)(hs:zg aA j=(s:Int))(hf:f s=false):zB5 W k aA bA (j+1):=by
 intro q hq;by_cases e:q=j
 ·subst e;intro _ i hi y hy ey;have:f s=true:=(hS s).2 (Or.inl ⟨i,hi,y.2,by rw[<-hs,ey];exact hy⟩);rw[hf]at this;exact absurd this (by simp)
 ·exact h q (by omega)
theorem zHz{W:zH}{k:Nat}{aA bA:List (Int×Int)}{f:Nat->Bool}(h:zBN W k aA bA aA.length f)(hn:aA=yf W (zc W k))(ho:bA=zCO W (zc W k)):zBN W (k+1) [] [] 0 f:=by
 intro s;rw[h s];constructor
 ·rintro(⟨i,hi,h⟩ | ⟨q,hq,e,h2⟩)
  ·exact Or.inl ⟨i,by omega,h⟩
  ·refine Or.inl ⟨k,by omega,(aA[q]).2,?_⟩;unfold zg zj at h2;unfold zg at e;rw[yQ hq]at e h2;refine List.mem_filter.2 ⟨?_,?_⟩
   ·rw[<-hn,<-e];exact List.getElem_mem hq
   ·rw[<-ho,<-e];simpa using h2
 ·rintro(⟨i,hi,b,h2⟩ | ⟨q,hq,_⟩)
  ·by_cases e:i=k
   ·subst e;obtain⟨h3,h4⟩:=List.mem_filter.1 h2;rw[<-hn]at h3;rw[<-ho]at h4;obtain⟨q,hq,e⟩:=List.getElem_of_mem h3;refine Or.inr ⟨q,hq,?_⟩;unfold zg zj;rw[yQ hq,e];exact⟨rfl,by simpa using h4⟩
   ·exact Or.inl ⟨i,by omega,b,h2⟩
  ·omega
theorem zG0{W:zH}{k:Nat}{f:Nat->Bool}(h:zBN W k [] [] 0 f)(aA bA:List (Int×Int)):zBN W k aA bA 0 f:=by
 intro s;rw[h s];constructor
 ·rintro(h | ⟨q,hq,_⟩)
  ·exact Or.inl h
  ·omega
 ·rintro(h | ⟨q,hq,_⟩)
  ·exact Or.inl h
  ·omega
theorem zG1{W:zH}{k j s:Nat}{aA bA:List (Int×Int)}{f:Nat->Bool}(hT:zAy W)(hk:k<qf W)(hn:aA=yf W (zc W k))(ho:bA=zCO W (zc W k))(hS:zBN W k aA bA j f)(hj:j<aA.length)(hs:zg aA j=(s:Int))(cA:(zg aA j,zj aA j)∉bA)(hf:f s=true):¬zE9 W:=by
 intro hA;rcases(hS s).1 hf with⟨i,hi,b,h⟩ | ⟨q,hq,e,h2⟩
 ·refine hA k hk i hi (zg aA j,zj aA j) ?_ _ h hs;refine List.mem_filter.2 ⟨?_,by rw[<-ho];simpa using cA⟩;rw[<-hn];unfold zg zj;rw[yQ hj];exact List.getElem_mem hj
 ·have dA:=zFp hT.right (l:=aA) (fun x hx=>by rw[hn]at hx;exact(zBk hT.right (hT.tree k hk) hx).1) (by rw[hn];exact zDo hT.right (hT.tree k hk)) (by rw[hn];have:=qs W.zOa (zc W k).rs (zc W k).rb;unfold yf;omega);exact dA.2.2 j hj q hq (by rw[e,hs])
end Go.Proofs.YtgabgheflgjgiaaGreatDoor

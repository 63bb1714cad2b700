/- A part of the proof. -/
import Derived.Test.YtginldeebkfbgaaGreatF11
import Derived.Deep.RegionLawGrows
import Derived.Scope
import Derived.WalkMore
import Derived.Deep.MidRow
set_option linter.unusedVariables false
set_option maxRecDepth 20000
set_option maxHeartbeats 4000000
namespace Go.Proofs.YtginldeebkfbgaaGreat
open Go.RowKit
def zDa(p:zF)(rs:Int)(s:zN)(j:Nat):List Int:=rs :: zCV (zCY p s j)
def zG6(p:zF)(rs:Int)(s:zN)(j i:Nat):List Int:=zDa p rs s j ++ (zy s j :: zCV (kidsUp (zy (p.s (zy s j).toNat)) (qm (p.s (zy s j).toNat)) i))
theorem zMg(p:zF)(s:zN)(j:Nat):∀m,j<=m->∃r,zCY p s m=zCY p s j ++ r
 | 0,h=>⟨[],by rw[show j=0 by omega];simp⟩
 | m+1,h=>by
  by_cases e:j=m+1
  ·subst e;exact⟨[],by simp⟩
  ·obtain⟨r,hr⟩:=zMg p s j m (by omega);exact⟨r ++ zGK p (zy s m) (qm s m),by rw[zCY,hr,List.append_assoc]⟩
theorem zJ7(ks kb:Nat->Int)(j:Nat):∀m,j<=m->∃r,kidsUp ks kb m=kidsUp ks kb j ++ r
 | 0,h=>⟨[],by rw[show j=0 by omega];simp⟩
 | m+1,h=>by
  by_cases e:j=m+1
  ·subst e;exact⟨[],by simp⟩
  ·obtain⟨r,hr⟩:=zJ7 ks kb j m (by omega);exact⟨r ++ one (ks m) (kb m),by rw[kidsUp,hr,List.append_assoc]⟩
theorem zD0(l m:List (Int×Int)):zCV (l ++ m)=zCV l ++ zCV m:=by simp[zCV]
theorem zGR{l:List Int}{x:Int}:(l ++ [x]).Nodup↔l.Nodup/\x∉l:=by
 rw[List.nodup_append];constructor
 ·rintro⟨h1,_,h3⟩;exact⟨h1,fun hx=>h3 x hx x (by simp) rfl⟩
 ·rintro⟨h1,h2⟩;refine⟨h1,by simp,fun a ha b hb e=>?_⟩;rw[List.mem_singleton]at hb;subst hb;subst e;exact h2 ha
theorem zIJ{p:zF}{rs rb:Int}(hz:¬Nil rs rb):zCV (zH p rs rb)=zDa p rs (p.s rs.toNat) 8:=by
 unfold zH zDa;rw[if_neg hz];rfl
theorem zXE{p:zF}{s:zN}{j:Nat}(hn:¬Nil (zy s j) (qm s j)):zGK p (zy s j) (qm s j)=(zy s j,qm s j) :: zPA (p.s (zy s j).toNat):=if_neg hn
theorem zOK{p:zF}{rs:Int}{s:zN}{j:Nat}(hn:¬Nil (zy s j) (qm s j)):zDa p rs s (j+1)=zG6 p rs s j 8:=by
 unfold zDa zG6 zDa;rw[zCY,zD0,zXE hn];rfl
theorem zVI{p:zF}{rs:Int}{s:zN}{j:Nat}(hn:Nil (zy s j) (qm s j)):zDa p rs s (j+1)=zDa p rs s j:=by
 unfold zDa;rw[zCY,show zGK p (zy s j) (qm s j) = [] from if_pos hn,List.append_nil]
theorem zN9(p:zF)(rs:Int)(s:zN)(j:Nat):zG6 p rs s j 0=zDa p rs s j ++ [zy s j]:=rfl
theorem zXG{p:zF}{rs:Int}{s:zN}{j i:Nat}(hn:Nil (zy (p.s (zy s j).toNat) i) (qm (p.s (zy s j).toNat) i)):zG6 p rs s j (i+1)=zG6 p rs s j i:=by
 unfold zG6;rw[kidsUp,show one (zy (p.s (zy s j).toNat) i) (qm (p.s (zy s j).toNat) i) = [] from if_pos hn,List.append_nil]
theorem zXF{p:zF}{rs:Int}{s:zN}{j i:Nat}(hn:¬Nil (zy (p.s (zy s j).toNat) i) (qm (p.s (zy s j).toNat) i)):zG6 p rs s j (i+1)=zG6 p rs s j i ++ [zy (p.s (zy s j).toNat) i]:=by
 unfold zG6;rw[kidsUp,show one (zy (p.s (zy s j).toNat) i) (qm (p.s (zy s j).toNat) i) = [(zy (p.s (zy s j).toNat) i,qm (p.s (zy s j).toNat) i)] from if_neg hn,zD0,List.append_assoc];rfl
theorem zRH(p:zF)(rs:Int)(s:zN){j:Nat}(hj:j<=8):(zDa p rs s j).length<=73:=by
 have:=zHf p s j;simp only[zDa,zCV,List.length_cons,List.length_map];omega
theorem zYs(p:zF)(rs:Int)(s:zN){j i:Nat}(hj:j<=8)(hi:i<=8):(zG6 p rs s j i).length<=90:=by
 have h1:=zRH p rs s hj;have h2:=zCj (zy (p.s (zy s j).toNat)) (qm (p.s (zy s j).toNat)) i;simp only[zG6,zCV,List.length_append,List.length_cons,List.length_map];omega
theorem zU2{p:zF}{rs rb:Int}(hz:¬Nil rs rb)(h:(zCV (zH p rs rb)).Nodup){j i:Nat}(hj:j<8)(hi:i<=8)(hn:¬Nil (zy (p.s rs.toNat) j) (qm (p.s rs.toNat) j)):(zG6 p rs (p.s rs.toNat) j i).Nodup:=by
 rw[zIJ hz]at h;obtain⟨r,hr⟩:=zMg p (p.s rs.toNat) (j+1) 8 (by omega);obtain⟨r2,aA⟩:=zJ7 (zy (p.s (zy (p.s rs.toNat) j).toNat)) (qm (p.s (zy (p.s rs.toNat) j).toNat)) i 8 hi;have e1:zDa p rs (p.s rs.toNat) 8=zDa p rs (p.s rs.toNat) (j+1) ++ zCV r:=by unfold zDa;rw[hr,zD0];rfl
 have e2:zG6 p rs (p.s rs.toNat) j 8=zG6 p rs (p.s rs.toNat) j i ++ zCV r2:=by
  unfold zG6;rw[aA,zD0,List.append_assoc];rfl
 rw[e1,zOK hn,e2,List.append_assoc]at h;exact(List.nodup_append.1 h).1
def zDF(p:zF)(xs xb:Int)(i:Nat):Int:=if Nil xs xb then 0 else zy (p.s xs.toNat) i
def zDE(p:zF)(xs xb:Int)(i:Nat):Int:=if Nil xs xb then 0 else qm (p.s xs.toNat) i
def zHy(p:zF)(xs xb:Int):Prop:=Nil xs xb\/(yF p xs xb/\(p.s xs.toNat).kn=8)
theorem zPS{p:zF}{xs xb:Int}(h:zAm p xs xb):zHy p xs xb:=by
 rcases h.2 with h2 | h2
 ·exact Or.inl h2
 ·right;refine⟨h2.1.1,?_⟩;rcases zJg h.1 h2.1.1 with h3 | h3
  ·have:=h2.1.2.1;omega
  ·exact h3
theorem zPH{p:zF}{xs xb:Int}(h:zAm p xs xb){j:Nat}(hj:j<8):zHy p (zDF p xs xb j) (zDE p xs xb j):=by
 by_cases hz:Nil xs xb
 ·left;unfold zDF zDE;rw[if_pos hz,if_pos hz];exact⟨rfl,rfl⟩
 ·unfold zDF zDE;rw[if_neg hz,if_neg hz];rcases(h.2.resolve_left hz).2.1.1 j hj with h2 | h2
  ·exact Or.inl h2
  ·right;refine⟨h2.1.1,?_⟩;rcases zJg h.1 h2.1.1 with h3 | h3
   ·have:=h2.1.2.1;omega
   ·exact h3
def zDX(p:zF)(xs xb:Int)(n:Nat):Int:=zDF p xs xb (n / 8)
def zD7(p:zF)(xs xb:Int)(n:Nat):Int:=zDE p xs xb (n / 8)
def zCx(p:zF)(xs xb:Int)(n:Nat):Int:=zDF p (zDX p xs xb n) (zD7 p xs xb n) (n % 8)
def zCm(p:zF)(xs xb:Int)(n:Nat):Int:=zDE p (zDX p xs xb n) (zD7 p xs xb n) (n % 8)
theorem zBS.next{w2:World}{base g cap:Nat}{l:List (Int×Int)}{x y:Int}(h:w2.ownsRow base 44 2 (.slice (some ⟨g,0,none⟩) (l.length+1) cap) (l.length+1) (pcl l ++ [.int .i64 x,.int .i64 y])):zBS w2 base (.slice (some ⟨g,0,none⟩) (l.length+1) cap) (l ++ [(x,y)]):=by
 unfold zBS;rw[zGO,List.length_append];exact h
def zAr(rb birth:Int):Prop:=zBT birth/\rb<=birth
theorem zVw{p:zF}{xs xb birth:Int}(h:zAm p xs xb):((∀i,i<(zH p xs xb).length->¬birth<zu (zH p xs xb) i)/\zBT birth)↔zAr xb birth:=by
 constructor
 ·rintro⟨h1,h2⟩;refine⟨h2,?_⟩;by_cases hz:Nil xs xb
  ·rw[hz.2];have:=h2.1;omega
  ·have e:zH p xs xb=(xs,xb) :: zCY p (p.s xs.toNat) 8:=if_neg hz;have:=h1 0 (by rw[e];simp);rw[e]at this;have e2:zu ((xs,xb) :: zCY p (p.s xs.toNat) 8) 0=xb:=rfl;rw[e2]at this;omega
 ·rintro⟨h1,h2⟩;refine⟨fun i hi aA=>?_,h1⟩;by_cases hz:Nil xs xb
  ·have e:zH p xs xb = []:=if_pos hz;rw[e]at hi;simp at hi
  ·have hm:(zi (zH p xs xb) i,zu (zH p xs xb) i)∈zH p xs xb:=by
    have:(zi (zH p xs xb) i,zu (zH p xs xb) i)=(zH p xs xb)[i]:=by
     unfold zi zu;rw[List.getD_eq_getElem?_getD,List.getElem?_eq_getElem hi,Option.getD_some]
    rw[this];exact List.getElem_mem hi
   have:=(zFB h.1 (h.2.resolve_left hz).1.1 _ hm).2;have e:(zi (zH p xs xb) i,zu (zH p xs xb) i).2=zu (zH p xs xb) i:=rfl;omega
set_option linter.unusedSimpArgs false
set_option maxRecDepth 20000
set_option maxHeartbeats 1600000
attribute [local go_sem] qX List.map_cons List.map_nil Tr.cv yq qK yA qz yp yo yn qy zBE zBG zBF zBB zBD zBC zCa zCc zCb qP zr qQ zt qI qH qU zAA zo zp yE qO tmpsOf zAo yD qN zBA yw yu yr yx yv stpP opds opd opdC kap zAB qJ zn coreU bin zAe zCK get put dlO fgt zBR zBK zBO zBP tyT yk yj Op.operands Call.operands evLoad evLen evStore evAlloc zAj and_true true_and List.append_nil List.nil_append List.cons_append Ret resCv zB3 yV cellM zBh zCE qV StW StR hpT hpO hpV hpA hpL hpC sg nin zCU bdO tmW obW AvE CsE CvE Av.tup Av.ids Cv.ids inD ObE Ob.ids TrE.refl qM yB yC qR qS qT zq zb zX yz zBa zCL zBH evCall argL argOf qZ outOb obO yM qA cvO tot Tr.own rid partsOf fillC zS zBf frz frz1 evBuildSlice zc trs Cv.tr evSlice Option.toArray_none Option.toArray_some evMakeSlice evAppend dstOf srcOf zA3 zBQ zBN zBL zBM ikT qx qw qv qu RetP RetN zBr qD evLd evSt evStoreH zAh evAppendM evAppendT tlOf mvOf rowE shp evTake oOf evC evCallP evCallN evCallO unlast zAO zA1 zAa argsF zCR qg pmC varT vT evField evConv dB0 Option.bind_some Option.bind_none Option.map_some Option.map_none Option.isSome_some Option.isSome_none
theorem zKn{p:zF}{a b:Int}(hR:zf p)(h:zKz p a b):(p.s a.toNat).kn=8:=by
 rcases zJg hR h.1 with h' | h'
 ·have:=h.2.1;omega
 ·exact h'
theorem zJ6{f g f' g':Nat->Int}:∀{k:Nat},(∀i,i<k->f i=f' i)->(∀i,i<k->g i=g' i)->kidsUp f g k=kidsUp f' g' k
 | 0,_,_=>rfl
 | k+1,h,h'=>by
  simp only[kidsUp];rw[zJ6 (fun i hi=>h i (by omega)) (fun i hi=>h' i (by omega)),h k (by omega),h' k (by omega)]
noncomputable def zW4:zR:=qE (fun q:zF×Int×Int=>[poT q.1.n q.1.s q.1.hn q.1.h,pT q.2.1 q.2.2]) (fun q=>zf q.1/\zW q.1 q.2.1 q.2.2) (fun q=>[(false,[.s .o 2 (zH q.1 q.2.1 q.2.2).length (ptL (zH q.1 q.2.1 q.2.2))])])
theorem zBl(p:zF)(a b:Int):zW4 [poT p.n p.s p.hn p.h,pT a b]=some (zf p/\zW p a b,[(false,[.s .o 2 (zH p a b).length (ptL (zH p a b))])]):=zK (fun l=>(zEi (nth l 0 0) (nth l 0 1),qC (nth l 1 0),qC (nth l 1 1))) (fun _=>rfl) (p,a,b)
theorem zBx:zd Tryz.prog 46 zW4:=by
 refine zP zl (GOk.cons zDA (zG Tryz.func25 rfl rfl) GOk.nil) zk Tryz.func46 rfl Tryz.ntmps46 Tryz.results46 10 ?_;rintro⟨p,a,b⟩ ⟨hR,hT⟩;replace hR:zf p:=hR;replace hT:zW p a b:=hT;have hn:p.n<=200:=hR.1;refine⟨by simp,?_⟩;simp[go_sem,zCM];refine⟨fun h1 h2=>?_,fun h=>?_⟩
 ·have e:zH p a b = []:=(by simp[zH,Nil,h1,h2]);rw[e];exact⟨zET rfl,zCh⟩
 have hN:¬Nil a b:=fun e=>h e.1 e.2
 obtain⟨bA,dA,-⟩:=hT.resolve_left hN;have h8:=zKn hR bA;refine⟨⟨bA.1.2.1,bA.1.2.2.1⟩,?_⟩;obtain⟨F,hF⟩:∃F:Nat->List (Int×Int),∀k,F k=(a,b) :: zCY p (p.s a.toNat) k:=⟨_,fun _=>rfl⟩;have gA:∀k,(F k).length<=9*k+1:=fun k=>by rw[hF];exact Nat.succ_le_succ (zHf ..)
 refine qY (fun k:Nat=>⟨[(5,true,.m false [.h 7]),(2,true,.m false [.p 2 0]),(6,true,.m false [.s .b 2 (p.s a.toNat).kn (ptrsT (p.s a.toNat).ks (p.s a.toNat).kb)]),(7,true,.i k)],[(2,.var [.s .b 3 p.n (zY .b p.s),.s .b 1 p.hn (qf p.h)]),(7,.row 2 (F k).length (ptL (F k)))]⟩) (fun k=>8 - k) (fun k=>k<=8) 0 ?_ (by simp) ?_
 ·simp[go_sem];exact zC4 (l:=[]) zEP (by simp[hF,zCY])
 rintro k hk;simp[go_sem,ze (show k<=1000000000 by omega),zCM];have kA:=gA k;refine⟨fun hl=>⟨hl,fun g1 g2=>⟨k+1,by omega,by omega,by omega,zBv ?_⟩,fun g=>?_⟩,fun hl=>?_⟩
 ·rw[hF,hF];simp[zCY,zGK,zE3 h8 (show k<8 by omega),zE2 h8 (show k<8 by omega),Nil,g1,g2]
 ·have aA:=dA.1 k (by omega);unfold zPl at aA;rw[zE3 h8 (by omega),zE2 h8 (by omega)]at aA;obtain⟨cA,iA⟩:=aA.resolve_left fun e=>g e.1 e.2
  have fA:=zKn hR cA;refine⟨hl,by omega,hl,⟨cA.1.2.1,cA.1.2.2.1⟩,by kernel_rfl,?_⟩;obtain⟨G,hG⟩:∃G:Nat->List (Int×Int),∀j,G j=F k ++ (((p.s a.toNat).ks k,(p.s a.toNat).kb k) :: kidsUp (p.s ((p.s a.toNat).ks k).toNat).ks (p.s ((p.s a.toNat).ks k).toNat).kb j):=⟨_,fun _=>rfl⟩;refine qY (fun j:Nat=>⟨[(5,true,.m false [.h 7]),(2,true,.m false [.p 2 0]),(6,true,.m false [.s .b 2 (p.s a.toNat).kn (ptrsT (p.s a.toNat).ks (p.s a.toNat).kb)]),(8,true,.m false [.s .b 2 (p.s ((p.s a.toNat).ks k).toNat).kn (ptrsT (p.s ((p.s a.toNat).ks k).toNat).ks (p.s ((p.s a.toNat).ks k).toNat).kb)]),(7,true,.i k),(9,true,.i j)],[(2,.var [.s .b 3 p.n (zY .b p.s),.s .b 1 p.hn (qf p.h)]),(7,.row 2 (G j).length (ptL (G j)))]⟩) (fun j=>8 - j) (fun j=>j<=8) 0 ?_ (by simp) ?_
  ·simp[go_sem];exact zC4 zEP (by simp[hG,kidsUp])
  rintro j hj;have jA:(G j).length<=100:=by
   have:=zCj (p.s ((p.s a.toNat).ks k).toNat).ks (p.s ((p.s a.toNat).ks k).toNat).kb j;rw[hG];simp;omega
  simp[go_sem,ze (show j<=1000000000 by omega),ze (show k<=1000000000 by omega),zCM];refine⟨fun eA=>⟨eA,fun g'=>⟨eA,by omega,j+1,by omega,by omega,by omega,zC4 zEP ?_⟩,fun g1 g2=>⟨j+1,by omega,by omega,by omega,zBv ?_⟩⟩,fun eA=>⟨k+1,by omega,by omega,by omega,zBv ?_⟩⟩
  ·rw[hG,hG];simp[kidsUp,one,if_neg (show ¬Nil ((p.s ((p.s a.toNat).ks k).toNat).ks j) ((p.s ((p.s a.toNat).ks k).toNat).kb j)from fun e=>g' e.1 e.2)]
  ·rw[hG,hG];simp[kidsUp,one,Nil,g1,g2]
  ·cases (show j=8 by omega);rw[hG,hF,hF];simp only[zCY,zGK];rw[zE3 h8 (by omega),zE2 h8 (by omega),if_neg (show ¬Nil ((p.s a.toNat).ks k) ((p.s a.toNat).kb k)from fun e=>g e.1 e.2),zPA,zJ6 (f':=zy _) (g':=qm _) (fun i hi=>(zE3 fA hi).symm) (fun i hi=>(zE2 fA hi).symm)];rfl
 ·cases (show k=8 by omega);exact⟨zBv (by rw[hF,zH,if_neg hN]),zCh⟩
theorem zbJ{l:List (Int×Int)}{i:Nat}:zEv encP (0,0) l i 0 = .v (.int .i64 (l[i]?.getD (0,0)).1):=rfl
theorem zbK{l:List (Int×Int)}{i:Nat}:zEv encP (0,0) l i 1 = .v (.int .i64 (l[i]?.getD (0,0)).2):=rfl
theorem zYK{p:zF}{a b t:Int}(h:zAm p a b):((∀i,i<(zH p a b).length->((zH p a b)[i]?.getD (0,0)).2<=t)/\zBT t)↔zAr b t:=by
 rw[<-zVw h];refine and_congr_left fun _=>forall_congr' fun i=>imp_congr_right fun _=>?_
 rw[zu,List.getD_eq_getElem?_getD,Int.not_lt]
noncomputable def zZZ:zR:=qE (fun q:zF×Int×Int×Int=>[poT q.1.n q.1.s q.1.hn q.1.h,pT q.2.1 q.2.2.1,iT q.2.2.2]) (fun q=>zf q.1/\zW q.1 q.2.1 q.2.2.1) (fun q=>bR (zAr q.2.2.1 q.2.2.2))
theorem zIt(p:zF)(a b t:Int):zZZ [poT p.n p.s p.hn p.h,pT a b,iT t]=some (zf p/\zW p a b,bR (zAr b t)):=zK (fun l=>(zEi (nth l 0 0) (nth l 0 1),qC (nth l 1 0),qC (nth l 1 1),qC (nth l 2 0))) (fun _=>rfl) (p,a,b,t)
theorem zLt:zd Tryz.prog 151 zZZ:=by
 refine zP zl (GOk.cons zBx (zG Tryz.func46 rfl rfl) (GOk.cons zGx (zG Tryz.func110 rfl rfl) GOk.nil)) zk Tryz.func151 rfl Tryz.ntmps151 Tryz.results151 9 ?_;rintro⟨p,a,b,t⟩ ⟨hR,hT⟩;replace hR:zf p:=hR;replace hT:zW p a b:=hT;refine⟨by simp,?_⟩;simp[go_sem,zBl,hR,hT,<-zYK (show zAm p a b from⟨hR,hT⟩)];have hl:=qc p a b;refine qY (fun k:Nat=>⟨[(8,true,.i k),(7,true,.m false [.h 7]),(2,true,.i t)],[(7,.row 2 (zH p a b).length (ptL (zH p a b)))]⟩) (fun k=>(zH p a b).length - k) (fun k=>k<=(zH p a b).length/\∀i,i<k->((zH p a b)[i]?.getD (0,0)).2<=t) 0 (by simp[go_sem]) (by simp) ?_;rintro k ⟨hk,aA⟩;simp[go_sem,ze (show k<=1000000000 by omega),zJb,zbJ,zbK];exact⟨fun h=>⟨h,fun h1 h2=>by have:=h2 k h;omega,fun h1=>⟨k+1,⟨by omega,qi h aA h1⟩,by omega,rfl⟩⟩,fun h h1 i hi=>aA i (by omega)⟩
theorem zDv{fl:Fl}{k n:Nat}{F G:Nat->Nat->Tr}(h:∀i j,i<n->j<k->F i j=G i j):TrE (.s fl k n F) (.s fl k n G):=⟨.inl rfl,rfl,rfl,fun i j hi hj=>TrE.of_eq (h i j hi hj)⟩
theorem zY4{fl:Fl}{n:Nat}{f g f' g':Nat->Int}(h:∀i,i<n->f i=f' i/\g i=g' i):TrE (.s fl 2 n (ptrsT f g)) (.s fl 2 n (ptrsT f' g')):=zDv fun i j hi hj=>by
 match j,hj with
 | 0,_=>exact congrArg (fun x=>Tr.v (.int .i64 x)) (h i hi).1
 | 1,_=>exact congrArg (fun x=>Tr.v (.int .i64 x)) (h i hi).2
noncomputable def zZi:zR:=qE (fun q:zF×Int×Int=>[poT q.1.n q.1.s q.1.hn q.1.h,pT q.2.1 q.2.2]) (fun q=>zHy q.1 q.2.1 q.2.2) (fun q=>[(false,[.s .o 2 8 (ptrsT (zDF q.1 q.2.1 q.2.2) (zDE q.1 q.2.1 q.2.2))])])
theorem zL4(p:zF)(a b:Int):zZi [poT p.n p.s p.hn p.h,pT a b]=some (zHy p a b,[(false,[.s .o 2 8 (ptrsT (zDF p a b) (zDE p a b))])]):=zK (fun l=>(zEi (nth l 0 0) (nth l 0 1),qC (nth l 1 0),qC (nth l 1 1))) (fun _=>rfl) (p,a,b)
theorem zIA:zd Tryz.prog 60 zZi:=by
 refine zP zl (GOk.cons zDA (zG Tryz.func25 rfl rfl) GOk.nil) zk Tryz.func60 rfl Tryz.ntmps60 Tryz.results60 5 ?_;rintro⟨p,a,b⟩ hP;replace hP:zHy p a b:=hP;refine⟨by simp,?_⟩;by_cases hN:Nil a b
 ·obtain⟨rfl,rfl⟩:=id hN;simp[go_sem,zCM,zHT];refine zDv fun i j hi hj=>?_
  match j,hj with
  | 0,_=>simp[ptrsT,zDF,Nil]
  | 1,_=>simp[ptrsT,zDE,Nil]
 ·obtain⟨aA,h8⟩:=hP.resolve_left hN;simp[go_sem,zCM,zGn,zGL,zHT,h8];exact⟨fun h1 h2=>(hN ⟨h1,h2⟩).elim,fun _=>⟨⟨aA.2.1,aA.2.2.1⟩,zY4 fun i hi=>⟨by unfold zDF;rw[if_neg hN,zE3 h8 hi],by unfold zDE;rw[if_neg hN,zE2 h8 hi]⟩⟩⟩
theorem zSx{n:Nat}(h:n<64):IntKind.i64.wrap ((n:Int) / 8)=((n / 8:Nat):Int):=by
 rw[IntKind.wrap_i64];omega
theorem zXu{n:Nat}:(n:Int).tmod 8=((n % 8:Nat):Int):=(Int.ofNat_tmod n 8).symm
noncomputable def zZp:zR:=qE (fun q:zF×Int×Int×Nat=>[poT q.1.n q.1.s q.1.hn q.1.h,pT q.2.1 q.2.2.1,iT (q.2.2.2:Int)]) (fun q=>zAm q.1 q.2.1 q.2.2.1/\q.2.2.2<64) (fun q=>[pT (zCx q.1 q.2.1 q.2.2.1 q.2.2.2) (zCm q.1 q.2.1 q.2.2.1 q.2.2.2),pT (zDX q.1 q.2.1 q.2.2.1 q.2.2.2) (zD7 q.1 q.2.1 q.2.2.1 q.2.2.2)])
theorem zIu(p:zF)(a b:Int)(n:Nat):zZp [poT p.n p.s p.hn p.h,pT a b,iT (n:Int)]=some (zAm p a b/\n<64,[pT (zCx p a b n) (zCm p a b n),pT (zDX p a b n) (zD7 p a b n)]):=zK (fun l=>(zEi (nth l 0 0) (nth l 0 1),qC (nth l 1 0),qC (nth l 1 1),(qC (nth l 2 0)).toNat)) (fun _=>rfl) (p,a,b,n)
theorem zGF:zd Tryz.prog 24 zZp:=by
 refine zP zl (GOk.cons zIA (zG Tryz.func60 rfl rfl) GOk.nil) zk Tryz.func24 rfl Tryz.ntmps24 Tryz.results24 9 ?_;rintro⟨p,a,b,n⟩ ⟨hT,hn⟩;replace hT:zAm p a b:=hT;replace hn:n<64:=hn;refine⟨by simp,?_⟩;simp[go_sem,zL4,zSx hn,zXu];refine⟨zPS hT,by omega,by omega,zPH hT (by omega),by omega,by omega,by kernel_rfl,?_⟩;rw[show((n:Int) / 8).toNat=n / 8 by omega,show((n:Int) % 8).toNat=n % 8 by omega];exact⟨⟨rfl,rfl⟩,rfl,rfl⟩
theorem zKK{p:zF}(h:∀i,i<p.n->yZ (p.s i)\/zDL p (p.s i)):∀k,k<=p.n->zBt p.s k<=24*k
 | 0,_=>Nat.le_refl _
 | k+1,hk=>by
  have ih:=zKK h k (by omega);have hs:zDI (p.s k)<=24:=by
   unfold zDI;rcases h k (by omega)with hf | hf
   ·have h1:=hf.2.1;have h2:(p.s k).data.size=0:=by
     have:=hf.2.2;rw[Go.ByteArray.toList_eq]at this;have e:(p.s k).data.data=#[]:=(by simpa using this);show(p.s k).data.data.size=0;rw[e];rfl
    omega
   ·rcases hf.2 with h2 | h2
    ·omega
    ·have h3:(p.s k).data.size=0:=by
      have:=h2.2.1;rw[Go.ByteArray.toList_eq]at this;have e:(p.s k).data.data=#[]:=(by simpa using this);show(p.s k).data.data.size=0;rw[e];rfl
     omega
  show zBt p.s k+zDI (p.s k)<=_;omega
theorem zE8{p:zF}(h:zf p):yI p<=10000:=by
 have h1:=zKK h.2.1 p.n (Nat.le_refl _);have h2:=((zFi p).2 h).2.1;have h3:=h.1;unfold yI;omega
set_option linter.unusedSimpArgs false
set_option maxRecDepth 20000
set_option maxHeartbeats 1600000
def zYQ(x:Int):Nat->Tr:=fun _=>.v (.int .i64 x)
abbrev inL(l:List Int):Nat->Nat->Tr:=zEv zYQ 0 l
theorem yL{fl:Fl}{k n:Nat}{l:List Int}:(Tr.s fl k n (zEv zYQ 0 l)).lend = .s .b k n (qf fun i=>l[i]?.getD 0):=rfl
theorem za{fl:Fl}{k n:Nat}{l:List (Int×Int)}:(Tr.s fl k n (zEv encP (0,0) l)).lend = .s .b k n (ptrsT (fun i=>(l[i]?.getD (0,0)).1) (fun i=>(l[i]?.getD (0,0)).2)):=by
 rw[show zEv encP (0,0) l=_ from zae l];exact zb
theorem zA7{l:List Int}{i c:Nat}:zEv zYQ 0 l i c = .v (.int .i64 (l[i]?.getD 0)):=rfl
theorem zTN{l:List Int}{x:Int}:Has l.length (fun i=>l[i]?.getD 0) x↔x∈l:=by
 rw[List.mem_iff_getElem?];constructor
 ·rintro⟨i,hi,rfl⟩;exact⟨i,by simp[hi]⟩
 ·rintro⟨i,hi⟩;have:=(List.getElem?_eq_some_iff.1 hi).1;exact⟨i,this,by simp[hi]⟩
theorem zYR{x:Int}:∀j,j<1->([Tr.v (Value.int .i64 x)][j]?.getD (.v (.bool false))).nt=zYQ x j
 | 0,_=>rfl
theorem zI5{fl:Fl}{l m:List Int}{x:Int}(h:l ++ [x]=m):TrE (.s fl 1 (l.length+1) (yH (inL l) l.length (fun p q=>([Tr.v (Value.int .i64 x)][p+q]?.getD (.v (.bool false))).nt))) (.s fl 1 m.length (inL m)):=by
 have:=zC4 (fl:=fl) (k:=1) (d:=(0:Int)) zYR h;simpa only[Nat.mul_one]using this
theorem zGB{f g:Nat->Int}:∀{k:Nat},0<(kidsUp f g k).length↔∃i,i<k/\¬Nil (f i) (g i)
 | 0=>by simp[kidsUp]
 | k+1=>by
  rw[kidsUp,List.length_append];by_cases h:Nil (f k) (g k)
  ·rw[one,if_pos h,List.length_nil,Nat.add_zero,zGB];exact⟨fun ⟨i,h1,h2⟩=>⟨i,by omega,h2⟩,fun ⟨i,h1,h2⟩=>⟨i,by rcases Nat.lt_succ_iff_lt_or_eq.1 h1 with h3 | rfl;exact h3;exact absurd h h2,h2⟩⟩
  ·rw[one,if_neg h];exact⟨fun _=>⟨k,by omega,h⟩,fun _=>by simp⟩
theorem zNt{f g:Nat->Int}{k:Nat}(h:¬Nil (f k) (g k)):(kidsUp f g (k+1)).length=(kidsUp f g k).length+1:=by simp[kidsUp,one,h]
theorem zNu{f g:Nat->Int}{k:Nat}(h:Nil (f k) (g k)):(kidsUp f g (k+1)).length=(kidsUp f g k).length:=by simp[kidsUp,one,h]
theorem zEl{p:zF}(h:zf p):p.hn<=10000:=by
 have:=zE8 h;unfold yI at this;omega
attribute [local go_sem] qX List.map_cons List.map_nil Tr.cv yq qK yA qz yp yo yn qy zBE zBG zBF zBB zBD zBC zCa zCc zCb qP zr qQ zt qI qH qU zAA zo zp yE qO tmpsOf zAo yD qN zBA yw yu yr yx yv stpP opds opd opdC kap zAB qJ zn coreU bin zAe zCK get put dlO fgt zBR zBK zBO zBP tyT yk yj Op.operands Call.operands evLoad evLen evStore evAlloc zAj and_true true_and List.append_nil List.nil_append List.cons_append Ret resCv zB3 yV cellM zBh zCE qV StW StR hpT hpO hpV hpA hpL hpC sg nin zCU bdO tmW obW AvE CsE CvE Av.tup Av.ids Cv.ids inD ObE Ob.ids TrE.refl qM yB yC qR qS qT zq zb zX yz zBa zCL zBH evCall argL argOf qZ outOb obO yM qA cvO tot Tr.own rid partsOf fillC zS zBf frz frz1 evBuildSlice zc trs Cv.tr evSlice Option.toArray_none Option.toArray_some evMakeSlice evAppend dstOf srcOf zA3 zBQ zBN zBL zBM ikT qx qw qv qu RetP RetN zBr qD evLd evSt evStoreH zAh evAppendM evAppendT tlOf mvOf rowE shp evTake oOf evC evCallP evCallN evCallO unlast zAO zA1 zAa argsF zCR qg pmC varT vT evField evConv dB0 Option.bind_some Option.bind_none Option.map_some Option.map_none Option.isSome_some Option.isSome_none
attribute [local go_sem] yL za zA7
noncomputable def mTR:zR:=qE (fun q:zF×Int×Int=>[poT q.1.n q.1.s q.1.hn q.1.h,pT q.2.1 q.2.2]) (fun q=>zf q.1) (fun q=>bR (zW q.1 q.2.1 q.2.2))
theorem zSe(p:zF)(a b:Int):mTR [poT p.n p.s p.hn p.h,pT a b]=some (zf p,bR (zW p a b)):=zK (fun l=>(zEi (nth l 0 0) (nth l 0 1),qC (nth l 1 0),qC (nth l 1 1))) (fun _=>rfl) (p,a,b)
theorem zJ8:zd Tryz.prog 38 mTR:=by
 refine zP zl (GOk.cons zDA (zG Tryz.func25 rfl rfl) (GOk.cons zSS (zG Tryz.func76 rfl rfl) (GOk.cons zST (zG Tryz.func77 rfl rfl) (GOk.cons zFX (zG Tryz.func42 rfl rfl) GOk.nil)))) zk Tryz.func38 rfl Tryz.ntmps38 Tryz.results38 12 ?_;rintro⟨p,a,b⟩ hR;replace hR:zf p:=hR;have hn:p.n<=200:=hR.1;have hm:=zEl hR;refine⟨by simp,?_⟩;simp[go_sem,zCM,zQo];refine⟨fun h1 h2=>.inl ⟨h1,h2⟩,fun h=>⟨⟨by omega,by omega⟩,fun h1 h2=>?_,fun kA=>⟨⟨kA.1.2.1,kA.1.2.2.1⟩,?_⟩⟩⟩
 ·exact h1 ((h2.resolve_left fun e=>h e.1 e.2).1)
 have hN:¬Nil a b:=fun e=>h e.1 e.2
 obtain⟨s,hs⟩:∃s,p.s a.toNat=s:=⟨_,rfl⟩;have h8:=zKn hR kA;rw[hs]at h8;have hT:zW p a b↔zZQ p s/\(zDa p a s 8).Nodup:=by
  unfold zW;rw[hs,zIJ hN,hs];exact⟨fun h=>(h.resolve_left hN).2,fun h=>.inr ⟨kA,h⟩⟩
 have kS:∀{i},i<8->zy s i=s.ks i:=fun hi=>zE3 h8 hi
 have kB:∀{i},i<8->qm s i=s.kb i:=fun hi=>zE2 h8 hi
 obtain⟨F,hF⟩:∃F:Nat->List Int,∀k,F k=zDa p a s k:=⟨_,fun _=>rfl⟩;obtain⟨C,hC⟩:∃C:Nat->Nat,∀k,C k=(kidsUp (zy s) (qm s) k).length:=⟨_,fun _=>rfl⟩;have sA:∀k,C k<=k:=fun k=>by rw[hC];exact zCj ..
 have vA:∀k,k<=8->(F k).length<=73:=fun k hk=>by rw[hF];exact zRH p a s hk
 refine qY (fun k:Nat=>⟨[(5,true,.m false [.h 7]),(2,true,.m false [.p 2 0]),(6,true,.i (C k)),(7,true,.m false [.s .b 2 s.kn (ptrsT s.ks s.kb)]),(8,true,.i k)],[(2,.var [.s .b 3 p.n (zY .b p.s),.s .b 1 p.hn (qf p.h)]),(7,.row 1 (F k).length (inL (F k)))]⟩) (fun k=>8 - k) (fun k=>k<=8/\(∀i,i<k->zPl p s i)/\(F k).Nodup) 0 ?_ ?_ ?_
 ·simp[go_sem,hs,hC,kidsUp,hF,zDa,zCY,zCV];exact zDv fun i j hi hj=>by cases (show i=0 by omega);cases (show j=0 by omega);rfl
 ·simp[hF,zDa,zCY,zCV]
 rintro k ⟨hk,dA,nA⟩;have eB:=vA k hk;simp[go_sem,hs,h8,ze (show k<=1000000000 by omega),ze (show C k<=1000000000 by have:=sA k;omega),zCM,zQo,zHU,zTN];refine⟨fun hl=>⟨hl,fun g1 g2=>⟨k+1,?_⟩,fun g=>⟨hl,⟨by omega,by omega⟩,?_⟩⟩,fun hl=>?_⟩
 ·replace hl:k<8:=(by omega);have bA:Nil (zy s k) (qm s k):=(by rw[kS hl,kB hl];exact⟨g1,g2⟩);have e1:F (k+1)=F k:=(by rw[hF,hF];exact zVI bA);have e2:C (k+1)=C k:=(by rw[hC,hC];exact zNu bA);rw[e1,e2];exact⟨⟨by omega,qi hl dA (.inl bA),nA⟩,by omega,⟨rfl,rfl⟩,TrE.refl _⟩
 ·replace hl:k<8:=(by omega);have bA:¬Nil (zy s k) (qm s k):=(by rw[kS hl,kB hl];exact fun e=>g e.1 e.2);have iA:zW p a b->∀i,i<=8->(zG6 p a s k i).Nodup:=fun h i hi=>by
   have h2:=(hT.1 h).2;rw[<-hs,<-zIJ hN]at h2;rw[<-hs]at bA ⊢;exact zU2 hN h2 hl hi bA
  refine⟨fun _=>by omega,fun _=>by omega,by kernel_rfl,fun h1 h2=>?_,fun lA cB=>⟨by omega,by omega,by omega,⟨lA.1.2.1,lA.1.2.2.1⟩,by kernel_rfl,?_⟩⟩
  ·rcases h1 with h1 | h1
   ·have h3:=((hT.1 h2).1.1 k hl).resolve_left bA;rw[kS hl,kB hl]at h3;exact h1 h3.1
   ·have h3:=iA h2 0 (by omega);rw[zN9,zGR,kS hl,<-hF]at h3;exact h3.2 h1
  obtain⟨t,ht⟩:∃t,p.s (s.ks k).toNat=t:=⟨_,rfl⟩;have t8:=zKn hR lA;rw[ht]at t8;have jA:∀{i},i<8->zy t i=t.ks i:=fun hi=>zE3 t8 hi
  have mA:∀{i},i<8->qm t i=t.kb i:=fun hi=>zE2 t8 hi
  have fA:zPl p s k↔zZK p t:=by
   unfold zPl;rw[kS hl,kB hl,ht];rw[kS hl,kB hl]at bA;exact⟨fun h=>(h.resolve_left bA).2,fun h=>.inr ⟨lA,h⟩⟩
  obtain⟨G,hG⟩:∃G:Nat->List Int,∀i,G i=zG6 p a s k i:=⟨_,fun _=>rfl⟩;obtain⟨D,hD⟩:∃D:Nat->Nat,∀i,D i=(kidsUp (zy t) (qm t) i).length:=⟨_,fun _=>rfl⟩;have tA:∀i,D i<=i:=fun i=>by rw[hD];exact zCj ..
  have aB:∀i,i<=8->(G i).length<=90:=fun i hi=>by rw[hG];exact zYs p a s hk hi
  have rA:G 0=F k ++ [s.ks k]:=(by rw[hG,zN9,<-hF,kS hl]);refine qY (fun i:Nat=>⟨[(5,true,.m false [.h 7]),(2,true,.m false [.p 2 0]),(6,true,.i (C k+1:Nat)),(7,true,.m false [.s .b 2 s.kn (ptrsT s.ks s.kb)]),(8,true,.i k),(9,true,.i (D i)),(10,true,.m false [.s .b 2 t.kn (ptrsT t.ks t.kb)]),(11,true,.i i)],[(2,.var [.s .b 3 p.n (zY .b p.s),.s .b 1 p.hn (qf p.h)]),(7,.row 1 (G i).length (inL (G i)))]⟩) (fun i=>8 - i) (fun i=>i<=8/\(∀q,q<i->Nil (zy t q) (qm t q)\/zK2 p (zy t q) (qm t q))/\(G i).Nodup) 0 ?_ ?_ ?_
  ·simp[go_sem,ht,h8,hD,kidsUp];exact zI5 rA.symm
  ·simp;rw[rA,zGR];exact⟨nA,cB⟩
  rintro i ⟨hi,cA,gA⟩;have fB:=aB i hi;simp[go_sem,hs,h8,ht,t8,ze (show i<=1000000000 by omega),ze (show k<=1000000000 by omega),ze (show D i<=1000000000 by have:=tA i;omega),zCM,zWo,zHU,zTN];refine⟨fun aA=>⟨aA,fun g1 g2=>⟨i+1,?_⟩,fun g'=>⟨aA,⟨by omega,by omega⟩,?_⟩⟩,fun aA=>?_⟩
  ·replace aA:i<8:=(by omega);have eA:Nil (zy t i) (qm t i):=(by rw[jA aA,mA aA];exact⟨g1,g2⟩);have e1:G (i+1)=G i:=by
    rw[hG,hG];refine zXG ?_;rw[kS hl,ht];exact eA
   have e2:D (i+1)=D i:=(by rw[hD,hD];exact zNu eA);rw[e1,e2];exact⟨⟨by omega,qi aA cA (.inl eA),gA⟩,by omega,⟨rfl,rfl⟩,TrE.refl _⟩
  ·replace aA:i<8:=(by omega);have eA:¬Nil (zy t i) (qm t i):=(by rw[jA aA,mA aA];exact fun e=>g' e.1 e.2);have e1:G (i+1)=G i ++ [t.ks i]:=by
    rw[hG,hG,zXF (by rw[kS hl,ht];exact eA),kS hl,ht,jA aA]
   have e2:D (i+1)=D i+1:=(by rw[hD,hD];exact zNt eA);refine⟨fun _=>by omega,fun _=>by omega,by kernel_rfl,fun h1 h2=>?_,fun bB oA=>⟨by omega,by omega,i+1,⟨by omega,qi aA cA (.inr ?_),?_⟩,by omega,⟨by rw[e2];rfl,rfl⟩,zI5 e1.symm⟩⟩
   ·rcases h1 with h1 | h1
    ·have h3:=((fA.1 ((hT.1 h2).1.1 k hl)).1 i aA).resolve_left eA;rw[jA aA,mA aA]at h3;exact h1 h3
    ·have h3:=iA h2 (i+1) (by omega);rw[<-hG,e1,zGR]at h3;exact h3.2 h1
   ·rw[jA aA,mA aA];exact bB
   ·rw[e1,zGR];exact⟨gA,oA⟩
  ·cases (show i=8 by omega);have pA:(∃i,i<8/\¬Nil (zy t i) (qm t i))↔0<D 8:=(by rw[hD,zGB]);have e1:F (k+1)=G 8:=(by rw[hF,hG];exact zOK bA);have e2:C (k+1)=C k+1:=(by rw[hC,hC];exact zNt bA);refine⟨fun h1 h2=>?_,fun h1=>⟨k+1,⟨by omega,qi hl dA (fA.2 ⟨cA,pA.2 (by omega)⟩),by rw[e1];exact gA⟩,by omega,⟨by rw[e2];rfl,rfl⟩,by rw[e1];exact TrE.refl _⟩⟩;have:=pA.1 (fA.1 ((hT.1 h2).1.1 k hl)).2;omega
 ·cases (show k=8 by omega);rw[hT,<-hF,hC,zGB];exact⟨fun h=>⟨⟨dA,h⟩,nA⟩,fun h=>h.1.2⟩
noncomputable def zbH:zR:=qE (fun q:zF×Int×Int=>[poT q.1.n q.1.s q.1.hn q.1.h,pT q.2.1 q.2.2]) (fun q=>q.1.n<=1000000/\q.1.hn<=1000000) (fun q=>bR (zAm q.1 q.2.1 q.2.2))
theorem zIv(p:zF)(a b:Int):zbH [poT p.n p.s p.hn p.h,pT a b]=some (p.n<=1000000/\p.hn<=1000000,bR (zAm p a b)):=zK (fun l=>(zEi (nth l 0 0) (nth l 0 1),qC (nth l 1 0),qC (nth l 1 1))) (fun _=>rfl) (p,a,b)
theorem zFv:zd Tryz.prog 56 zbH:=by
 refine zP zl (GOk.cons zEM (zG Tryz.func35 rfl rfl) (GOk.cons zJ8 (zG Tryz.func38 rfl rfl) GOk.nil)) zk Tryz.func56 rfl Tryz.ntmps56 Tryz.results56 5 ?_;rintro⟨p,a,b⟩ ⟨hn,hm⟩;replace hn:p.n<=1000000:=hn;replace hm:p.hn<=1000000:=hm;refine⟨by simp,?_⟩;simp[go_sem,zHV,zSe,hn,hm,zAm]
structure zK1 where
 pool:zF
 ps:Int
 pb:Int
 code:Int
def zGv(p:zF)(xs:Int):zF:={n:=p.n,s:=p.s,hn:=p.hn+1,h:=fun i=>if i=p.hn then xs else p.h i}
def zBi(p:zF)(i:Nat)(s:zN):zF:={n:=p.n,s:=fun j=>if j=i then s else p.s j,hn:=p.hn,h:=p.h}
def zBU(n:Nat)(f:Nat->zN)(i:Nat):Prop:=i<n/\yZ (f i)/\∀j,j<i->¬yZ (f j)
theorem zBU.uniq{n:Nat}{f:Nat->zN}{i j:Nat}(h:zBU n f i)(h':zBU n f j):i=j:=by
 rcases Nat.lt_trichotomy i j with e | e | e
 ·exact absurd h.2.1 (h'.2.2 i e)
 ·exact e
 ·exact absurd h'.2.1 (h.2.2 j e)
open Classical in
noncomputable def zCZ(p:zF)(s:zN):zK1:=
 if zf p/\¬yZ s/\zDL p s then(if h:∃i,zBU p.n p.s i then⟨zBi p (Classical.choose h) s,((Classical.choose h:Nat):Int),s.birth,0⟩else⟨zG8 0,0,0,6⟩)else⟨zG8 0,0,0,1⟩
theorem zFp{p:zF}{s:zN}(h:zf p/\¬yZ s/\zDL p s)(h':∀j,j<p.n->¬yZ (p.s j)):zCZ p s=⟨zG8 0,0,0,6⟩:=by
 unfold zCZ;rw[if_pos h,dif_neg (fun ⟨i,hi⟩=>h' i hi.1 hi.2.1)]
theorem zI9{p:zF}{s:zN}{i:Nat}(h:zf p/\¬yZ s/\zDL p s)(h':zBU p.n p.s i):zCZ p s=⟨zBi p i s,(i:Int),s.birth,0⟩:=by
 unfold zCZ;have hx:∃i,zBU p.n p.s i:=⟨i,h'⟩;rw[if_pos h,dif_pos hx];have e:Classical.choose hx=i:=(Classical.choose_spec hx).uniq h';rw[e]
theorem zMd(f:Nat->zN)(i:Nat)(s:zN):∀n,zBt (fun j=>if j=i then s else f j) n<=zBt f n+(if i<n then zDI s else 0)
 | 0=>Nat.zero_le _
 | n+1=>by
  have ih:=zMd f i s n;show zBt (fun j=>if j=i then s else f j) n+zDI (if n=i then s else f n)<=zBt f n+zDI (f n)+_;by_cases e:n=i
  ·rw[if_pos e,if_pos (by omega)];rw[if_neg (by omega)]at ih;omega
  ·rw[if_neg e];by_cases e2:i<n
   ·rw[if_pos e2]at ih;rw[if_pos (by omega)];omega
   ·rw[if_neg e2]at ih;rw[if_neg (by omega)];omega
theorem zVK(p:zF)(i:Nat)(s:zN):yI (zBi p i s)<=yI p+zDI s:=by
 have h:=zMd p.s i s p.n;have h2:(if i<p.n then zDI s else 0)<=zDI s:=by split<;>omega
 show p.n+zBt (fun j=>if j=i then s else p.s j) p.n+p.hn<=p.n+zBt p.s p.n+p.hn+zDI s;omega
def zEC(f g:Nat->Int):Prop:=∀i,i<8->Nil (f i) (g i)
def zBm(f g:Nat->Int)(b:Int):zN:={birth:=b,kn:=8,ks:=f,kb:=g,data:=⟨#[]⟩}
open Classical in
noncomputable def zTq(p:zF)(f g:Nat->Int)(b:Int):zK1:=if zEC f g then⟨p,0,0,0⟩else zCZ p (zBm f g b)
def hop(J:Nat->Act->World->Prop)(Q:Exit->Act->World->Prop):Exit->Act->World->Prop
 | .goto l,a,w=>J l a w
 | e,a,w=>Q e a w
def zHk(p:zF)(xs xb:Int)(n L:Nat):Int:=if L=0 then xs else if L=1 then zDX p xs xb n else zCx p xs xb n
def zKZ(p:zF)(xs xb:Int)(n L:Nat):Int:=if L=0 then xb else if L=1 then zD7 p xs xb n else zCm p xs xb n
def plc(n L:Nat):Nat:=if L=0 then n / 8 else n % 8
def zYd(p:zF)(xs xb:Int)(n L j:Nat):Int:=if Nil (zHk p xs xb n L) (zKZ p xs xb n L)then 0 else zU (p.s (zHk p xs xb n L).toNat) j
theorem zIx(p:zF)(xs xb:Int)(n:Nat){L:Nat}(h:L<2):zHk p xs xb n (L+1)=zYd p xs xb n L (plc n L*2)/\zKZ p xs xb n (L+1)=zYd p xs xb n L (plc n L*2+1):=by
 rcases L with _ | _ | L
 ·exact⟨rfl,rfl⟩
 ·exact⟨rfl,rfl⟩
 ·omega
theorem zXX{n L:Nat}(h:n<64):plc n L<8:=by unfold plc;split<;>omega
theorem zYr{p:zF}{xs xb:Int}{n L:Nat}(h:Nil (zHk p xs xb n L) (zKZ p xs xb n L))(hL:L<2):Nil (zHk p xs xb n (L+1)) (zKZ p xs xb n (L+1)):=by
 rw[(zIx p xs xb n hL).1,(zIx p xs xb n hL).2];unfold zYd;rw[if_pos h,if_pos h];exact⟨rfl,rfl⟩
def zSl(p:zF)(xs xb:Int)(n k:Nat):List (Int×Int):=kidsUp (fun i=>zHk p xs xb n (2 - i)) (fun i=>zKZ p xs xb n (2 - i)) k
open Classical in
noncomputable def roomN(f:Nat->zN):Nat->Nat
 | 0=>0
 | k+1=>roomN f k+(if yZ (f k)then 1 else 0)
theorem zDs{f:Nat->zN}{k:Nat}(h:yZ (f k)):roomN f (k+1)=roomN f k+1:=by simp[roomN,h]
theorem zEA{f:Nat->zN}{k:Nat}(h:¬yZ (f k)):roomN f (k+1)=roomN f k:=by simp[roomN,h]
theorem zI4(f:Nat->zN):∀k,roomN f k<=k
 | 0=>Nat.le_refl _
 | k+1=>by
  have:=zI4 f k;by_cases h:yZ (f k)
  ·rw[zDs h];omega
  ·rw[zEA h];omega
open Classical in
noncomputable def zGZ(p:zF):Int:=if zf p then(roomN p.s p.n:Int)else 0
theorem zMZ(p:zF)(i:Nat)(s:zN):(zBi p i s).s i=s:=if_pos rfl
theorem zHc(p:zF){i j:Nat}(s:zN)(h:j≠i):(zBi p i s).s j=p.s j:=if_neg h
theorem zEo{p:zF}{i:Nat}{s:zN}{xs xb:Int}(hi:yZ (p.s i))(h:yF p xs xb):yF (zBi p i s) xs xb:=by
 obtain⟨h1,h2,h3,h4⟩:=h;refine⟨h1,h2,h3,?_⟩;have aA:xs.toNat≠i:=fun e=>by
  rw[e]at h4;have:=hi.1;omega
 rw[zHc p s aA];exact h4
theorem zQO{p:zF}{i:Nat}{s t:zN}(hi:yZ (p.s i))(h:zDL p t):zDL (zBi p i s) t:=by
 refine⟨h.1,?_⟩;rcases h.2 with h2 | h2
 ·exact Or.inl h2
 ·refine Or.inr ⟨h2.1,h2.2.1,fun m hm=>?_⟩;rcases h2.2.2 m hm with h3 | h3
  ·exact Or.inl h3
  ·exact Or.inr ⟨zEo hi h3.1,h3.2⟩
theorem zJj{p:zF}{i:Nat}{s:zN}(hR:zf p)(hi:zBU p.n p.s i)(hs:zDL p s):zf (zBi p i s):=by
 refine⟨hR.1,fun j hj=>?_,fun j hj=>?_⟩
 ·by_cases e:j=i
  ·rw[e,zMZ];exact Or.inr (zQO hi.2.1 hs)
  ·rw[zHc p s e];rcases hR.2.1 j hj with h | h
   ·exact Or.inl h
   ·exact Or.inr (zQO hi.2.1 h)
 ·obtain⟨h1,h2,h3,h4⟩:=hR.2.2 j hj;refine⟨h1,h2,?_,h4⟩;have aA:(p.h j).toNat≠i:=fun e=>h3 (by rw[e];exact hi.2.1)
  show ¬yZ ((zBi p i s).s (p.h j).toNat);rw[zHc p s aA];exact h3
theorem zAX{p:zF}{s:zN}(h:zDL p s):¬yZ s:=fun hf=>by
 have:=hf.1;have:=h.1.1;omega
theorem zRB{p:zF}{i:Nat}{s:zN}(hi:yZ (p.s i))(hs:¬yZ s):∀n,roomN (zBi p i s).s n+(if i<n then 1 else 0)=roomN p.s n
 | 0=>rfl
 | n+1=>by
  have ih:=zRB hi hs n;by_cases e:n=i
  ·subst e;rw[if_pos (by omega)];rw[if_neg (by omega)]at ih;rw[zEA (by rw[zMZ];exact hs),zDs hi];omega
  ·have aA:(zBi p i s).s n=p.s n:=zHc p s e;have bA:(if i<n+1 then 1 else 0)=(if i<n then 1 else 0):=by
    by_cases e2:i<n
    ·rw[if_pos e2,if_pos (by omega)]
    ·rw[if_neg e2,if_neg (by omega)]
   rw[bA];by_cases hf:yZ (p.s n)
   ·rw[zDs (by rw[aA];exact hf),zDs hf];omega
   ·rw[zEA (by rw[aA];exact hf),zEA hf];exact ih
def zAb(w:World)(b:Nat)(v0 v1 v2 v3 v4 v5:Value):Prop:=yT w b 0 v0/\yT w b 1 v1/\yT w b 2 v2/\yT w b 3 v3/\yT w b 4 v4/\yT w b 5 v5
theorem zAb.c{w:World}{b:Nat}{v0 v1 v2 v3 v4 v5:Value}(h:zAb w b v0 v1 v2 v3 v4 v5):w.cell? ⟨b,0,none⟩=some v0/\w.cell? ⟨b,1,none⟩=some v1/\w.cell? ⟨b,2,none⟩=some v2/\w.cell? ⟨b,3,none⟩=some v3/\w.cell? ⟨b,4,none⟩=some v4/\w.cell? ⟨b,5,none⟩=some v5:=
 ⟨h.1.1,h.2.1.1,h.2.2.1.1,h.2.2.2.1.1,h.2.2.2.2.1.1,h.2.2.2.2.2.1⟩
theorem zAb.zbd{w w':World}{b:Nat}{v0 v1 v2 v3 v4 v5:Value}(h:zAb w b v0 v1 v2 v3 v4 v5)(t:Below w.heap.size w w'):zAb w' b v0 v1 v2 v3 v4 v5:=⟨h.1.zbd t,h.2.1.zbd t,h.2.2.1.zbd t,h.2.2.2.1.zbd t,h.2.2.2.2.1.zbd t,h.2.2.2.2.2.zbd t⟩
theorem zAb.turned{S:Nat->Prop}{w w':World}{b:Nat}{v0 v1 v2 v3 v4 v5:Value}(h:zAb w b v0 v1 v2 v3 v4 v5)(t:yh S w w')(hs:¬S b):zAb w' b v0 v1 v2 v3 v4 v5:=⟨h.1.turned t hs,h.2.1.turned t hs,h.2.2.1.turned t hs,h.2.2.2.1.turned t hs,h.2.2.2.2.1.turned t hs,h.2.2.2.2.2.turned t hs⟩
theorem zAb.new(w:World)(v0 v1 v2 v3 v4 v5:Value)(t:TypeId):zAb (w.alloc (.cells #[v0,v1,v2,v3,v4,v5] t)) w.heap.size v0 v1 v2 v3 v4 v5:=by
 have hb:(w.alloc (.cells #[v0,v1,v2,v3,v4,v5] t)).heap[w.heap.size]?=some (.cells #[v0,v1,v2,v3,v4,v5] t):=heap_alloc_new _ _;exact⟨zL hb rfl,zL hb rfl,zL hb rfl,zL hb rfl,zL hb rfl,zL hb rfl⟩
def zBb(p:zF)(xs xb:Int)(n L:Nat)(x:Int)(i:Nat):Int:=if i=plc n L then x else zDF p (zHk p xs xb n L) (zKZ p xs xb n L) i
def zBX(p:zF)(xs xb:Int)(n L:Nat)(y:Int)(i:Nat):Int:=if i=plc n L then y else zDE p (zHk p xs xb n L) (zKZ p xs xb n L) i
noncomputable def zQ3(p:zF)(xs xb:Int)(n:Nat)(b:Int)(o:zK1)(L:Nat):zK1:=zTq o.pool (zBb p xs xb n L o.ps) (zBX p xs xb n L o.pb) b
noncomputable def zCT(p:zF)(xs xb:Int)(n:Nat)(b:Int)(o:zK1):Nat->zK1
 | 0=>o
 | k+1=>zQ3 p xs xb n b (zCT p xs xb n b o k) (1 - k)
theorem zMD:yI (zG8 0)=0:=rfl
theorem zMh(p:zF)(s:zN):yI (zCZ p s).pool<=yI p+zDI s:=by
 unfold zCZ;split
 ·split
  ·exact zVK _ _ _
  ·show yI (zG8 0)<=_;rw[zMD];omega
 ·show yI (zG8 0)<=_;rw[zMD];omega
theorem zSj(p:zF)(f g:Nat->Int)(b:Int):yI (zTq p f g b).pool<=yI p+8:=by
 unfold zTq;split
 ·show yI p<=_;omega
 ·exact zMh p (zBm f g b)
theorem zNz(p:zF)(xs xb:Int)(n:Nat)(b:Int)(o:zK1):∀k,yI (zCT p xs xb n b o k).pool<=yI o.pool+8*k
 | 0=>Nat.le_refl _
 | k+1=>by
  have h1:=zNz p xs xb n b o k;have h2:=zSj (zCT p xs xb n b o k).pool (zBb p xs xb n (1 - k) (zCT p xs xb n b o k).ps) (zBX p xs xb n (1 - k) (zCT p xs xb n b o k).pb) b;show yI (zTq _ _ _ _).pool<=_;omega
structure zD4 where
 pool:zF
 rs:Int
 rb:Int
 old:List (Int×Int)
 code:Int
def zBV(c:Int):zD4:=⟨zG8 0,0,0,[],c⟩
open Classical in
noncomputable def zHj(p:zF)(xs xb:Int)(n:Nat)(b:Int)(o:zK1):zD4:=
 if (zCT p xs xb n b o 1).code≠0 then zBV (zCT p xs xb n b o 1).code
 else if (zCT p xs xb n b o 2).code≠0 then zBV (zCT p xs xb n b o 2).code
 else⟨(zCT p xs xb n b o 2).pool,(zCT p xs xb n b o 2).ps,(zCT p xs xb n b o 2).pb,zSl p xs xb n 3,0⟩
theorem zKk{p:zF}{xs xb:Int}{n:Nat}{b:Int}{o:zK1}{k:Nat}(hk:k<2)(h:∀j,j<=k->(zCT p xs xb n b o j).code=0)(hc:(zCT p xs xb n b o (k+1)).code≠0):zHj p xs xb n b o=zBV (zCT p xs xb n b o (k+1)).code:=by
 unfold zHj;rcases k with _ | _ | k
 ·rw[if_pos hc]
 ·rw[if_neg (fun hh=>hh (h 1 (by omega))),if_pos hc]
 ·omega
theorem zLy{p:zF}{xs xb:Int}{n:Nat}{b:Int}{o:zK1}(h:∀j,j<=2->(zCT p xs xb n b o j).code=0):zHj p xs xb n b o=⟨(zCT p xs xb n b o 2).pool,(zCT p xs xb n b o 2).ps,(zCT p xs xb n b o 2).pb,zSl p xs xb n 3,0⟩:=by
 unfold zHj;rw[if_neg (fun hh=>hh (h 1 (by omega))),if_neg (fun hh=>hh (h 2 (by omega)))]
def zEb(n:Int):Prop:=0<=n/\n<=63
open Classical in
noncomputable def zGc(p:zF)(xs xb page b:Int):zD4:=
 if zAm p xs xb/\zAr xb b then(if zEb page then(if Nil (zCx p xs xb page.toNat) (zCm p xs xb page.toNat)then zBV 4 else zHj p xs xb page.toNat b ⟨p,0,0,0⟩)else zBV 8)else zBV 1
theorem zOR{p:zF}{xs xb aA b:Int}(h:¬(zAm p xs xb/\zAr xb b)):zGc p xs xb aA b=zBV 1:=if_neg h
theorem zSz{p:zF}{xs xb aA b:Int}(h:zAm p xs xb/\zAr xb b)(h2:¬zEb aA):zGc p xs xb aA b=zBV 8:=(if_pos h).trans (if_neg h2)
theorem zVY{p:zF}{xs xb aA b:Int}(h:zAm p xs xb/\zAr xb b)(h2:zEb aA)(h3:Nil (zCx p xs xb aA.toNat) (zCm p xs xb aA.toNat)):zGc p xs xb aA b=zBV 4:=((if_pos h).trans (if_pos h2)).trans (if_pos h3)
theorem zRW{p:zF}{xs xb aA b:Int}(h:zAm p xs xb/\zAr xb b)(h2:zEb aA)(h3:¬Nil (zCx p xs xb aA.toNat) (zCm p xs xb aA.toNat)):zGc p xs xb aA b=zHj p xs xb aA.toNat b ⟨p,0,0,0⟩:=((if_pos h).trans (if_pos h2)).trans (if_neg h3)
def zAq(b:Int)(d:ByteArray):zN:={birth:=b,kn:=0,ks:=fun _=>0,kb:=fun _=>0,data:=d}
open Classical in
noncomputable def zC0(p:zF)(xs xb page:Int)(d:ByteArray)(b:Int):zD4:=
 if 8000<d.size then zBV 2 else if zAm p xs xb/\zAr xb b then(if zEb page/\d.size=16 then(if (zCZ p (zAq b d)).code=0 then zHj p xs xb page.toNat b ⟨(zCZ p (zAq b d)).pool,(zCZ p (zAq b d)).ps,(zCZ p (zAq b d)).pb,0⟩else zBV (zCZ p (zAq b d)).code)else zBV 8)else zBV 1
theorem zMo{p:zF}{xs xb aA b:Int}{d:ByteArray}(h:8000<d.size):zC0 p xs xb aA d b=zBV 2:=if_pos h
theorem zMn{p:zF}{xs xb aA b:Int}{d:ByteArray}(h0:¬8000<d.size)(h:¬(zAm p xs xb/\zAr xb b)):zC0 p xs xb aA d b=zBV 1:=(if_neg h0).trans (if_neg h)
theorem zKO{p:zF}{xs xb aA b:Int}{d:ByteArray}(h0:¬8000<d.size)(h:zAm p xs xb/\zAr xb b)(h2:¬(zEb aA/\d.size=16)):zC0 p xs xb aA d b=zBV 8:=((if_neg h0).trans (if_pos h)).trans (if_neg h2)
theorem zS2{p:zF}{xs xb aA b:Int}{d:ByteArray}(h0:¬8000<d.size)(h:zAm p xs xb/\zAr xb b)(h2:zEb aA/\d.size=16)(h3:(zCZ p (zAq b d)).code≠0):zC0 p xs xb aA d b=zBV (zCZ p (zAq b d)).code:=(((if_neg h0).trans (if_pos h)).trans (if_pos h2)).trans (if_neg h3)
theorem zVZ{p:zF}{xs xb aA b:Int}{d:ByteArray}(h0:¬8000<d.size)(h:zAm p xs xb/\zAr xb b)(h2:zEb aA/\d.size=16)(h3:(zCZ p (zAq b d)).code=0):zC0 p xs xb aA d b=zHj p xs xb aA.toNat b ⟨(zCZ p (zAq b d)).pool,(zCZ p (zAq b d)).ps,(zCZ p (zAq b d)).pb,0⟩:=(((if_neg h0).trans (if_pos h)).trans (if_pos h2)).trans (if_pos h3)
end Go.Proofs.YtginldeebkfbgaaGreat

/- A part of the proof. -/
import Derived.Test.YtgabgheflgjgiaaGreatDoorU47
import Derived.Test.YtgabgheflgjgiaaGreatDoorRows
import Derived.ChangeSame
import Derived.ChangeVars
import Derived.JoinedOf
import Derived.LaidLaws
import Derived.Stop.LaidTwo
import Derived.Stop.Joined
import Derived.Stop.ErrReads
import Derived.MakeChecks
import Derived.ChangeOld
set_option linter.unusedVariables false
set_option maxRecDepth 20000
set_option maxHeartbeats 4000000
namespace Go.Proofs.YtgabgheflgjgiaaGreatDoor
open Go.RowKit Go.Lib
theorem zEh{P:Program}{w w1:World}{bA:Array Oper}{zO8:List Oper}{o:Oper}{a:Act}{Q:Exit->Act->World->Prop}(cA:o.guard=none)(s x:Operand)(t u:TypeId)
  (ho:o.op = .call {callee:=.builtin .append,args:=#[s,x],argTypes:=#[t,u]}) (vs vx v':Value) (hs:a.eval s=vs) (hx:a.eval x=vx) (aA:(Builtin.append_ #[t,u] o.type #[vs,vx]).run P w = .ok v' w1)
  (h:wpList P bA Q zO8 (a.put o.dst v') w1):wpList P bA Q (o :: zO8) a w:=by
 refine wpList_plain cA fun K hK=>?_
 unfold Oper.wp;simp[execOp,ho,resolve,invoke,builtin,hs,hx,aA,Result.andThen];exact hK _ _ h
theorem zLE:Wee (zBF 100):=⟨by decide,by decide,by decide,fun i hi=>absurd hi (Nat.not_lt_zero _),fun i hi=>absurd hi (Nat.not_lt_zero _)⟩
theorem zJa{S:Nat->Prop}{w w':World}{base:Nat}{g n c:Nat}{l:List Int}(h:zCC w base (.slice (some ⟨g,0,none⟩) n c) l)(t:zE S w w')(hs:¬S g):zCC w' base (.slice (some ⟨g,0,none⟩) n c) l:=by
 refine⟨h.1,?_⟩;rcases h.2 with⟨e,_⟩ | ⟨g',cap,aA,hv,hb,hg,zO8⟩
 ·cases e
 ·have hl:g'<w.heap.size:=(Array.getElem?_eq_some_iff.1 hg).1;have e:g=g':=by
   simp only[Value.slice.injEq,Option.some.injEq,Addr.mk.injEq,and_true]at hv;exact hv.1
  exact .inr ⟨g',cap,aA,hv,hb,(t.block g' hl (e▸hs)).trans hg,zO8⟩
theorem zAS.more{w:World}{D:Nat}{P:Nat->Prop}(h:zAS w D P):zAS w D (fun q=>P q\/w.heap.size<=q):=by
 have hl:=h.lt;obtain⟨v0,v1,v2,v3,u0,u1,u2,u3,S,l1,h1,l2,h2,h⟩:=h;refine⟨v0,v1,v2,v3,u0,u1,u2,u3,S,l1,h1,l2,h2,h.box,h.zOx,h.zOz,h.hi1,h.hi2,h.d1,h.d2,fun k hk=>?_,h.w1,h.w2⟩;rcases hk with hk | hk
 ·exact h.out k hk
 ·have:=h.hi1;have:=h.hi2;exact⟨by omega,Or.inr (by omega),Or.inr (by omega)⟩
def zOD(s:ByteArray)(e:Ending):Prop:=∃(t:ByteArray) (ln c:Int),e = .returned (.agg #[.string t,.int .i64 ln,.int .i64 c])/\zDw s ln c
theorem zJF(s:ByteArray)(w:World)(lE:s.size<=1048576):Calls Tryz.prog 7 #[.string s] w fun e w'=>zOD s e/\Below w.heap.size w w':=by
 have ha:=zC w (.cells #[.string ⟨#[]⟩,.int .i64 0,.int .i64 0] 23);have hR:=qP.zOt w (.string ⟨#[]⟩) (.int .i64 0) (.int .i64 0) 23;by_cases eA:8000<s.size
 ·have bE:(8000:Int)<(s.size:Int):=(by omega);obtain⟨⟨x0,y0⟩,⟨x1,y1⟩,⟨x2,y2⟩⟩:=hR;go_enter Tryz.func7,Tryz.ntmps7;go_wp2;refine bodyPost_ret (v:=.agg #[.string ⟨#[]⟩,.int .i64 0,.int .i64 2]) (by simp[results,Tryz.results7,go_sem, *]) rfl ?_;exact⟨⟨_,_,_,rfl,Or.inl ⟨eA,rfl,rfl⟩⟩,zC _ _⟩
 have bE:¬(8000:Int)<(s.size:Int):=by omega
 go_enter Tryz.func7,Tryz.ntmps7;go_wp2_with fail;generalize w.alloc (.cells #[.string ⟨#[]⟩,.int .i64 0,.int .i64 0] 23)=W1 at ha hR ⊢;refine(zEz s 10 W1 (by omega)).mono ?_;rintro e w2 ⟨v,rfl,aA,sB⟩;have cD:=zGP 10 (bs s);have lA:=zFE 10 (bs s);have fA:=zGO 10 (bs s);rw[zCk]at lA fA;generalize hL:spl 10 (bs s)=L at aA cD lA fA;obtain⟨g,cap,rfl,hg,hT⟩:=aA.texts cD (by omega);have HT:=zG hT;have vB:=hT.2.2.2.1;have cE:=hT.2.1;have HB:=zG (zA ha sB);have HR:=zG (hR.zOp sB);have lB:=zG fA;have jC:=zG hL;have gD:=zD HR.out.1.1;clear hT aA hL sB ha hR fA;obtain⟨m,hm⟩:∃m,m=L.length:=⟨_,rfl⟩;rw[<-hm]at HT lA cE ⊢;have Hm:=zG hm;have kE:1<=m:=by omega
 clear hm;go_wp2_with fail;refine(zFf 100 w2).mono ?_;rintro e w3 ⟨v0,v1,u0,u1,rfl,ho,pA⟩;obtain⟨a0,c0,a1,c1,-,-,-,-,rfl,rfl,-,-⟩:=ho.at.zOx.form;obtain⟨e0,f0,e1,f1,-,-,-,-,rfl,rfl,-,-⟩:=ho.at.zOz.form;obtain⟨l1,h1,l2,h2,o1,o2,o3,o4,o5,o6,-⟩:=ho;have oA:=zC w3 (.cells #[.slice a0 (zn 100).zOx.zOv.n c0,.slice a1 (zn 100).zOx.zOv.hn c1,.int .i64 (zn 100).zOx.time,.int .i64 (zn 100).zOx.next,.slice none 0 0,.slice none 0 0,.slice e0 (zn 100).zOz.zOv.n f0,.slice e1 (zn 100).zOz.zOv.hn f1,.int .i64 (zn 100).zOz.time,.int .i64 (zn 100).zOz.next,.slice none 0 0,.slice none 0 0] 45);have iD:(w3.alloc (.cells #[.slice a0 (zn 100).zOx.zOv.n c0,.slice a1 (zn 100).zOx.zOv.hn c1,.int .i64 (zn 100).zOx.time,.int .i64 (zn 100).zOx.next,.slice none 0 0,.slice none 0 0,.slice e0 (zn 100).zOz.zOv.n f0,.slice e1 (zn 100).zOz.zOv.hn f1,.int .i64 (zn 100).zOz.time,.int .i64 (zn 100).zOz.next,.slice none 0 0,.slice none 0 0] 45)).heap.size=w3.heap.size+1:=World.size_alloc _ _;have rC:=zAm.zOt w3 (.slice a0 (zn 100).zOx.zOv.n c0) (.slice a1 (zn 100).zOx.zOv.hn c1) (.int .i64 (zn 100).zOx.time) (.int .i64 (zn 100).zOx.next) (.slice none 0 0) (.slice none 0 0) (.slice e0 (zn 100).zOz.zOv.n f0) (.slice e1 (zn 100).zOz.zOv.hn f1) (.int .i64 (zn 100).zOz.time) (.int .i64 (zn 100).zOz.next) (.slice none 0 0) (.slice none 0 0) 45;have tC:zAS (w3.alloc (.cells #[.slice a0 (zn 100).zOx.zOv.n c0,.slice a1 (zn 100).zOx.zOv.hn c1,.int .i64 (zn 100).zOx.time,.int .i64 (zn 100).zOx.next,.slice none 0 0,.slice none 0 0,.slice e0 (zn 100).zOz.zOv.n f0,.slice e1 (zn 100).zOz.zOv.hn f1,.int .i64 (zn 100).zOz.time,.int .i64 (zn 100).zOz.next,.slice none 0 0,.slice none 0 0] 45)) w3.heap.size (fun q=>w3.heap.size<q):=⟨_,_,_,_,_,_,_,_,zn 100,l1,h1,l2,h2,rC,o1.zOp oA,o2.zOp oA,by omega,by omega,Or.inr o4,Or.inr o6,fun k hk=>⟨by omega,Or.inr (by omega),Or.inr (by omega)⟩,zLE,zLE⟩;have sA:=zC (w3.alloc (.cells #[.slice a0 (zn 100).zOx.zOv.n c0,.slice a1 (zn 100).zOx.zOv.hn c1,.int .i64 (zn 100).zOx.time,.int .i64 (zn 100).zOx.next,.slice none 0 0,.slice none 0 0,.slice e0 (zn 100).zOz.zOv.n f0,.slice e1 (zn 100).zOz.zOv.hn f1,.int .i64 (zn 100).zOz.time,.int .i64 (zn 100).zOz.next,.slice none 0 0,.slice none 0 0] 45)) (.cells #[] 5);have gC:((w3.alloc (.cells #[.slice a0 (zn 100).zOx.zOv.n c0,.slice a1 (zn 100).zOx.zOv.hn c1,.int .i64 (zn 100).zOx.time,.int .i64 (zn 100).zOx.next,.slice none 0 0,.slice none 0 0,.slice e0 (zn 100).zOz.zOv.n f0,.slice e1 (zn 100).zOz.zOv.hn f1,.int .i64 (zn 100).zOz.time,.int .i64 (zn 100).zOz.next,.slice none 0 0,.slice none 0 0] 45)).alloc (.cells #[] 5)).heap.size=w3.heap.size+1+1:=by rw[World.size_alloc,World.size_alloc]
 have eD:zCC ((w3.alloc (.cells #[.slice a0 (zn 100).zOx.zOv.n c0,.slice a1 (zn 100).zOx.zOv.hn c1,.int .i64 (zn 100).zOx.time,.int .i64 (zn 100).zOx.next,.slice none 0 0,.slice none 0 0,.slice e0 (zn 100).zOz.zOv.n f0,.slice e1 (zn 100).zOz.zOv.hn f1,.int .i64 (zn 100).zOz.time,.int .i64 (zn 100).zOz.next,.slice none 0 0,.slice none 0 0] 45)).alloc (.cells #[] 5)) (w3.heap.size+1) (.slice (some ⟨w3.heap.size+1,0,none⟩) 0 0) []:=by
  have:=World.ownsRow_lit (e:=5) (size:=1) (w3.alloc (.cells #[.slice a0 (zn 100).zOx.zOv.n c0,.slice a1 (zn 100).zOx.zOv.hn c1,.int .i64 (zn 100).zOx.time,.int .i64 (zn 100).zOx.next,.slice none 0 0,.slice none 0 0,.slice e0 (zn 100).zOz.zOv.n f0,.slice e1 (zn 100).zOz.zOv.hn f1,.int .i64 (zn 100).zOz.time,.int .i64 (zn 100).zOz.next,.slice none 0 0,.slice none 0 0] 45)) #[] 0 (Nat.le_refl _) (by unfold maxLen;omega) rfl;rw[iD]at this;exact this
 go_wp2;have jB:=zG (((HR.out.zOp pA).zOp oA).zOp sA);have tA:g<w3.heap.size:=Nat.lt_of_lt_of_le vB pA.size;have kB:=zG (((HT.out.zOp pA vB).zOp oA tA).zOp sA (by omega));have iB:=zG (zA (zA (zA HB.out pA) oA) sA);have bB:=zG ((tC.zOp sA).less (Q:=fun q=>q=w3.heap.size+1) (fun k hk=>by show w3.heap.size<k;rw[hk];omega));have dB:=zG eD;have aE:w.heap.size<w3.heap.size:=Nat.lt_of_lt_of_le gD pA.size;generalize (w3.alloc (.cells #[.slice a0 (zn 100).zOx.zOv.n c0,.slice a1 (zn 100).zOx.zOv.hn c1,.int .i64 (zn 100).zOx.time,.int .i64 (zn 100).zOx.next,.slice none 0 0,.slice none 0 0,.slice e0 (zn 100).zOz.zOv.n f0,.slice e1 (zn 100).zOz.zOv.hn f1,.int .i64 (zn 100).zOz.time,.int .i64 (zn 100).zOz.next,.slice none 0 0,.slice none 0 0] 45)).alloc (.cells #[] 5)=W5 at jB kB iB bB dB gC ⊢;clear oA iD rC tC sA eD HR HT HB o1 o2 o3 o4 o5 o6 pA vB gD;generalize w3.heap.size=D at bB dB gC aE tA ⊢
 go_loopw [5,6] (fun vb i wr=>∃(k:Nat) (l:List Int) (gb cb:Nat),k<m/\i = .int .i64 k/\vb = .slice (some ⟨gb,0,none⟩) l.length cb/\l.length<=k*101/\k<=60/\D<gb/\gb<wr.heap.size/\qP wr w.heap.size (.string ⟨#[]⟩) (.int .i64 0) (.int .i64 0)/\zBB wr g m cap L/\Below w.heap.size w wr/\zAS wr D (fun q=>q=gb)/\zCC wr (D+1) (.slice (some ⟨gb,0,none⟩) l.length cb) l/\∀j,j<k->zBN L j) (fun _ i _=>m - (intOf i).toNat)
 case atStart=>exact⟨0,[],D+1,0,kE,rfl,rfl,Nat.le_refl _,Nat.zero_le _,by omega,by omega,jB.out,kB.out,iB.out,bB.out,dB.out,fun j hj=>absurd hj (Nat.not_lt_zero _)⟩
 case round=>
  clear jB kB iB bB dB gC;obtain⟨k,l,gb,cb,hk,rfl,rfl,jE,gE,nE,fE,r1,r2,r3,r4,r5,r6⟩:=hrel;have HR:=zG r1;have HT:=zG r2;have HB:=zG r3;have HD:=zG r4;have HU:=zG r5;have kA:=zG r6;obtain⟨nl,cC⟩:∃nl,nl=l.length:=⟨_,rfl⟩;rw[<-cC]at HU jE ⊢;have oC:=zG cC;clear r1 r2 r3 r4 r5 r6 cC;have pE:(k:Int)<(m:Int):=(by omega);have h0:(0:Int)<=(k:Int):=(by omega);have fB:k<L.length:=(by have:=Hm.out;omega);have t1:wr.cell? ⟨g,k,none⟩=some (.string ⟨L[k].toArray⟩):=HT.out.2.2.2.2 k fB;have aD:L.getD k []=L[k]:=zKx fB;have fD:(⟨L[k].toArray⟩:ByteArray).size<=100000:=by
   show L[k].toArray.size<=_;rw[List.size_toArray];have:=lB.out L[k] (List.getElem_mem fB);omega
  have gA:zBN L k↔(k+1<m->k<60/\zFI ⟨L[k].toArray⟩)/\(k+1=m->L[k] = []):=by
   unfold zBN;rw[aD,Hm.out]
  have Hg:=zG gA;have HF:=zG (show ¬zBN L k->zDS (spl 10 (bs s)) k 3 by rw[jC.out];exact fun h=>Or.inl ⟨k,fB,kA.out,h,rfl,rfl⟩);clear gA aD;by_cases iA:k+1=m
  ·have iE:((k:Int) == (m:Int) - 1)=true:=(by simp only[beq_iff_eq];omega);by_cases he:L[k] = []
   ·have dE:L[k].isEmpty=true:=(by rw[he];rfl);have mD:=zG (show zDS (spl 10 (bs s)) 0 0 by
     rw[jC.out];refine Or.inr ⟨fun j hj=>?_,rfl,rfl⟩;by_cases e:j=k
     ·rw[e];exact Hg.out.2 ⟨fun h=>by omega,fun _=>he⟩
     ·exact kA.out j (by have:=Hm.out;omega))
    clear he;have oE:=HU.out.conv;obtain⟨⟨x0,y0⟩,⟨x1,y1⟩,⟨x2,y2⟩⟩:=HR.out;go_wp2;refine bodyPost_ret (v:=.agg #[.string (strOfNums l),.int .i64 0,.int .i64 0]) (by simp[results,Tryz.results7,go_sem, *]) rfl ?_;exact⟨⟨_,_,_,rfl,Or.inr ⟨eA,mD.out⟩⟩,(((HB.out.setCell (Nat.le_refl _) _).setCell (Nat.le_refl _) _).setCell (Nat.le_refl _) _)⟩
   ·have dE:L[k].isEmpty=false:=(by rw[List.isEmpty_eq_false_iff];exact he);have cB:=zG (HF.out (fun h=>he ((Hg.out.1 h).2 iA)));clear he;go_wp2_with fail;refine(zFx ⟨L[k].toArray⟩ wr fD).mono ?_;rintro e w6 ⟨w0,n,vx,Ws,t,rfl,-,-,-,mE,aA,dA⟩;obtain⟨va,vc,rfl,-⟩:=aA.tx (by omega);have bA:=zC w6 (.cells #[.string w0,.int .i64 n,.slice va Ws.length vc] 48);have gB:=qP.zOt w6 (.string w0) (.int .i64 n) (.slice va Ws.length vc) 48;have mA:=zG ((HR.out.zOp dA).zOp bA);have jA:=zG (zA (zA HB.out dA) bA);clear gB bA;obtain⟨⟨x0,y0⟩,⟨x1,y1⟩,⟨x2,y2⟩⟩:=mA.out;go_wp2;refine bodyPost_ret (v:=.agg #[.string ⟨#[]⟩,.int .i64 k,.int .i64 3]) (by simp[results,Tryz.results7,go_sem, *]) rfl ?_;exact⟨⟨_,_,_,rfl,Or.inr ⟨eA,cB.out⟩⟩,(((jA.out.setCell (Nat.le_refl _) _).setCell (Nat.le_refl _) _).setCell (Nat.le_refl _) _)⟩
  ·have iE:((k:Int) == (m:Int) - 1)=false:=(by simp only[beq_eq_false_iff_ne,ne_eq];omega);go_wp2_with fail;refine(zFx ⟨L[k].toArray⟩ wr fD).mono ?_;rintro e w6 ⟨w0,n,vx,Ws,t,rfl,ht,eC,fC,mE,aA,dA⟩;rw[<-zH2]at ht;have Ht:=zG ht;obtain⟨va,vc,rfl,-⟩:=aA.tx (by omega);have bA:=zC w6 (.cells #[.string w0,.int .i64 n,.slice va Ws.length vc] 48);have gB:=qP.zOt w6 (.string w0) (.int .i64 n) (.slice va Ws.length vc) 48;have mA:=zG ((HR.out.zOp dA).zOp bA);have jA:=zG (zA (zA HB.out dA) bA);by_cases cA:¬(k<60/\t=true)
   ·have cB:=zG (HF.out (fun h=>cA ⟨((Hg.out.1 h).1 (by omega)).1,Ht.out.2 ((Hg.out.1 h).1 (by omega)).2⟩));clear gB bA ht eC fC;by_cases oB:k<60
    ·have rA:¬(60:Int)<=(k:Int):=(by omega);obtain rfl:t=false:=by
      cases t
      ·rfl
      ·exact absurd ⟨oB,rfl⟩ cA
     clear cA;obtain⟨⟨x0,y0⟩,⟨x1,y1⟩,⟨x2,y2⟩⟩:=mA.out;go_wp2;refine bodyPost_ret (v:=.agg #[.string ⟨#[]⟩,.int .i64 k,.int .i64 3]) (by simp[results,Tryz.results7,go_sem, *]) rfl ?_;exact⟨⟨_,_,_,rfl,Or.inr ⟨eA,cB.out⟩⟩,(((jA.out.setCell (Nat.le_refl _) _).setCell (Nat.le_refl _) _).setCell (Nat.le_refl _) _)⟩
    ·have rA:(60:Int)<=(k:Int):=(by omega);clear cA;obtain⟨⟨x0,y0⟩,⟨x1,y1⟩,⟨x2,y2⟩⟩:=mA.out;go_wp2;refine bodyPost_ret (v:=.agg #[.string ⟨#[]⟩,.int .i64 k,.int .i64 3]) (by simp[results,Tryz.results7,go_sem, *]) rfl ?_;exact⟨⟨_,_,_,rfl,Or.inr ⟨eA,cB.out⟩⟩,(((jA.out.setCell (Nat.le_refl _) _).setCell (Nat.le_refl _) _).setCell (Nat.le_refl _) _)⟩
   ·obtain⟨oB,rfl⟩:=Classical.not_not.1 cA;have rA:¬(60:Int)<=(k:Int):=(by omega);obtain⟨rfl,sC⟩:=eC rfl;have dD:zEQ (spl 32 (bs ⟨L[k].toArray⟩)):=(zH2 _).1 (ht.1 rfl);have mB:=zG (ht.1 rfl);have nC:=zG (aA.zOp bA);have kC:=zG ((HT.out.zOp dA HT.out.2.2.2.1).zOp bA (by have:=HT.out.2.2.2.1;have:=dA.size;omega));have iC:=zG ((HD.out.zOp dA).zOp bA);have lC:=zG ((HU.out.zOp dA).zOp bA);have jD:gb<(w6.alloc (.cells #[.string ⟨((spl 32 (bs ⟨L[k].toArray⟩)).getD 0 []).toArray⟩,.int .i64 n,.slice va Ws.length vc] 48)).heap.size:=Nat.lt_of_lt_of_le fE (Nat.le_trans dA.size bA.size);have rD:=zG sC;have tD:=zG fC;have sD:=zG dD.1;obtain⟨⟨x0,-⟩,⟨x1,-⟩,⟨x2,-⟩⟩:=gB;have vD:D<wr.heap.size:=HD.out.lt;clear cA ht eC fC sC dD aA bA dA;go_wp2_with fail;refine(zMk D wr.heap.size (fun q=>q=gb) _ Ws _ n _ iC.out (fun q hq=>by rw[hq];exact jD) sD.out rD.out tD.out nC.out vD).mono ?_;rintro e w8 ⟨⟨d,rfl,hd⟩,pC,nA⟩;clear x0 x1 x2;have eE:¬gb=D:=(by omega);have tB:(d ++ ⟨#[10]⟩:ByteArray).size=d.size+1:=(by rw[ByteArray.size_append];rfl);have sE:gb<w8.heap.size:=Nat.lt_of_lt_of_le jD nA.size;obtain⟨g',nB,w9,vA,dC,bD,vC⟩:=zNW (d ++ ⟨#[10]⟩) 46 (zJa lC.out nA eE) oC.out.symm (by rw[tB];omega) (show D+1<=w8.heap.size by omega);have aB:=zBw bD;have eB:∀q,(fun q=>some gb=some q) q->q=gb:=fun q hq=>by injection hq with hq;exact hq.symm
    have oD:=zG ((mA.out.zOr nA (show ¬w.heap.size=D by omega)).zOr aB (fun h=>by have:=eB _ h;omega));have pD:=zG ((kC.out.zOr nA (show ¬g=D by omega)).zOr aB (fun h=>by have:=eB _ h;omega));have pB:=jA.out.trans (nA.zOp jA.out.size (fun q hq=>by have rE:q=D:=hq;omega));have kD:=zG (pB.trans (aB.zOp pB.size (fun q hq=>by have:=eB q hq;omega)));have lD:=zG ((pC.more.zOr aB (fun q hq=>Or.inl (eB q hq))).less (Q:=fun q=>q=g') (fun q hq=>by
     rcases vC with h | h
     ·exact Or.inl (hq.trans h)
     ·exact Or.inr (by rw[hq,h];exact Nat.le_refl _)))
    have mC:=zG dC;have aC:=(dC.lt g' rfl).2;have rB:D<g':=by rcases vC with h | h<;>omega
    have nD:=zG (show zBN L k from Hg.out.2 ⟨fun _=>⟨oB,mB.out⟩,fun h=>absurd h iA⟩);clear pC nA aB bD pB dC mA kC jA iC lC nC;rw[tB]at vA mC;go_wp2_with (first
     | (at_builtin;refine zEh rfl _ _ _ _ rfl _ _ _ rfl rfl vA ?_)
     | go_in)
    go_roundw
    case rel=>
     have bC:(l ++ zCl (d ++ ⟨#[10]⟩)).length=nl+(d.size+1):=(by rw[List.length_append,zCF,tB,oC.out]);refine⟨k+1,l ++ zCl (d ++ ⟨#[10]⟩),g',nB,by omega,by go_num,by rw[bC],by rw[bC];omega,by omega,rB,aC,oD.out,pD.out,kD.out,lD.out,by rw[bC];exact mC.out,fun j hj=>?_⟩;by_cases e:j=k
     ·rw[e];exact nD.out
     ·exact kA.out j (by omega)
    case measure=>simp[intOf];omega
theorem zEw(s:ByteArray)(w:World)(cA:s.size<=1048576):Calls Tryz.prog 5 #[.string s] w fun e w'=>zL2 s e/\Below w.heap.size w w':=by
 have ha:=zC w (.cells #[.string ⟨#[]⟩,.int .i64 0,.int .i64 0] 23);have hR:=qP.zOt w (.string ⟨#[]⟩) (.int .i64 0) (.int .i64 0) 23;go_enter Tryz.func5,Tryz.ntmps5;go_wp2_with fail;generalize w.alloc (.cells #[.string ⟨#[]⟩,.int .i64 0,.int .i64 0] 23)=W1 at ha hR ⊢;refine(zIn s W1 cA).mono ?_;rintro e w2 ⟨⟨v,ln,c,rfl,hF⟩,bA⟩;have HF:=zG hF;have aA:=zC w2 (.cells #[.string ⟨#[]⟩,.int .i64 ln,.int .i64 c] 23);have HB:=zG (zA (zA ha bA) aA);obtain⟨⟨x0,y0⟩,⟨x1,y1⟩,⟨x2,y2⟩⟩:=(hR.zOp bA).zOp aA;obtain⟨⟨p0,q0⟩,⟨p1,q1⟩,⟨p2,q2⟩⟩:=qP.zOt w2 (.string ⟨#[]⟩) (.int .i64 ln) (.int .i64 c) 23;clear hF ha hR bA aA;go_wp2;refine bodyPost_ret (v:=.agg #[.string ⟨#[]⟩,.int .i64 ln,.int .i64 c]) (by simp[results,Tryz.results5,go_sem, *]) rfl ?_;exact⟨⟨_,_,rfl,HF.out⟩,((HB.out.setCell (Nat.le_refl _) _).setCell (Nat.le_refl _) _).setCell (Nat.le_refl _) _⟩
theorem zGi(ln c:Int)(w:World):Calls Tryz.prog 6 #[.agg #[.string ⟨#[]⟩,.int .i64 ln,.int .i64 c],.agg #[.string ⟨#[]⟩,.int .i64 ln,.int .i64 c]] w fun e w'=>e = .returned (.bool true)/\Below w.heap.size w w':=by
 have ha:=zC w (.cells #[.string ⟨#[]⟩,.int .i64 ln,.int .i64 c] 23);have hR:=qP.zOt w (.string ⟨#[]⟩) (.int .i64 ln) (.int .i64 c) 23;have hz:(w.alloc (.cells #[.string ⟨#[]⟩,.int .i64 ln,.int .i64 c] 23)).heap.size=w.heap.size+1:=World.size_alloc _ _;have aA:=zC (w.alloc (.cells #[.string ⟨#[]⟩,.int .i64 ln,.int .i64 c] 23)) (.cells #[.string ⟨#[]⟩,.int .i64 ln,.int .i64 c] 23);have HB:=zG (zA ha aA);obtain⟨⟨x0,-⟩,⟨x1,-⟩,⟨x2,-⟩⟩:=hR.zOp aA;obtain⟨⟨p0,-⟩,⟨p1,-⟩,⟨p2,-⟩⟩:=qP.zOt (w.alloc (.cells #[.string ⟨#[]⟩,.int .i64 ln,.int .i64 c] 23)) (.string ⟨#[]⟩) (.int .i64 ln) (.int .i64 c) 23;rw[hz]at p0 p1 p2;clear ha aA hR;go_enter Tryz.func6,Tryz.ntmps6;go_wp2;go_ret;exact⟨rfl,HB.out⟩
theorem zFB(s:ByteArray)(w:World)(cA:s.size<=1048576):Calls Tryz.prog 4 #[.string s] w fun e w'=>zL2 s e/\Below w.heap.size w w':=by
 have ha:=zC w (.cells #[.string ⟨#[]⟩,.int .i64 0,.int .i64 0] 23);have hR:=qP.zOt w (.string ⟨#[]⟩) (.int .i64 0) (.int .i64 0) 23;go_enter Tryz.func4,Tryz.ntmps4;go_wp2_with fail;generalize w.alloc (.cells #[.string ⟨#[]⟩,.int .i64 0,.int .i64 0] 23)=W1 at ha hR ⊢;refine(zJF s W1 cA).mono ?_;rintro e w2 ⟨⟨t,ln,c,rfl,hF⟩,bA⟩;have HF:=zG hF;have aA:=zC w2 (.cells #[.string t,.int .i64 ln,.int .i64 c] 23);have HB:=zG (zA (zA ha bA) aA);obtain⟨⟨x0,y0⟩,⟨x1,y1⟩,⟨x2,y2⟩⟩:=(hR.zOp bA).zOp aA;obtain⟨⟨p0,q0⟩,⟨p1,q1⟩,⟨p2,q2⟩⟩:=qP.zOt w2 (.string t) (.int .i64 ln) (.int .i64 c) 23;clear hF ha hR bA aA;go_wp2;refine bodyPost_ret (v:=.agg #[.string ⟨#[]⟩,.int .i64 ln,.int .i64 c]) (by simp[results,Tryz.results4,go_sem, *]) rfl ?_;exact⟨⟨_,_,rfl,HF.out⟩,((HB.out.setCell (Nat.le_refl _) _).setCell (Nat.le_refl _) _).setCell (Nat.le_refl _) _⟩
theorem zDP(s:ByteArray)(w:World)(hs:s.size<=maxLen):Calls Tryz.prog 3 #[.string s] w fun e w'=>e = .returned (.bool true)/\Below w.heap.size w w':=by
 unfold maxLen at hs;by_cases kA:1048576<s.size
 ·have jA:(1048576:Int)<(s.size:Int):=(by omega);go_enter Tryz.func3,Tryz.ntmps3;go_wp2;go_ret;exact⟨rfl,Below.refl _ _⟩
 have jA:¬(1048576:Int)<(s.size:Int):=by omega
 go_enter Tryz.func3,Tryz.ntmps3;go_wp2_with fail;refine(zFB s w (by omega)).mono ?_;rintro e w2 ⟨⟨ln,c,rfl,hF⟩,fA⟩;have eA:=zC w2 (.cells #[.string ⟨#[]⟩,.int .i64 ln,.int .i64 c] 23);have hX:=qP.zOt w2 (.string ⟨#[]⟩) (.int .i64 ln) (.int .i64 c) 23;have aA:=zA fA eA;clear fA eA;go_wp2_with fail;generalize w2.alloc (.cells #[.string ⟨#[]⟩,.int .i64 ln,.int .i64 c] 23)=W2 at hX aA ⊢;refine(zEw s W2 (by omega)).mono ?_;rintro e w3 ⟨⟨lA,c',rfl,dA⟩,cA⟩;obtain⟨rfl,rfl⟩:=hF.uniq dA;have bA:=zC w3 (.cells #[.string ⟨#[]⟩,.int .i64 ln,.int .i64 c] 23);have HB:=zG (zA (zA aA cA) bA);obtain⟨⟨x0,-⟩,⟨x1,-⟩,⟨x2,-⟩⟩:=(hX.zOp cA).zOp bA;obtain⟨⟨p0,-⟩,⟨p1,-⟩,⟨p2,-⟩⟩:=qP.zOt w3 (.string ⟨#[]⟩) (.int .i64 ln) (.int .i64 c) 23;clear hF dA hX aA cA bA;go_wp2_with fail;refine(zGi ln c _).mono ?_;rintro e w4 ⟨rfl,gA⟩;have iA:=zG (zA HB.out gA);clear gA x0 x1 x2 p0 p1 p2;go_wp2;go_ret;exact⟨rfl,iA.out⟩
open Go.ChangeShapes Go.WideShapes
set_option maxRecDepth 100000
abbrev zN2:List (String×DataW Unit):=[("loop.example/g00381/impl.errForm",Rows.laid_loop_example_g00381_impl_errForm),("loop.example/g00381/impl.errSize",Rows.laid_loop_example_g00381_impl_errSize),("loop.example/g00381/impl.errNone",Rows.laid_loop_example_g00381_impl_errNone),("loop.example/g00381/impl.errThere",Rows.laid_loop_example_g00381_impl_errThere),("loop.example/g00381/impl.errFull",Rows.laid_loop_example_g00381_impl_errFull),("loop.example/g00381/impl.errState",Rows.laid_loop_example_g00381_impl_errState),("loop.example/g00381/impl.errRange",Rows.laid_loop_example_g00381_impl_errRange)]
def errN:Nat->String
 | 0=> "loop.example/g00381/impl.errForm"
 | 1=> "loop.example/g00381/impl.errSize"
 | 2=> "loop.example/g00381/impl.errNone"
 | 3=> "loop.example/g00381/impl.errThere"
 | 4=> "loop.example/g00381/impl.errFull"
 | 5=> "loop.example/g00381/impl.errState"
 | _=> "loop.example/g00381/impl.errRange"
theorem yz(i:Nat)(h:i<7):Tryz.prog.globalNamed (errN i)=some (errG i)/\(Tryz.prog.globals[errG i]?).map (·.type)=some 154:=by
 match i,h with
 | 0,_=>exact⟨by kernel_rfl,by kernel_rfl⟩
 | 1,_=>exact⟨by kernel_rfl,by kernel_rfl⟩
 | 2,_=>exact⟨by kernel_rfl,by kernel_rfl⟩
 | 3,_=>exact⟨by kernel_rfl,by kernel_rfl⟩
 | 4,_=>exact⟨by kernel_rfl,by kernel_rfl⟩
 | 5,_=>exact⟨by kernel_rfl,by kernel_rfl⟩
 | 6,_=>exact⟨by kernel_rfl,by kernel_rfl⟩
theorem zKt : "*" ++ "errors.errorString" = "*errors.errorString" :=by decide
theorem zEV(u:TypeId)(h:Tryz.prog.typeName? 3 u=some "*errors.errorString"):u=369:=
 typeName_ptr_named (nm:= "errors.errorString") (by rw[zKt];kernel_rfl) (by kernel_rfl) (by decide) u (by rw[zKt];exact h)
theorem zCH:Tryz.prog.cellsOf 392=1:=by kernel_rfl
theorem strCells:Tryz.prog.cellsOf 9=1:=by kernel_rfl
theorem zIX{W:World}(h:laidMetH Tryz.prog zN2 W):∃p:Nat->Addr,zOk W p/\∀i,i<7->W.var? Tryz.prog (errN i)=some #[zBU (p i)]:=by
 rw[MakeChecks.laidMetH_plain _ _ _ (by kernel_rfl)]at h;obtain⟨ps,⟨g0,t0,tA,f0,p0,q0,dA,nB,lA,fB,⟨g1,t1,vA,f1,p1,q1,eA,oB,mA,gB,⟨g2,t2,aB,f2,p2,q2,fA,pB,nA,iB,⟨g3,t3,bB,f3,p3,q3,gA,rB,oA,jB,⟨g4,t4,cB,f4,p4,q4,iA,sB,pA,kB,⟨g5,t5,dB,f5,p5,q5,jA,tB,rA,lB,⟨g6,t6,eB,f6,p6,q6,kA,vB,sA,mB,_,e6⟩,e5⟩,e4⟩,e3⟩,e2⟩,e1⟩,e0⟩,bA,aA⟩:=h;obtain rfl:=Option.some.inj ((yz 0 (by omega)).1.symm.trans dA);obtain rfl:=Option.some.inj ((yz 0 (by omega)).2.symm.trans nB);obtain rfl:=Option.some.inj ((yz 1 (by omega)).1.symm.trans eA);obtain rfl:=Option.some.inj ((yz 1 (by omega)).2.symm.trans oB);obtain rfl:=Option.some.inj ((yz 2 (by omega)).1.symm.trans fA);obtain rfl:=Option.some.inj ((yz 2 (by omega)).2.symm.trans pB);obtain rfl:=Option.some.inj ((yz 3 (by omega)).1.symm.trans gA);obtain rfl:=Option.some.inj ((yz 3 (by omega)).2.symm.trans rB);obtain rfl:=Option.some.inj ((yz 4 (by omega)).1.symm.trans iA);obtain rfl:=Option.some.inj ((yz 4 (by omega)).2.symm.trans sB);obtain rfl:=Option.some.inj ((yz 5 (by omega)).1.symm.trans jA);obtain rfl:=Option.some.inj ((yz 5 (by omega)).2.symm.trans tB);obtain rfl:=Option.some.inj ((yz 6 (by omega)).1.symm.trans kA);obtain rfl:=Option.some.inj ((yz 6 (by omega)).2.symm.trans vB);subst e6;subst e5;subst e4;subst e3;subst e2;subst e1;subst e0;obtain⟨l0⟩:=tA;have aC:∀u v,l0 = [.iface u v]->Value.okWide Tryz.prog W .any 0 u v:=fun u v e=>by
  subst e;exact(aA (errG 0) 0 (by simp[MemPlace.row])).2 u v (by simpa using World.var?_cell dA lA 0)
 obtain⟨a0,s0,rfl,iC,pC,cD,rfl⟩:=errorString_of_trod Tryz.underlying154 zEV Tryz.underlying369 Tryz.underlying392 rfl rfl Tryz.underlying9 zCH strCells fB aC;obtain⟨l1⟩:=vA;have bC:∀u v,l1 = [.iface u v]->Value.okWide Tryz.prog W .any 0 u v:=fun u v e=>by
  subst e;exact(aA (errG 1) 0 (by simp[MemPlace.row])).2 u v (by simpa using World.var?_cell eA mA 0)
 obtain⟨a1,s1,rfl,jC,rC,dD,rfl⟩:=errorString_of_trod Tryz.underlying154 zEV Tryz.underlying369 Tryz.underlying392 rfl rfl Tryz.underlying9 zCH strCells gB bC;obtain⟨l2⟩:=aB;have cC:∀u v,l2 = [.iface u v]->Value.okWide Tryz.prog W .any 0 u v:=fun u v e=>by
  subst e;exact(aA (errG 2) 0 (by simp[MemPlace.row])).2 u v (by simpa using World.var?_cell fA nA 0)
 obtain⟨a2,s2,rfl,kC,sC,eD,rfl⟩:=errorString_of_trod Tryz.underlying154 zEV Tryz.underlying369 Tryz.underlying392 rfl rfl Tryz.underlying9 zCH strCells iB cC;obtain⟨l3⟩:=bB;have dC:∀u v,l3 = [.iface u v]->Value.okWide Tryz.prog W .any 0 u v:=fun u v e=>by
  subst e;exact(aA (errG 3) 0 (by simp[MemPlace.row])).2 u v (by simpa using World.var?_cell gA oA 0)
 obtain⟨a3,s3,rfl,lC,tC,fD,rfl⟩:=errorString_of_trod Tryz.underlying154 zEV Tryz.underlying369 Tryz.underlying392 rfl rfl Tryz.underlying9 zCH strCells jB dC;obtain⟨l4⟩:=cB;have eC:∀u v,l4 = [.iface u v]->Value.okWide Tryz.prog W .any 0 u v:=fun u v e=>by
  subst e;exact(aA (errG 4) 0 (by simp[MemPlace.row])).2 u v (by simpa using World.var?_cell iA pA 0)
 obtain⟨a4,s4,rfl,mC,vC,gD,rfl⟩:=errorString_of_trod Tryz.underlying154 zEV Tryz.underlying369 Tryz.underlying392 rfl rfl Tryz.underlying9 zCH strCells kB eC;obtain⟨l5⟩:=dB;have fC:∀u v,l5 = [.iface u v]->Value.okWide Tryz.prog W .any 0 u v:=fun u v e=>by
  subst e;exact(aA (errG 5) 0 (by simp[MemPlace.row])).2 u v (by simpa using World.var?_cell jA rA 0)
 obtain⟨a5,s5,rfl,nC,aD,iD,rfl⟩:=errorString_of_trod Tryz.underlying154 zEV Tryz.underlying369 Tryz.underlying392 rfl rfl Tryz.underlying9 zCH strCells lB fC;obtain⟨l6⟩:=eB;have gC:∀u v,l6 = [.iface u v]->Value.okWide Tryz.prog W .any 0 u v:=fun u v e=>by
  subst e;exact(aA (errG 6) 0 (by simp[MemPlace.row])).2 u v (by simpa using World.var?_cell kA sA 0)
 obtain⟨a6,s6,rfl,oC,bD,jD,rfl⟩:=errorString_of_trod Tryz.underlying154 zEV Tryz.underlying369 Tryz.underlying392 rfl rfl Tryz.underlying9 zCH strCells mB gC;refine⟨fun | 0=>a0 | 1=>a1 | 2=>a2 | 3=>a3 | 4=>a4 | 5=>a5 | _=>a6,⟨fun i hi=>?_,fun i hi=>?_,fun i j hi hj cA he=>?_⟩,fun i hi=>?_⟩
 ·match i,hi with
  | 0,_=>simpa using World.var?_cell dA lA 0
  | 1,_=>simpa using World.var?_cell eA mA 0
  | 2,_=>simpa using World.var?_cell fA nA 0
  | 3,_=>simpa using World.var?_cell gA oA 0
  | 4,_=>simpa using World.var?_cell iA pA 0
  | 5,_=>simpa using World.var?_cell jA rA 0
  | 6,_=>simpa using World.var?_cell kA sA 0
 ·match i,hi with
  | 0,_=>exact(aA a0.block a0.off (by simp[MemPlace.row])).1
  | 1,_=>exact(aA a1.block a1.off (by simp[MemPlace.row])).1
  | 2,_=>exact(aA a2.block a2.off (by simp[MemPlace.row])).1
  | 3,_=>exact(aA a3.block a3.off (by simp[MemPlace.row])).1
  | 4,_=>exact(aA a4.block a4.off (by simp[MemPlace.row])).1
  | 5,_=>exact(aA a5.block a5.off (by simp[MemPlace.row])).1
  | 6,_=>exact(aA a6.block a6.off (by simp[MemPlace.row])).1
 ·simp only[MemPlace.row]at bA
  match i,hi,j,hj with
  | 0,_,0,_=>exact absurd rfl cA
  | 0,_,1,_=>obtain rfl:a0=a1:=he;simp at bA
  | 0,_,2,_=>obtain rfl:a0=a2:=he;simp at bA
  | 0,_,3,_=>obtain rfl:a0=a3:=he;simp at bA
  | 0,_,4,_=>obtain rfl:a0=a4:=he;simp at bA
  | 0,_,5,_=>obtain rfl:a0=a5:=he;simp at bA
  | 0,_,6,_=>obtain rfl:a0=a6:=he;simp at bA
  | 1,_,0,_=>obtain rfl:a1=a0:=he;simp at bA
  | 1,_,1,_=>exact absurd rfl cA
  | 1,_,2,_=>obtain rfl:a1=a2:=he;simp at bA
  | 1,_,3,_=>obtain rfl:a1=a3:=he;simp at bA
  | 1,_,4,_=>obtain rfl:a1=a4:=he;simp at bA
  | 1,_,5,_=>obtain rfl:a1=a5:=he;simp at bA
  | 1,_,6,_=>obtain rfl:a1=a6:=he;simp at bA
  | 2,_,0,_=>obtain rfl:a2=a0:=he;simp at bA
  | 2,_,1,_=>obtain rfl:a2=a1:=he;simp at bA
  | 2,_,2,_=>exact absurd rfl cA
  | 2,_,3,_=>obtain rfl:a2=a3:=he;simp at bA
  | 2,_,4,_=>obtain rfl:a2=a4:=he;simp at bA
  | 2,_,5,_=>obtain rfl:a2=a5:=he;simp at bA
  | 2,_,6,_=>obtain rfl:a2=a6:=he;simp at bA
  | 3,_,0,_=>obtain rfl:a3=a0:=he;simp at bA
  | 3,_,1,_=>obtain rfl:a3=a1:=he;simp at bA
  | 3,_,2,_=>obtain rfl:a3=a2:=he;simp at bA
  | 3,_,3,_=>exact absurd rfl cA
  | 3,_,4,_=>obtain rfl:a3=a4:=he;simp at bA
  | 3,_,5,_=>obtain rfl:a3=a5:=he;simp at bA
  | 3,_,6,_=>obtain rfl:a3=a6:=he;simp at bA
  | 4,_,0,_=>obtain rfl:a4=a0:=he;simp at bA
  | 4,_,1,_=>obtain rfl:a4=a1:=he;simp at bA
  | 4,_,2,_=>obtain rfl:a4=a2:=he;simp at bA
  | 4,_,3,_=>obtain rfl:a4=a3:=he;simp at bA
  | 4,_,4,_=>exact absurd rfl cA
  | 4,_,5,_=>obtain rfl:a4=a5:=he;simp at bA
  | 4,_,6,_=>obtain rfl:a4=a6:=he;simp at bA
  | 5,_,0,_=>obtain rfl:a5=a0:=he;simp at bA
  | 5,_,1,_=>obtain rfl:a5=a1:=he;simp at bA
  | 5,_,2,_=>obtain rfl:a5=a2:=he;simp at bA
  | 5,_,3,_=>obtain rfl:a5=a3:=he;simp at bA
  | 5,_,4,_=>obtain rfl:a5=a4:=he;simp at bA
  | 5,_,5,_=>exact absurd rfl cA
  | 5,_,6,_=>obtain rfl:a5=a6:=he;simp at bA
  | 6,_,0,_=>obtain rfl:a6=a0:=he;simp at bA
  | 6,_,1,_=>obtain rfl:a6=a1:=he;simp at bA
  | 6,_,2,_=>obtain rfl:a6=a2:=he;simp at bA
  | 6,_,3,_=>obtain rfl:a6=a3:=he;simp at bA
  | 6,_,4,_=>obtain rfl:a6=a4:=he;simp at bA
  | 6,_,5,_=>obtain rfl:a6=a5:=he;simp at bA
  | 6,_,6,_=>exact absurd rfl cA
 ·match i,hi with
  | 0,_=>exact lA
  | 1,_=>exact mA
  | 2,_=>exact nA
  | 3,_=>exact oA
  | 4,_=>exact pA
  | 5,_=>exact rA
  | 6,_=>exact sA
theorem zKd{W W':World}{n:String}{cs:Array Value}(h:W.var? Tryz.prog n=some cs)(t:Below W.heap.size W W'):W'.var? Tryz.prog n=some cs:=by
 unfold World.var? at h ⊢;cases hg:Tryz.prog.globalNamed n with
 | none=>simp[hg]at h
 | some g=>
  simp only[hg,Option.bind_some]at h ⊢;have aA:g<W.heap.size:=by
   rcases Nat.lt_or_ge g W.heap.size with h' | h'
   ·exact h'
   ·simp[Array.getElem?_eq_none h']at h
  rw[t.block g aA];exact h
noncomputable def zKO:Nat:=(World.holding Tryz.prog default ⟨#[],#[],[]⟩).heap.size
noncomputable def zLT(os:Os):World:=
 let w0:=World.holding Tryz.prog os ⟨#[.cells #[.string ⟨#[105,116,32,105,115,32,110,111,116,32,114,105,103,104,116]⟩] 392,.cells #[.string ⟨#[105,116,32,105,115,32,116,111,111,32,108,111,110,103]⟩] 392,.cells #[.string ⟨#[116,104,101,114,101,32,105,115,32,110,111,110,101]⟩] 392,.cells #[.string ⟨#[116,104,101,114,101,32,105,115,32,111,110,101,32,97,108,114,101,97,100,121]⟩] 392,.cells #[.string ⟨#[116,104,101,114,101,32,105,115,32,110,111,32,114,111,111,109]⟩] 392,.cells #[.string ⟨#[105,116,32,100,111,101,115,32,110,111,116,32,115,116,97,110,100,32,115,111,32,116,104,97,116,32,116,104,105,115,32,99,97,110,32,98,101,32,100,111,110,101]⟩] 392,.cells #[.string ⟨#[105,116,32,105,115,32,111,117,116,32,111,102,32,114,97,110,103,101]⟩] 392],#[],[]⟩
 {w0 with heap:=((((((((((((((w0.heap).modify 5 fun
   | .cells _ t frozen=>.cells #[zBU ⟨zKO+0,0,none⟩] t frozen
   | o=>o)).modify 4 fun
   | .cells _ t frozen=>.cells #[zBU ⟨zKO+1,0,none⟩] t frozen
   | o=>o)).modify 2 fun
   | .cells _ t frozen=>.cells #[zBU ⟨zKO+2,0,none⟩] t frozen
   | o=>o)).modify 0 fun
   | .cells _ t frozen=>.cells #[zBU ⟨zKO+3,0,none⟩] t frozen
   | o=>o)).modify 1 fun
   | .cells _ t frozen=>.cells #[zBU ⟨zKO+4,0,none⟩] t frozen
   | o=>o)).modify 3 fun
   | .cells _ t frozen=>.cells #[zBU ⟨zKO+5,0,none⟩] t frozen
   | o=>o)).modify 7 fun
   | .cells _ t frozen=>.cells #[zBU ⟨zKO+6,0,none⟩] t frozen
   | o=>o)}
open Go.Stop
theorem zEW{H:Type}(enc:TypeId×Value->H){W:World}{p:Nat->Addr}(h:∀i,i<7->W.var? Tryz.prog (errN i)=some #[zBU (p i)])(sp:Nat->Bool) :
  ∀(l:List Nat),(∀i,i∈l->i<7)->DataW.TrodVars enc Tryz.prog W sp (l.map errN) (l.map fun i=>tok enc (zBU (p i))) (l.map fun i=>MemPlace.cell (errG i) 0)
 | [],_=>rfl
 | i :: l,hl=>⟨errG i,154,#[zBU (p i)],1,[],l.map (fun i=>MemPlace.cell (errG i) 0),(yz i (hl i (List.mem_cons_self ..))).1,(yz i (hl i (List.mem_cons_self ..))).2,h i (hl i (List.mem_cons_self ..)),trod_held Tryz.underlying154 (show IsIface (zBU (p i))from trivial) 0,zEW enc h sp l (fun j hj=>hl j (List.mem_cons_of_mem _ hj)),rfl⟩
end Go.Proofs.YtgabgheflgjgiaaGreatDoor

/- A part of the proof. -/
import Derived.Test.YtgabgheflgjgiaaGreatDoorV47
import Derived.Test.YtgabgheflgjgiaaGreatDoorRows
import Derived.ChangeSame
import Derived.ChangeVars
import Derived.JoinedOf
import Derived.LaidLaws
import Derived.Stop.LaidTwo
import Derived.Stop.Joined
import Derived.Stop.ErrReads
import Derived.MakeChecks
import Derived.ChangeOld
set_option linter.unusedVariables false
set_option maxRecDepth 20000
set_option maxHeartbeats 4000000
namespace Go.Proofs.YtgabgheflgjgiaaGreatDoor
open Go.RowKit Go.Lib
theorem zEZ{P:Program}{w w1:World}{bA:Array Oper}{zOo:List Oper}{o:Oper}{a:Act}{Q:Exit->Act->World->Prop}(cA:o.guard=none)(s x:Operand)(t u:TypeId)
  (ho:o.op = .call {callee:=.builtin .append,args:=#[s,x],argTypes:=#[t,u]}) (vs vx v':Value) (hs:a.eval s=vs) (hx:a.eval x=vx) (aA:(Builtin.append_ #[t,u] o.type #[vs,vx]).run P w = .ok v' w1)
  (h:wpList P bA Q zOo (a.put o.dst v') w1):wpList P bA Q (o :: zOo) a w:=by
 refine wpList_plain cA fun K hK=>?_
 unfold Oper.wp;simp[execOp,ho,resolve,invoke,builtin,hs,hx,aA,Result.andThen];exact hK _ _ h
theorem zKy:Wee (zBE 100):=⟨by decide,by decide,by decide,fun i hi=>absurd hi (Nat.not_lt_zero _),fun i hi=>absurd hi (Nat.not_lt_zero _)⟩
theorem zJN{S:Nat->Prop}{w w':World}{base:Nat}{g n c:Nat}{l:List Int}(h:zCA w base (.slice (some ⟨g,0,none⟩) n c) l)(t:zE S w w')(hs:¬S g):zCA w' base (.slice (some ⟨g,0,none⟩) n c) l:=by
 refine⟨h.1,?_⟩;rcases h.2 with⟨e,_⟩ | ⟨g',cap,aA,hv,hb,hg,zOo⟩
 ·cases e
 ·have hl:g'<w.heap.size:=(Array.getElem?_eq_some_iff.1 hg).1;have e:g=g':=by
   simp only[Value.slice.injEq,Option.some.injEq,Addr.mk.injEq,and_true]at hv;exact hv.1
  exact .inr ⟨g',cap,aA,hv,hb,(t.block g' hl (e▸hs)).trans hg,zOo⟩
theorem zAR.more{w:World}{D:Nat}{P:Nat->Prop}(h:zAR w D P):zAR w D (fun q=>P q\/w.heap.size<=q):=by
 have hl:=h.lt;obtain⟨v0,v1,v2,v3,u0,u1,u2,u3,S,l1,h1,l2,h2,h⟩:=h;refine⟨v0,v1,v2,v3,u0,u1,u2,u3,S,l1,h1,l2,h2,h.box,h.zOc,h.zOe,h.hi1,h.hi2,h.d1,h.d2,fun k hk=>?_,h.w1,h.w2⟩;rcases hk with hk | hk
 ·exact h.out k hk
 ·have:=h.hi1;have:=h.hi2;exact⟨by omega,Or.inr (by omega),Or.inr (by omega)⟩
def zNt(s:ByteArray)(e:Ending):Prop:=∃(t:ByteArray) (ln c:Int),e = .returned (.agg #[.string t,.int .i64 ln,.int .i64 c])/\zDq s ln c
theorem zI2(s:ByteArray)(w:World)(jE:s.size<=1048576):Calls Tryz.prog 7 #[.string s] w fun e w'=>zNt s e/\Below w.heap.size w w':=by
 have ha:=zC w (.cells #[.string ⟨#[]⟩,.int .i64 0,.int .i64 0] 23);have hR:=qP.zOY w (.string ⟨#[]⟩) (.int .i64 0) (.int .i64 0) 23;by_cases eA:8000<s.size
 ·have vD:(8000:Int)<(s.size:Int):=(by omega);obtain⟨⟨x0,y0⟩,⟨x1,y1⟩,⟨x2,y2⟩⟩:=hR;go_enter Tryz.func7,Tryz.ntmps7;go_wp2;refine bodyPost_ret (v:=.agg #[.string ⟨#[]⟩,.int .i64 0,.int .i64 2]) (by simp[results,Tryz.results7,go_sem, *]) rfl ?_;exact⟨⟨_,_,_,rfl,Or.inl ⟨eA,rfl,rfl⟩⟩,zC _ _⟩
 have vD:¬(8000:Int)<(s.size:Int):=by omega
 go_enter Tryz.func7,Tryz.ntmps7;go_wp2_with fail;generalize w.alloc (.cells #[.string ⟨#[]⟩,.int .i64 0,.int .i64 0] 23)=W1 at ha hR ⊢;refine(zEr s 10 W1 (by omega)).mono ?_;rintro e w2 ⟨v,rfl,aA,sB⟩;have bD:=zGE 10 (bs s);have lA:=zE6 10 (bs s);have fA:=zGD 10 (bs s);rw[zCh]at lA fA;generalize hL:spl 10 (bs s)=L at aA bD lA fA;obtain⟨g,cap,rfl,hg,hT⟩:=aA.texts bD (by omega);have HT:=zG hT;have vB:=hT.2.2.2.1;have aE:=hT.2.1;have HB:=zG (zA ha sB);have HR:=zG (hR.zOU sB);have lB:=zG fA;have iC:=zG hL;have fD:=zD HR.out.1.1;clear hT aA hL sB ha hR fA;obtain⟨m,hm⟩:∃m,m=L.length:=⟨_,rfl⟩;rw[<-hm]at HT lA aE ⊢;have Hm:=zG hm;have iE:1<=m:=by omega
 clear hm;go_wp2_with fail;refine(zFW 100 w2).mono ?_;rintro e w3 ⟨v0,v1,u0,u1,rfl,ho,pA⟩;obtain⟨a0,c0,a1,c1,-,-,-,-,rfl,rfl,-,-⟩:=ho.at.zOc.form;obtain⟨e0,f0,e1,f1,-,-,-,-,rfl,rfl,-,-⟩:=ho.at.zOe.form;obtain⟨l1,h1,l2,h2,o1,o2,o3,o4,o5,o6,-⟩:=ho;have oA:=zC w3 (.cells #[.slice a0 (zn 100).zOc.zOa.n c0,.slice a1 (zn 100).zOc.zOa.hn c1,.int .i64 (zn 100).zOc.time,.int .i64 (zn 100).zOc.next,.slice none 0 0,.slice none 0 0,.slice e0 (zn 100).zOe.zOa.n f0,.slice e1 (zn 100).zOe.zOa.hn f1,.int .i64 (zn 100).zOe.time,.int .i64 (zn 100).zOe.next,.slice none 0 0,.slice none 0 0] 45);have hz4:(w3.alloc (.cells #[.slice a0 (zn 100).zOc.zOa.n c0,.slice a1 (zn 100).zOc.zOa.hn c1,.int .i64 (zn 100).zOc.time,.int .i64 (zn 100).zOc.next,.slice none 0 0,.slice none 0 0,.slice e0 (zn 100).zOe.zOa.n f0,.slice e1 (zn 100).zOe.zOa.hn f1,.int .i64 (zn 100).zOe.time,.int .i64 (zn 100).zOe.next,.slice none 0 0,.slice none 0 0] 45)).heap.size=w3.heap.size+1:=World.size_alloc _ _;have pC:=zAl.zOY w3 (.slice a0 (zn 100).zOc.zOa.n c0) (.slice a1 (zn 100).zOc.zOa.hn c1) (.int .i64 (zn 100).zOc.time) (.int .i64 (zn 100).zOc.next) (.slice none 0 0) (.slice none 0 0) (.slice e0 (zn 100).zOe.zOa.n f0) (.slice e1 (zn 100).zOe.zOa.hn f1) (.int .i64 (zn 100).zOe.time) (.int .i64 (zn 100).zOe.next) (.slice none 0 0) (.slice none 0 0) 45;have sC:zAR (w3.alloc (.cells #[.slice a0 (zn 100).zOc.zOa.n c0,.slice a1 (zn 100).zOc.zOa.hn c1,.int .i64 (zn 100).zOc.time,.int .i64 (zn 100).zOc.next,.slice none 0 0,.slice none 0 0,.slice e0 (zn 100).zOe.zOa.n f0,.slice e1 (zn 100).zOe.zOa.hn f1,.int .i64 (zn 100).zOe.time,.int .i64 (zn 100).zOe.next,.slice none 0 0,.slice none 0 0] 45)) w3.heap.size (fun q=>w3.heap.size<q):=⟨_,_,_,_,_,_,_,_,zn 100,l1,h1,l2,h2,pC,o1.zOU oA,o2.zOU oA,by omega,by omega,Or.inr o4,Or.inr o6,fun k hk=>⟨by omega,Or.inr (by omega),Or.inr (by omega)⟩,zKy,zKy⟩;have sA:=zC (w3.alloc (.cells #[.slice a0 (zn 100).zOc.zOa.n c0,.slice a1 (zn 100).zOc.zOa.hn c1,.int .i64 (zn 100).zOc.time,.int .i64 (zn 100).zOc.next,.slice none 0 0,.slice none 0 0,.slice e0 (zn 100).zOe.zOa.n f0,.slice e1 (zn 100).zOe.zOa.hn f1,.int .i64 (zn 100).zOe.time,.int .i64 (zn 100).zOe.next,.slice none 0 0,.slice none 0 0] 45)) (.cells #[] 5);have hz5:((w3.alloc (.cells #[.slice a0 (zn 100).zOc.zOa.n c0,.slice a1 (zn 100).zOc.zOa.hn c1,.int .i64 (zn 100).zOc.time,.int .i64 (zn 100).zOc.next,.slice none 0 0,.slice none 0 0,.slice e0 (zn 100).zOe.zOa.n f0,.slice e1 (zn 100).zOe.zOa.hn f1,.int .i64 (zn 100).zOe.time,.int .i64 (zn 100).zOe.next,.slice none 0 0,.slice none 0 0] 45)).alloc (.cells #[] 5)).heap.size=w3.heap.size+1+1:=by rw[World.size_alloc,World.size_alloc]
 have dD:zCA ((w3.alloc (.cells #[.slice a0 (zn 100).zOc.zOa.n c0,.slice a1 (zn 100).zOc.zOa.hn c1,.int .i64 (zn 100).zOc.time,.int .i64 (zn 100).zOc.next,.slice none 0 0,.slice none 0 0,.slice e0 (zn 100).zOe.zOa.n f0,.slice e1 (zn 100).zOe.zOa.hn f1,.int .i64 (zn 100).zOe.time,.int .i64 (zn 100).zOe.next,.slice none 0 0,.slice none 0 0] 45)).alloc (.cells #[] 5)) (w3.heap.size+1) (.slice (some ⟨w3.heap.size+1,0,none⟩) 0 0) []:=by
  have:=World.ownsRow_lit (e:=5) (size:=1) (w3.alloc (.cells #[.slice a0 (zn 100).zOc.zOa.n c0,.slice a1 (zn 100).zOc.zOa.hn c1,.int .i64 (zn 100).zOc.time,.int .i64 (zn 100).zOc.next,.slice none 0 0,.slice none 0 0,.slice e0 (zn 100).zOe.zOa.n f0,.slice e1 (zn 100).zOe.zOa.hn f1,.int .i64 (zn 100).zOe.time,.int .i64 (zn 100).zOe.next,.slice none 0 0,.slice none 0 0] 45)) #[] 0 (Nat.le_refl _) (by unfold maxLen;omega) rfl;rw[hz4]at this;exact this
 go_wp2;have jB:=zG (((HR.out.zOU pA).zOU oA).zOU sA);have tA:g<w3.heap.size:=Nat.lt_of_lt_of_le vB pA.size;have kB:=zG (((HT.out.zOU pA vB).zOU oA tA).zOU sA (by omega));have iB:=zG (zA (zA (zA HB.out pA) oA) sA);have bB:=zG ((sC.zOU sA).less (Q:=fun q=>q=w3.heap.size+1) (fun k hk=>by show w3.heap.size<k;rw[hk];omega));have dB:=zG dD;have tD:w.heap.size<w3.heap.size:=Nat.lt_of_lt_of_le fD pA.size;generalize (w3.alloc (.cells #[.slice a0 (zn 100).zOc.zOa.n c0,.slice a1 (zn 100).zOc.zOa.hn c1,.int .i64 (zn 100).zOc.time,.int .i64 (zn 100).zOc.next,.slice none 0 0,.slice none 0 0,.slice e0 (zn 100).zOe.zOa.n f0,.slice e1 (zn 100).zOe.zOa.hn f1,.int .i64 (zn 100).zOe.time,.int .i64 (zn 100).zOe.next,.slice none 0 0,.slice none 0 0] 45)).alloc (.cells #[] 5)=W5 at jB kB iB bB dB hz5 ⊢;clear oA hz4 pC sC sA dD HR HT HB o1 o2 o3 o4 o5 o6 pA vB fD;generalize w3.heap.size=D at bB dB hz5 tD tA ⊢
 go_loopw [5,6] (fun vb i wr=>∃(k:Nat) (l:List Int) (gb cb:Nat),k<m/\i = .int .i64 k/\vb = .slice (some ⟨gb,0,none⟩) l.length cb/\l.length<=k*101/\k<=60/\D<gb/\gb<wr.heap.size/\qP wr w.heap.size (.string ⟨#[]⟩) (.int .i64 0) (.int .i64 0)/\zBA wr g m cap L/\Below w.heap.size w wr/\zAR wr D (fun q=>q=gb)/\zCA wr (D+1) (.slice (some ⟨gb,0,none⟩) l.length cb) l/\∀j,j<k->zBM L j) (fun _ i _=>m - (intOf i).toNat)
 case atStart=>exact⟨0,[],D+1,0,iE,rfl,rfl,Nat.le_refl _,Nat.zero_le _,by omega,by omega,jB.out,kB.out,iB.out,bB.out,dB.out,fun j hj=>absurd hj (Nat.not_lt_zero _)⟩
 case round=>
  clear jB kB iB bB dB hz5;obtain⟨k,l,gb,cb,hk,rfl,rfl,gE,eE,lE,dE,r1,r2,r3,r4,r5,r6⟩:=hrel;have HR:=zG r1;have HT:=zG r2;have HB:=zG r3;have HD:=zG r4;have HU:=zG r5;have kA:=zG r6;obtain⟨nl,cC⟩:∃nl,nl=l.length:=⟨_,rfl⟩;rw[<-cC]at HU gE ⊢;have nC:=zG cC;clear r1 r2 r3 r4 r5 r6 cC;have nE:(k:Int)<(m:Int):=(by omega);have h0:(0:Int)<=(k:Int):=(by omega);have fB:k<L.length:=(by have:=Hm.out;omega);have t1:wr.cell? ⟨g,k,none⟩=some (.string ⟨L[k].toArray⟩):=HT.out.2.2.2.2 k fB;have vC:L.getD k []=L[k]:=zKh fB;have eD:(⟨L[k].toArray⟩:ByteArray).size<=100000:=by
   show L[k].toArray.size<=_;rw[List.size_toArray];have:=lB.out L[k] (List.getElem_mem fB);omega
  have gA:zBM L k↔(k+1<m->k<60/\zFA ⟨L[k].toArray⟩)/\(k+1=m->L[k] = []):=by
   unfold zBM;rw[vC,Hm.out]
  have Hg:=zG gA;have HF:=zG (show ¬zBM L k->zDN (spl 10 (bs s)) k 3 by rw[iC.out];exact fun h=>Or.inl ⟨k,fB,kA.out,h,rfl,rfl⟩);clear gA vC;by_cases iA:k+1=m
  ·have fE:((k:Int) == (m:Int) - 1)=true:=(by simp only[beq_iff_eq];omega);by_cases he:L[k] = []
   ·have bE:L[k].isEmpty=true:=(by rw[he];rfl);have kD:=zG (show zDN (spl 10 (bs s)) 0 0 by
     rw[iC.out];refine Or.inr ⟨fun j hj=>?_,rfl,rfl⟩;by_cases e:j=k
     ·rw[e];exact Hg.out.2 ⟨fun h=>by omega,fun _=>he⟩
     ·exact kA.out j (by have:=Hm.out;omega))
    clear he;have mE:=HU.out.conv;obtain⟨⟨x0,y0⟩,⟨x1,y1⟩,⟨x2,y2⟩⟩:=HR.out;go_wp2;refine bodyPost_ret (v:=.agg #[.string (strOfNums l),.int .i64 0,.int .i64 0]) (by simp[results,Tryz.results7,go_sem, *]) rfl ?_;exact⟨⟨_,_,_,rfl,Or.inr ⟨eA,kD.out⟩⟩,(((HB.out.setCell (Nat.le_refl _) _).setCell (Nat.le_refl _) _).setCell (Nat.le_refl _) _)⟩
   ·have bE:L[k].isEmpty=false:=(by rw[List.isEmpty_eq_false_iff];exact he);have cB:=zG (HF.out (fun h=>he ((Hg.out.1 h).2 iA)));clear he;go_wp2_with fail;refine(zFo ⟨L[k].toArray⟩ wr eD).mono ?_;rintro e w6 ⟨w0,n,vx,Ws,t,rfl,-,-,-,kE,aA,dA⟩;obtain⟨va,vc,rfl,-⟩:=aA.tx (by omega);have bA:=zC w6 (.cells #[.string w0,.int .i64 n,.slice va Ws.length vc] 48);have gB:=qP.zOY w6 (.string w0) (.int .i64 n) (.slice va Ws.length vc) 48;have mA:=zG ((HR.out.zOU dA).zOU bA);have jA:=zG (zA (zA HB.out dA) bA);clear gB bA;obtain⟨⟨x0,y0⟩,⟨x1,y1⟩,⟨x2,y2⟩⟩:=mA.out;go_wp2;refine bodyPost_ret (v:=.agg #[.string ⟨#[]⟩,.int .i64 k,.int .i64 3]) (by simp[results,Tryz.results7,go_sem, *]) rfl ?_;exact⟨⟨_,_,_,rfl,Or.inr ⟨eA,cB.out⟩⟩,(((jA.out.setCell (Nat.le_refl _) _).setCell (Nat.le_refl _) _).setCell (Nat.le_refl _) _)⟩
  ·have fE:((k:Int) == (m:Int) - 1)=false:=(by simp only[beq_eq_false_iff_ne,ne_eq];omega);go_wp2_with fail;refine(zFo ⟨L[k].toArray⟩ wr eD).mono ?_;rintro e w6 ⟨w0,n,vx,Ws,t,rfl,ht,eC,fC,kE,aA,dA⟩;rw[<-zHq]at ht;have Ht:=zG ht;obtain⟨va,vc,rfl,-⟩:=aA.tx (by omega);have bA:=zC w6 (.cells #[.string w0,.int .i64 n,.slice va Ws.length vc] 48);have gB:=qP.zOY w6 (.string w0) (.int .i64 n) (.slice va Ws.length vc) 48;have mA:=zG ((HR.out.zOU dA).zOU bA);have jA:=zG (zA (zA HB.out dA) bA);by_cases cA:¬(k<60/\t=true)
   ·have cB:=zG (HF.out (fun h=>cA ⟨((Hg.out.1 h).1 (by omega)).1,Ht.out.2 ((Hg.out.1 h).1 (by omega)).2⟩));clear gB bA ht eC fC;by_cases oB:k<60
    ·have rA:¬(60:Int)<=(k:Int):=(by omega);obtain rfl:t=false:=by
      cases t
      ·rfl
      ·exact absurd ⟨oB,rfl⟩ cA
     clear cA;obtain⟨⟨x0,y0⟩,⟨x1,y1⟩,⟨x2,y2⟩⟩:=mA.out;go_wp2;refine bodyPost_ret (v:=.agg #[.string ⟨#[]⟩,.int .i64 k,.int .i64 3]) (by simp[results,Tryz.results7,go_sem, *]) rfl ?_;exact⟨⟨_,_,_,rfl,Or.inr ⟨eA,cB.out⟩⟩,(((jA.out.setCell (Nat.le_refl _) _).setCell (Nat.le_refl _) _).setCell (Nat.le_refl _) _)⟩
    ·have rA:(60:Int)<=(k:Int):=(by omega);clear cA;obtain⟨⟨x0,y0⟩,⟨x1,y1⟩,⟨x2,y2⟩⟩:=mA.out;go_wp2;refine bodyPost_ret (v:=.agg #[.string ⟨#[]⟩,.int .i64 k,.int .i64 3]) (by simp[results,Tryz.results7,go_sem, *]) rfl ?_;exact⟨⟨_,_,_,rfl,Or.inr ⟨eA,cB.out⟩⟩,(((jA.out.setCell (Nat.le_refl _) _).setCell (Nat.le_refl _) _).setCell (Nat.le_refl _) _)⟩
   ·obtain⟨oB,rfl⟩:=Classical.not_not.1 cA;have rA:¬(60:Int)<=(k:Int):=(by omega);obtain⟨rfl,rC⟩:=eC rfl;have cD:zEK (spl 32 (bs ⟨L[k].toArray⟩)):=(zHq _).1 (ht.1 rfl);have mB:=zG (ht.1 rfl);have mC:=zG (aA.zOU bA);have jC:=zG ((HT.out.zOU dA HT.out.2.2.2.1).zOU bA (by have:=HT.out.2.2.2.1;have:=dA.size;omega));have gC:=zG ((HD.out.zOU dA).zOU bA);have kC:=zG ((HU.out.zOU dA).zOU bA);have gD:gb<(w6.alloc (.cells #[.string ⟨((spl 32 (bs ⟨L[k].toArray⟩)).getD 0 []).toArray⟩,.int .i64 n,.slice va Ws.length vc] 48)).heap.size:=Nat.lt_of_lt_of_le dE (Nat.le_trans dA.size bA.size);have oD:=zG rC;have rD:=zG fC;have pD:=zG cD.1;obtain⟨⟨x0,-⟩,⟨x1,-⟩,⟨x2,-⟩⟩:=gB;have sD:D<wr.heap.size:=HD.out.lt;clear cA ht eC fC rC cD aA bA dA;go_wp2_with fail;refine(zMS D wr.heap.size (fun q=>q=gb) _ Ws _ n _ gC.out (fun q hq=>by rw[hq];exact gD) pD.out oD.out rD.out mC.out sD).mono ?_;rintro e w8 ⟨⟨d,rfl,hd⟩,oC,nA⟩;clear x0 x1 x2;have cE:¬gb=D:=(by omega);have tB:(d ++ ⟨#[10]⟩:ByteArray).size=d.size+1:=(by rw[ByteArray.size_append];rfl);have pE:gb<w8.heap.size:=Nat.lt_of_lt_of_le gD nA.size;obtain⟨g',nB,w9,vA,dC,aD,tC⟩:=zNE (d ++ ⟨#[10]⟩) 46 (zJN kC.out nA cE) nC.out.symm (by rw[tB];omega) (show D+1<=w8.heap.size by omega);have aB:=zBu aD;have eB:∀q,(fun q=>some gb=some q) q->q=gb:=fun q hq=>by injection hq with hq;exact hq.symm
    have mD:=zG ((mA.out.zOW nA (show ¬w.heap.size=D by omega)).zOW aB (fun h=>by have:=eB _ h;omega));have nD:=zG ((jC.out.zOW nA (show ¬g=D by omega)).zOW aB (fun h=>by have:=eB _ h;omega));have pB:=jA.out.trans (nA.zOU jA.out.size (fun q hq=>by have oE:q=D:=hq;omega));have iD:=zG (pB.trans (aB.zOU pB.size (fun q hq=>by have:=eB q hq;omega)));have jD:=zG ((oC.more.zOW aB (fun q hq=>Or.inl (eB q hq))).less (Q:=fun q=>q=g') (fun q hq=>by
     rcases tC with h | h
     ·exact Or.inl (hq.trans h)
     ·exact Or.inr (by rw[hq,h];exact Nat.le_refl _)))
    have lC:=zG dC;have aC:=(dC.lt g' rfl).2;have rB:D<g':=by rcases tC with h | h<;>omega
    have lD:=zG (show zBM L k from Hg.out.2 ⟨fun _=>⟨oB,mB.out⟩,fun h=>absurd h iA⟩);clear oC nA aB aD pB dC mA jC jA gC kC mC;rw[tB]at vA lC;go_wp2_with (first
     | (at_builtin;refine zEZ rfl _ _ _ _ rfl _ _ _ rfl rfl vA ?_)
     | go_in)
    go_roundw
    case rel=>
     have bC:(l ++ zCi (d ++ ⟨#[10]⟩)).length=nl+(d.size+1):=(by rw[List.length_append,zCD,tB,nC.out]);refine⟨k+1,l ++ zCi (d ++ ⟨#[10]⟩),g',nB,by omega,by go_num,by rw[bC],by rw[bC];omega,by omega,rB,aC,mD.out,nD.out,iD.out,jD.out,by rw[bC];exact lC.out,fun j hj=>?_⟩;by_cases e:j=k
     ·rw[e];exact lD.out
     ·exact kA.out j (by omega)
    case measure=>simp[intOf];omega
theorem zEo(s:ByteArray)(w:World)(cA:s.size<=1048576):Calls Tryz.prog 5 #[.string s] w fun e w'=>zLl s e/\Below w.heap.size w w':=by
 have ha:=zC w (.cells #[.string ⟨#[]⟩,.int .i64 0,.int .i64 0] 23);have hR:=qP.zOY w (.string ⟨#[]⟩) (.int .i64 0) (.int .i64 0) 23;go_enter Tryz.func5,Tryz.ntmps5;go_wp2_with fail;generalize w.alloc (.cells #[.string ⟨#[]⟩,.int .i64 0,.int .i64 0] 23)=W1 at ha hR ⊢;refine(zIa s W1 cA).mono ?_;rintro e w2 ⟨⟨v,ln,c,rfl,hF⟩,bA⟩;have HF:=zG hF;have aA:=zC w2 (.cells #[.string ⟨#[]⟩,.int .i64 ln,.int .i64 c] 23);have HB:=zG (zA (zA ha bA) aA);obtain⟨⟨x0,y0⟩,⟨x1,y1⟩,⟨x2,y2⟩⟩:=(hR.zOU bA).zOU aA;obtain⟨⟨p0,q0⟩,⟨p1,q1⟩,⟨p2,q2⟩⟩:=qP.zOY w2 (.string ⟨#[]⟩) (.int .i64 ln) (.int .i64 c) 23;clear hF ha hR bA aA;go_wp2;refine bodyPost_ret (v:=.agg #[.string ⟨#[]⟩,.int .i64 ln,.int .i64 c]) (by simp[results,Tryz.results5,go_sem, *]) rfl ?_;exact⟨⟨_,_,rfl,HF.out⟩,((HB.out.setCell (Nat.le_refl _) _).setCell (Nat.le_refl _) _).setCell (Nat.le_refl _) _⟩
theorem zGX(ln c:Int)(w:World):Calls Tryz.prog 6 #[.agg #[.string ⟨#[]⟩,.int .i64 ln,.int .i64 c],.agg #[.string ⟨#[]⟩,.int .i64 ln,.int .i64 c]] w fun e w'=>e = .returned (.bool true)/\Below w.heap.size w w':=by
 have ha:=zC w (.cells #[.string ⟨#[]⟩,.int .i64 ln,.int .i64 c] 23);have hR:=qP.zOY w (.string ⟨#[]⟩) (.int .i64 ln) (.int .i64 c) 23;have hz:(w.alloc (.cells #[.string ⟨#[]⟩,.int .i64 ln,.int .i64 c] 23)).heap.size=w.heap.size+1:=World.size_alloc _ _;have aA:=zC (w.alloc (.cells #[.string ⟨#[]⟩,.int .i64 ln,.int .i64 c] 23)) (.cells #[.string ⟨#[]⟩,.int .i64 ln,.int .i64 c] 23);have HB:=zG (zA ha aA);obtain⟨⟨x0,-⟩,⟨x1,-⟩,⟨x2,-⟩⟩:=hR.zOU aA;obtain⟨⟨p0,-⟩,⟨p1,-⟩,⟨p2,-⟩⟩:=qP.zOY (w.alloc (.cells #[.string ⟨#[]⟩,.int .i64 ln,.int .i64 c] 23)) (.string ⟨#[]⟩) (.int .i64 ln) (.int .i64 c) 23;rw[hz]at p0 p1 p2;clear ha aA hR;go_enter Tryz.func6,Tryz.ntmps6;go_wp2;go_ret;exact⟨rfl,HB.out⟩
theorem zE3(s:ByteArray)(w:World)(cA:s.size<=1048576):Calls Tryz.prog 4 #[.string s] w fun e w'=>zLl s e/\Below w.heap.size w w':=by
 have ha:=zC w (.cells #[.string ⟨#[]⟩,.int .i64 0,.int .i64 0] 23);have hR:=qP.zOY w (.string ⟨#[]⟩) (.int .i64 0) (.int .i64 0) 23;go_enter Tryz.func4,Tryz.ntmps4;go_wp2_with fail;generalize w.alloc (.cells #[.string ⟨#[]⟩,.int .i64 0,.int .i64 0] 23)=W1 at ha hR ⊢;refine(zI2 s W1 cA).mono ?_;rintro e w2 ⟨⟨t,ln,c,rfl,hF⟩,bA⟩;have HF:=zG hF;have aA:=zC w2 (.cells #[.string t,.int .i64 ln,.int .i64 c] 23);have HB:=zG (zA (zA ha bA) aA);obtain⟨⟨x0,y0⟩,⟨x1,y1⟩,⟨x2,y2⟩⟩:=(hR.zOU bA).zOU aA;obtain⟨⟨p0,q0⟩,⟨p1,q1⟩,⟨p2,q2⟩⟩:=qP.zOY w2 (.string t) (.int .i64 ln) (.int .i64 c) 23;clear hF ha hR bA aA;go_wp2;refine bodyPost_ret (v:=.agg #[.string ⟨#[]⟩,.int .i64 ln,.int .i64 c]) (by simp[results,Tryz.results4,go_sem, *]) rfl ?_;exact⟨⟨_,_,rfl,HF.out⟩,((HB.out.setCell (Nat.le_refl _) _).setCell (Nat.le_refl _) _).setCell (Nat.le_refl _) _⟩
theorem fnExactDeskFault_walk(s:ByteArray)(w:World)(hs:s.size<=maxLen):Calls Tryz.prog 3 #[.string s] w fun e w'=>e = .returned (.bool true)/\Below w.heap.size w w':=by
 unfold maxLen at hs;by_cases kA:1048576<s.size
 ·have jA:(1048576:Int)<(s.size:Int):=(by omega);go_enter Tryz.func3,Tryz.ntmps3;go_wp2;go_ret;exact⟨rfl,Below.refl _ _⟩
 have jA:¬(1048576:Int)<(s.size:Int):=by omega
 go_enter Tryz.func3,Tryz.ntmps3;go_wp2_with fail;refine(zE3 s w (by omega)).mono ?_;rintro e w2 ⟨⟨ln,c,rfl,hF⟩,fA⟩;have eA:=zC w2 (.cells #[.string ⟨#[]⟩,.int .i64 ln,.int .i64 c] 23);have hX:=qP.zOY w2 (.string ⟨#[]⟩) (.int .i64 ln) (.int .i64 c) 23;have aA:=zA fA eA;clear fA eA;go_wp2_with fail;generalize w2.alloc (.cells #[.string ⟨#[]⟩,.int .i64 ln,.int .i64 c] 23)=W2 at hX aA ⊢;refine(zEo s W2 (by omega)).mono ?_;rintro e w3 ⟨⟨lA,c',rfl,dA⟩,cA⟩;obtain⟨rfl,rfl⟩:=hF.uniq dA;have bA:=zC w3 (.cells #[.string ⟨#[]⟩,.int .i64 ln,.int .i64 c] 23);have HB:=zG (zA (zA aA cA) bA);obtain⟨⟨x0,-⟩,⟨x1,-⟩,⟨x2,-⟩⟩:=(hX.zOU cA).zOU bA;obtain⟨⟨p0,-⟩,⟨p1,-⟩,⟨p2,-⟩⟩:=qP.zOY w3 (.string ⟨#[]⟩) (.int .i64 ln) (.int .i64 c) 23;clear hF dA hX aA cA bA;go_wp2_with fail;refine(zGX ln c _).mono ?_;rintro e w4 ⟨rfl,gA⟩;have iA:=zG (zA HB.out gA);clear gA x0 x1 x2 p0 p1 p2;go_wp2;go_ret;exact⟨rfl,iA.out⟩
open Go.ChangeShapes Go.WideShapes
set_option maxRecDepth 100000
abbrev laid7:List (String×DataW Unit):=[("loop.example/g00381/impl.errForm",Rows.laid_loop_example_g00381_impl_errForm),("loop.example/g00381/impl.errSize",Rows.laid_loop_example_g00381_impl_errSize),("loop.example/g00381/impl.errNone",Rows.laid_loop_example_g00381_impl_errNone),("loop.example/g00381/impl.errThere",Rows.laid_loop_example_g00381_impl_errThere),("loop.example/g00381/impl.errFull",Rows.laid_loop_example_g00381_impl_errFull),("loop.example/g00381/impl.errState",Rows.laid_loop_example_g00381_impl_errState),("loop.example/g00381/impl.errRange",Rows.laid_loop_example_g00381_impl_errRange)]
def errN:Nat->String
 | 0=> "loop.example/g00381/impl.errForm"
 | 1=> "loop.example/g00381/impl.errSize"
 | 2=> "loop.example/g00381/impl.errNone"
 | 3=> "loop.example/g00381/impl.errThere"
 | 4=> "loop.example/g00381/impl.errFull"
 | 5=> "loop.example/g00381/impl.errState"
 | _=> "loop.example/g00381/impl.errRange"
theorem errName(i:Nat)(h:i<7):Tryz.prog.globalNamed (errN i)=some (errG i)/\(Tryz.prog.globals[errG i]?).map (·.type)=some 154:=by
 match i,h with
 | 0,_=>exact⟨by kernel_rfl,by kernel_rfl⟩
 | 1,_=>exact⟨by kernel_rfl,by kernel_rfl⟩
 | 2,_=>exact⟨by kernel_rfl,by kernel_rfl⟩
 | 3,_=>exact⟨by kernel_rfl,by kernel_rfl⟩
 | 4,_=>exact⟨by kernel_rfl,by kernel_rfl⟩
 | 5,_=>exact⟨by kernel_rfl,by kernel_rfl⟩
 | 6,_=>exact⟨by kernel_rfl,by kernel_rfl⟩
theorem errStar : "*" ++ "errors.errorString" = "*errors.errorString" :=by decide
theorem errRow(u:TypeId)(h:Tryz.prog.typeName? 3 u=some "*errors.errorString"):u=369:=
 typeName_ptr_named (nm:= "errors.errorString") (by rw[errStar];kernel_rfl) (by kernel_rfl) (by decide) u (by rw[errStar];exact h)
theorem errCells:Tryz.prog.cellsOf 392=1:=by kernel_rfl
theorem strCells:Tryz.prog.cellsOf 9=1:=by kernel_rfl
theorem errs_of_laid{W:World}(h:laidMetH Tryz.prog laid7 W):∃p:Nat->Addr,Errs W p/\∀i,i<7->W.var? Tryz.prog (errN i)=some #[errV (p i)]:=by
 rw[MakeChecks.laidMetH_plain _ _ _ (by kernel_rfl)]at h;obtain⟨ps,⟨g0,t0,cs0,f0,p0,q0,hg0,ht0,hv0,hd0,⟨g1,t1,cs1,f1,p1,q1,hg1,ht1,hv1,hd1,⟨g2,t2,cs2,f2,p2,q2,hg2,ht2,hv2,hd2,⟨g3,t3,cs3,f3,p3,q3,hg3,ht3,hv3,hd3,⟨g4,t4,cs4,f4,p4,q4,hg4,ht4,hv4,hd4,⟨g5,t5,cs5,f5,p5,q5,hg5,ht5,hv5,hd5,⟨g6,t6,cs6,f6,p6,q6,hg6,ht6,hv6,hd6,_,e6⟩,e5⟩,e4⟩,e3⟩,e2⟩,e1⟩,e0⟩,hnd,hrows⟩:=h;obtain rfl:=Option.some.inj ((errName 0 (by omega)).1.symm.trans hg0);obtain rfl:=Option.some.inj ((errName 0 (by omega)).2.symm.trans ht0);obtain rfl:=Option.some.inj ((errName 1 (by omega)).1.symm.trans hg1);obtain rfl:=Option.some.inj ((errName 1 (by omega)).2.symm.trans ht1);obtain rfl:=Option.some.inj ((errName 2 (by omega)).1.symm.trans hg2);obtain rfl:=Option.some.inj ((errName 2 (by omega)).2.symm.trans ht2);obtain rfl:=Option.some.inj ((errName 3 (by omega)).1.symm.trans hg3);obtain rfl:=Option.some.inj ((errName 3 (by omega)).2.symm.trans ht3);obtain rfl:=Option.some.inj ((errName 4 (by omega)).1.symm.trans hg4);obtain rfl:=Option.some.inj ((errName 4 (by omega)).2.symm.trans ht4);obtain rfl:=Option.some.inj ((errName 5 (by omega)).1.symm.trans hg5);obtain rfl:=Option.some.inj ((errName 5 (by omega)).2.symm.trans ht5);obtain rfl:=Option.some.inj ((errName 6 (by omega)).1.symm.trans hg6);obtain rfl:=Option.some.inj ((errName 6 (by omega)).2.symm.trans ht6);subst e6;subst e5;subst e4;subst e3;subst e2;subst e1;subst e0;obtain⟨l0⟩:=cs0;have ok0:∀u v,l0 = [.iface u v]->Value.okWide Tryz.prog W .any 0 u v:=fun u v e=>by
  subst e;exact(hrows (errG 0) 0 (by simp[MemPlace.row])).2 u v (by simpa using World.var?_cell hg0 hv0 0)
 obtain⟨a0,s0,rfl,hc0,hs0,hz0,rfl⟩:=errorString_of_trod Tryz.underlying154 errRow Tryz.underlying369 Tryz.underlying392 rfl rfl Tryz.underlying9 errCells strCells hd0 ok0;obtain⟨l1⟩:=cs1;have ok1:∀u v,l1 = [.iface u v]->Value.okWide Tryz.prog W .any 0 u v:=fun u v e=>by
  subst e;exact(hrows (errG 1) 0 (by simp[MemPlace.row])).2 u v (by simpa using World.var?_cell hg1 hv1 0)
 obtain⟨a1,s1,rfl,hc1,hs1,hz1,rfl⟩:=errorString_of_trod Tryz.underlying154 errRow Tryz.underlying369 Tryz.underlying392 rfl rfl Tryz.underlying9 errCells strCells hd1 ok1;obtain⟨l2⟩:=cs2;have ok2:∀u v,l2 = [.iface u v]->Value.okWide Tryz.prog W .any 0 u v:=fun u v e=>by
  subst e;exact(hrows (errG 2) 0 (by simp[MemPlace.row])).2 u v (by simpa using World.var?_cell hg2 hv2 0)
 obtain⟨a2,s2,rfl,hc2,hs2,hz2,rfl⟩:=errorString_of_trod Tryz.underlying154 errRow Tryz.underlying369 Tryz.underlying392 rfl rfl Tryz.underlying9 errCells strCells hd2 ok2;obtain⟨l3⟩:=cs3;have ok3:∀u v,l3 = [.iface u v]->Value.okWide Tryz.prog W .any 0 u v:=fun u v e=>by
  subst e;exact(hrows (errG 3) 0 (by simp[MemPlace.row])).2 u v (by simpa using World.var?_cell hg3 hv3 0)
 obtain⟨a3,s3,rfl,hc3,hs3,hz3,rfl⟩:=errorString_of_trod Tryz.underlying154 errRow Tryz.underlying369 Tryz.underlying392 rfl rfl Tryz.underlying9 errCells strCells hd3 ok3;obtain⟨l4⟩:=cs4;have ok4:∀u v,l4 = [.iface u v]->Value.okWide Tryz.prog W .any 0 u v:=fun u v e=>by
  subst e;exact(hrows (errG 4) 0 (by simp[MemPlace.row])).2 u v (by simpa using World.var?_cell hg4 hv4 0)
 obtain⟨a4,s4,rfl,hc4,hs4,hz4,rfl⟩:=errorString_of_trod Tryz.underlying154 errRow Tryz.underlying369 Tryz.underlying392 rfl rfl Tryz.underlying9 errCells strCells hd4 ok4;obtain⟨l5⟩:=cs5;have ok5:∀u v,l5 = [.iface u v]->Value.okWide Tryz.prog W .any 0 u v:=fun u v e=>by
  subst e;exact(hrows (errG 5) 0 (by simp[MemPlace.row])).2 u v (by simpa using World.var?_cell hg5 hv5 0)
 obtain⟨a5,s5,rfl,hc5,hs5,hz5,rfl⟩:=errorString_of_trod Tryz.underlying154 errRow Tryz.underlying369 Tryz.underlying392 rfl rfl Tryz.underlying9 errCells strCells hd5 ok5;obtain⟨l6⟩:=cs6;have ok6:∀u v,l6 = [.iface u v]->Value.okWide Tryz.prog W .any 0 u v:=fun u v e=>by
  subst e;exact(hrows (errG 6) 0 (by simp[MemPlace.row])).2 u v (by simpa using World.var?_cell hg6 hv6 0)
 obtain⟨a6,s6,rfl,hc6,hs6,hz6,rfl⟩:=errorString_of_trod Tryz.underlying154 errRow Tryz.underlying369 Tryz.underlying392 rfl rfl Tryz.underlying9 errCells strCells hd6 ok6;refine⟨fun | 0=>a0 | 1=>a1 | 2=>a2 | 3=>a3 | 4=>a4 | 5=>a5 | _=>a6,⟨fun i hi=>?_,fun i hi=>?_,fun i j hi hj hne he=>?_⟩,fun i hi=>?_⟩
 ·match i,hi with
  | 0,_=>simpa using World.var?_cell hg0 hv0 0
  | 1,_=>simpa using World.var?_cell hg1 hv1 0
  | 2,_=>simpa using World.var?_cell hg2 hv2 0
  | 3,_=>simpa using World.var?_cell hg3 hv3 0
  | 4,_=>simpa using World.var?_cell hg4 hv4 0
  | 5,_=>simpa using World.var?_cell hg5 hv5 0
  | 6,_=>simpa using World.var?_cell hg6 hv6 0
 ·match i,hi with
  | 0,_=>exact(hrows a0.block a0.off (by simp[MemPlace.row])).1
  | 1,_=>exact(hrows a1.block a1.off (by simp[MemPlace.row])).1
  | 2,_=>exact(hrows a2.block a2.off (by simp[MemPlace.row])).1
  | 3,_=>exact(hrows a3.block a3.off (by simp[MemPlace.row])).1
  | 4,_=>exact(hrows a4.block a4.off (by simp[MemPlace.row])).1
  | 5,_=>exact(hrows a5.block a5.off (by simp[MemPlace.row])).1
  | 6,_=>exact(hrows a6.block a6.off (by simp[MemPlace.row])).1
 ·simp only[MemPlace.row]at hnd
  match i,hi,j,hj with
  | 0,_,0,_=>exact absurd rfl hne
  | 0,_,1,_=>obtain rfl:a0=a1:=he;simp at hnd
  | 0,_,2,_=>obtain rfl:a0=a2:=he;simp at hnd
  | 0,_,3,_=>obtain rfl:a0=a3:=he;simp at hnd
  | 0,_,4,_=>obtain rfl:a0=a4:=he;simp at hnd
  | 0,_,5,_=>obtain rfl:a0=a5:=he;simp at hnd
  | 0,_,6,_=>obtain rfl:a0=a6:=he;simp at hnd
  | 1,_,0,_=>obtain rfl:a1=a0:=he;simp at hnd
  | 1,_,1,_=>exact absurd rfl hne
  | 1,_,2,_=>obtain rfl:a1=a2:=he;simp at hnd
  | 1,_,3,_=>obtain rfl:a1=a3:=he;simp at hnd
  | 1,_,4,_=>obtain rfl:a1=a4:=he;simp at hnd
  | 1,_,5,_=>obtain rfl:a1=a5:=he;simp at hnd
  | 1,_,6,_=>obtain rfl:a1=a6:=he;simp at hnd
  | 2,_,0,_=>obtain rfl:a2=a0:=he;simp at hnd
  | 2,_,1,_=>obtain rfl:a2=a1:=he;simp at hnd
  | 2,_,2,_=>exact absurd rfl hne
  | 2,_,3,_=>obtain rfl:a2=a3:=he;simp at hnd
  | 2,_,4,_=>obtain rfl:a2=a4:=he;simp at hnd
  | 2,_,5,_=>obtain rfl:a2=a5:=he;simp at hnd
  | 2,_,6,_=>obtain rfl:a2=a6:=he;simp at hnd
  | 3,_,0,_=>obtain rfl:a3=a0:=he;simp at hnd
  | 3,_,1,_=>obtain rfl:a3=a1:=he;simp at hnd
  | 3,_,2,_=>obtain rfl:a3=a2:=he;simp at hnd
  | 3,_,3,_=>exact absurd rfl hne
  | 3,_,4,_=>obtain rfl:a3=a4:=he;simp at hnd
  | 3,_,5,_=>obtain rfl:a3=a5:=he;simp at hnd
  | 3,_,6,_=>obtain rfl:a3=a6:=he;simp at hnd
  | 4,_,0,_=>obtain rfl:a4=a0:=he;simp at hnd
  | 4,_,1,_=>obtain rfl:a4=a1:=he;simp at hnd
  | 4,_,2,_=>obtain rfl:a4=a2:=he;simp at hnd
  | 4,_,3,_=>obtain rfl:a4=a3:=he;simp at hnd
  | 4,_,4,_=>exact absurd rfl hne
  | 4,_,5,_=>obtain rfl:a4=a5:=he;simp at hnd
  | 4,_,6,_=>obtain rfl:a4=a6:=he;simp at hnd
  | 5,_,0,_=>obtain rfl:a5=a0:=he;simp at hnd
  | 5,_,1,_=>obtain rfl:a5=a1:=he;simp at hnd
  | 5,_,2,_=>obtain rfl:a5=a2:=he;simp at hnd
  | 5,_,3,_=>obtain rfl:a5=a3:=he;simp at hnd
  | 5,_,4,_=>obtain rfl:a5=a4:=he;simp at hnd
  | 5,_,5,_=>exact absurd rfl hne
  | 5,_,6,_=>obtain rfl:a5=a6:=he;simp at hnd
  | 6,_,0,_=>obtain rfl:a6=a0:=he;simp at hnd
  | 6,_,1,_=>obtain rfl:a6=a1:=he;simp at hnd
  | 6,_,2,_=>obtain rfl:a6=a2:=he;simp at hnd
  | 6,_,3,_=>obtain rfl:a6=a3:=he;simp at hnd
  | 6,_,4,_=>obtain rfl:a6=a4:=he;simp at hnd
  | 6,_,5,_=>obtain rfl:a6=a5:=he;simp at hnd
  | 6,_,6,_=>exact absurd rfl hne
 ·match i,hi with
  | 0,_=>exact hv0
  | 1,_=>exact hv1
  | 2,_=>exact hv2
  | 3,_=>exact hv3
  | 4,_=>exact hv4
  | 5,_=>exact hv5
  | 6,_=>exact hv6
theorem var?_below{W W':World}{n:String}{cs:Array Value}(h:W.var? Tryz.prog n=some cs)(t:Below W.heap.size W W'):W'.var? Tryz.prog n=some cs:=by
 unfold World.var? at h ⊢;cases hg:Tryz.prog.globalNamed n with
 | none=>simp[hg]at h
 | some g=>
  simp only[hg,Option.bind_some]at h ⊢;have hlt:g<W.heap.size:=by
   rcases Nat.lt_or_ge g W.heap.size with h' | h'
   ·exact h'
   ·simp[Array.getElem?_eq_none h']at h
  rw[t.block g hlt];exact h
noncomputable def lowE:Nat:=(World.holding Tryz.prog default ⟨#[],#[],[]⟩).heap.size
noncomputable def laidWorld(os:Os):World:=
 let w0:=World.holding Tryz.prog os ⟨#[.cells #[.string ⟨#[105,116,32,105,115,32,110,111,116,32,114,105,103,104,116]⟩] 392,.cells #[.string ⟨#[105,116,32,105,115,32,116,111,111,32,108,111,110,103]⟩] 392,.cells #[.string ⟨#[116,104,101,114,101,32,105,115,32,110,111,110,101]⟩] 392,.cells #[.string ⟨#[116,104,101,114,101,32,105,115,32,111,110,101,32,97,108,114,101,97,100,121]⟩] 392,.cells #[.string ⟨#[116,104,101,114,101,32,105,115,32,110,111,32,114,111,111,109]⟩] 392,.cells #[.string ⟨#[105,116,32,100,111,101,115,32,110,111,116,32,115,116,97,110,100,32,115,111,32,116,104,97,116,32,116,104,105,115,32,99,97,110,32,98,101,32,100,111,110,101]⟩] 392,.cells #[.string ⟨#[105,116,32,105,115,32,111,117,116,32,111,102,32,114,97,110,103,101]⟩] 392],#[],[]⟩
 {w0 with heap:=((((((((((((((w0.heap).modify 5 fun
   | .cells _ t frozen=>.cells #[errV ⟨lowE+0,0,none⟩] t frozen
   | o=>o)).modify 4 fun
   | .cells _ t frozen=>.cells #[errV ⟨lowE+1,0,none⟩] t frozen
   | o=>o)).modify 2 fun
   | .cells _ t frozen=>.cells #[errV ⟨lowE+2,0,none⟩] t frozen
   | o=>o)).modify 0 fun
   | .cells _ t frozen=>.cells #[errV ⟨lowE+3,0,none⟩] t frozen
   | o=>o)).modify 1 fun
   | .cells _ t frozen=>.cells #[errV ⟨lowE+4,0,none⟩] t frozen
   | o=>o)).modify 3 fun
   | .cells _ t frozen=>.cells #[errV ⟨lowE+5,0,none⟩] t frozen
   | o=>o)).modify 7 fun
   | .cells _ t frozen=>.cells #[errV ⟨lowE+6,0,none⟩] t frozen
   | o=>o)}
open Go.Stop
theorem errs_readL{H:Type}(enc:TypeId×Value->H){W:World}{p:Nat->Addr}(h:∀i,i<7->W.var? Tryz.prog (errN i)=some #[errV (p i)])(sp:Nat->Bool) :
  ∀(l:List Nat),(∀i,i∈l->i<7)->DataW.TrodVars enc Tryz.prog W sp (l.map errN) (l.map fun i=>tok enc (errV (p i))) (l.map fun i=>MemPlace.cell (errG i) 0)
 | [],_=>rfl
 | i :: l,hl=>⟨errG i,154,#[errV (p i)],1,[],l.map (fun i=>MemPlace.cell (errG i) 0),(errName i (hl i (List.mem_cons_self ..))).1,(errName i (hl i (List.mem_cons_self ..))).2,h i (hl i (List.mem_cons_self ..)),trod_held Tryz.underlying154 (show IsIface (errV (p i))from trivial) 0,errs_readL enc h sp l (fun j hj=>hl j (List.mem_cons_of_mem _ hj)),rfl⟩
end Go.Proofs.YtgabgheflgjgiaaGreatDoor

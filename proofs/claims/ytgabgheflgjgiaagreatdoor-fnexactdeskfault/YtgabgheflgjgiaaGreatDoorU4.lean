/- A part of the proof. -/
import Derived.Test.YtgabgheflgjgiaaGreatDoorU3
import Derived.Deep.RegionLaw
set_option linter.unusedVariables false
set_option maxRecDepth 20000
set_option maxHeartbeats 4000000
namespace Go.Proofs.YtgabgheflgjgiaaGreatDoor
open Go.RowKit
def zGb(sh:ByteArray):Nat->Nat
 | 0=>0
 | k+1=>zGb sh k+if (sh.get! k).toNat=119 then 1 else 0
theorem zGH(sh:ByteArray):∀k,zGb sh k<=k
 | 0=>Nat.le_refl _
 | k+1=>by
  have:=zGH sh k;show zGb sh k+(if (sh.get! k).toNat=119 then 1 else 0)<=_;split<;>omega
def zAs(L:List (List UInt8))(sh:ByteArray)(j:Nat):Prop:=if (sh.get! j).toNat=119 then ¬L.getD (j+1) [] = [] else zIS ⟨(L.getD (j+1) []).toArray⟩
def zEQ(L:List (List UInt8)):Prop:=(shF ⟨(L.getD 0 []).toArray⟩).2=true/\(shF ⟨(L.getD 0 []).toArray⟩).1.size+1=L.length/\∀j,j<(shF ⟨(L.getD 0 []).toArray⟩).1.size->zAs L (shF ⟨(L.getD 0 []).toArray⟩).1 j
theorem zKx{L:List (List UInt8)}{k:Nat}(h:k<L.length):L.getD k []=L[k]:=by
 rw[List.getD_eq_getElem?_getD,List.getElem?_eq_getElem h];rfl
theorem zND(s:ByteArray):(shF s).1.size<=3:=by
 unfold shF;by_cases h:s.toList = [110,101,119]
 ·rw[if_pos h];show(_:Nat)<=_;decide
 rw[if_neg h];clear h;by_cases h:s.toList = [100,101,115,116,114,111,121]
 ·rw[if_pos h];show(_:Nat)<=_;decide
 rw[if_neg h];clear h;by_cases h:s.toList = [98,97,99,107]
 ·rw[if_pos h];show(_:Nat)<=_;decide
 rw[if_neg h];clear h;by_cases h:s.toList = [112,114,111,109,111,116,101]
 ·rw[if_pos h];show(_:Nat)<=_;decide
 rw[if_neg h];clear h;by_cases h:s.toList = [119,114,105,116,101]
 ·rw[if_pos h];show(_:Nat)<=_;decide
 rw[if_neg h];clear h;by_cases h:s.toList = [116,114,105,109]
 ·rw[if_pos h];show(_:Nat)<=_;decide
 rw[if_neg h];clear h;by_cases h:s.toList = [114,101,97,100]
 ·rw[if_pos h];show(_:Nat)<=_;decide
 rw[if_neg h];clear h;by_cases h:s.toList = [115,110,97,112]
 ·rw[if_pos h];show(_:Nat)<=_;decide
 rw[if_neg h];clear h;by_cases h:s.toList = [99,108,111,110,101]
 ·rw[if_pos h];show(_:Nat)<=_;decide
 rw[if_neg h];clear h;by_cases h:s.toList = [100,114,111,112]
 ·rw[if_pos h];show(_:Nat)<=_;decide
 rw[if_neg h];clear h;by_cases h:s.toList = [102,114,101,101]
 ·rw[if_pos h];show(_:Nat)<=_;decide
 rw[if_neg h];clear h;by_cases h:s.toList = [115,121,110,99]
 ·rw[if_pos h];show(_:Nat)<=_;decide
 rw[if_neg h];clear h;by_cases h:s.toList = [99,114,97,115,104]
 ·rw[if_pos h];show(_:Nat)<=_;decide
 rw[if_neg h];clear h;decide
def zNR(L:List (List UInt8))(w:World)(e:Ending)(w':World):Prop:=∃(w0:ByteArray) (n:Int) (v:Value) (Ws:List (List UInt8)) (b:Bool),e = .returned (.tuple #[.agg #[.string w0,.int .i64 n,v],.bool b])/\(b=true↔zEQ L)/\(b=true->w0=⟨(L.getD 0 []).toArray⟩/\Ws.length=zGb (shF w0).1 (shF w0).1.size)/\(∀x∈Ws,x.length<=100000)/\Ws.length<=3/\zBj w' w.heap.size v Ws/\Below w.heap.size w w'
theorem zFx(s:ByteArray)(w:World)(hs:s.size<=100000):Calls Tryz.prog 11 #[.string s] w (zNR (spl 32 (bs s)) w):=by
 obtain⟨i0,aD,dC⟩:=Option.map_eq_some_iff.1 zEx;simp only[Prod.mk.injEq]at dC;have HI:=zG (And.intro aD dC);clear aD dC;have ha:=zC w (.cells #[.string ⟨#[]⟩,.int .i64 0,.slice none 0 0] 48);have hR:=qP.zOt w (.string ⟨#[]⟩) (.int .i64 0) (.slice none 0 0) 48;have nD:(w.alloc (.cells #[.string ⟨#[]⟩,.int .i64 0,.slice none 0 0] 48)).heap.size=w.heap.size+1:=World.size_alloc _ _;go_enter Tryz.func11,Tryz.ntmps11;go_wp2_with fail;generalize w.alloc (.cells #[.string ⟨#[]⟩,.int .i64 0,.slice none 0 0] 48)=W1 at ha hR nD ⊢;refine(zEz s 32 W1 hs).mono ?_;rintro e w2 ⟨v,rfl,jA,lA⟩;have eB:=zGP 32 (bs s);have iA:=zFE 32 (bs s);have fA:=zGO 32 (bs s);rw[zCk]at iA fA;generalize hL:spl 32 (bs s)=L at jA eB iA fA ⊢;obtain⟨g,cap,rfl,hg,hT⟩:=jA.texts eB (by omega);have kD:=hT.2.2.2.1;have iD:=hT.2.1;have t0:w2.cell? ⟨g,0,none⟩=some (.string ⟨L[0].toArray⟩):=hT.2.2.2.2 0 eB;have HT:=zG hT;have HB:=zG (zA ha lA);have HR:=zG (hR.zOp lA);have vA:=zG fA;have pB:=zG hL;have eE:=zD HR.out.1.1;clear hT jA hL lA ha hR fA;obtain⟨m,hm⟩:∃m,m=L.length:=⟨_,rfl⟩;rw[<-hm]at HT iA iD ⊢;have Hm:=zG hm;have bE:1<=m:=by omega
 clear hm;have cB:=zC w2 (.cells #[.string ⟨L[0].toArray⟩,.int .i64 0,.slice none 0 0] 48);have hX:=qP.zOt w2 (.string ⟨L[0].toArray⟩) (.int .i64 0) (.slice none 0 0) 48;have oD:(w2.alloc (.cells #[.string ⟨L[0].toArray⟩,.int .i64 0,.slice none 0 0] 48)).heap.size=w2.heap.size+1:=World.size_alloc _ _;have t1:=(cB.cell (zD t0)).trans t0;go_wp2_with fail;clear t0 t1;have HX:=zG hX;have nA:=zG (zA HB.out cB);have lB:=zG (HR.out.zOp cB);have rB:=zG (HT.out.zOp cB kD);generalize w2.alloc (.cells #[.string ⟨L[0].toArray⟩,.int .i64 0,.slice none 0 0] 48)=W3 at oD HX nA lB rB ⊢;clear cB HB HR HT hX;refine(zIf ⟨L[0].toArray⟩ W3).mono ?_;rintro e w4 ⟨rfl,rfl⟩;have bC:=zND ⟨L[0].toArray⟩;obtain⟨⟨sh,ok⟩,oB⟩:∃x,x=shF ⟨L[0].toArray⟩:=⟨_,rfl⟩;have dD:zEQ L↔ok=true/\sh.size+1=m/\∀j,j<sh.size->zAs L sh j:=by
  unfold zEQ;rw[zKx eB,<-oB,Hm.out]
 have oC:=zG dD;have eD:=zG oB;rw[<-oB]at bC ⊢;dsimp only at bC ⊢;clear dD oB;by_cases eA:ok=false\/sh.size+1≠m
 ·obtain⟨⟨x0,y0⟩,⟨x1,y1⟩,⟨x2,y2⟩⟩:=HX.out;obtain⟨⟨p0,q0⟩,⟨p1,q1⟩,⟨p2,q2⟩⟩:=lB.out;have cD:¬zEQ L:=by
   rw[oC.out];rintro⟨h1,h2,-⟩;rcases eA with h | h
   ·rw[h1]at h;cases h
   ·exact h h2
  have nC:=zG cD;clear cD;cases ok
  case false=>
   go_wp2;refine bodyPost_ret (v:=.tuple #[.agg #[.string ⟨L[0].toArray⟩,.int .i64 0,.slice none 0 0],.bool false]) (by simp[results,Tryz.results11,go_sem, *]) rfl ?_;rw[pB.out];exact⟨_,_,_,[],false,rfl,(by simp only[Bool.false_eq_true,false_iff];exact nC.out),(fun h=>by cases h),(fun x hx=>by cases hx),Nat.zero_le _,⟨rfl,Or.inl ⟨rfl,rfl⟩⟩,((nA.out.setCell (Nat.le_refl _) _).setCell (Nat.le_refl _) _).setCell (Nat.le_refl _) _⟩
  case true=>
   have bD:((sh.size:Int) != (m:Int) - 1)=true:=by
    simp only[bne_iff_ne,ne_eq];intro h;rcases eA with h' | h'
    ·cases h'
    ·omega
   go_wp2;refine bodyPost_ret (v:=.tuple #[.agg #[.string ⟨L[0].toArray⟩,.int .i64 0,.slice none 0 0],.bool false]) (by simp[results,Tryz.results11,go_sem, *]) rfl ?_;rw[pB.out];exact⟨_,_,_,[],false,rfl,(by simp only[Bool.false_eq_true,false_iff];exact nC.out),(fun h=>by cases h),(fun x hx=>by cases hx),Nat.zero_le _,⟨rfl,Or.inl ⟨rfl,rfl⟩⟩,((nA.out.setCell (Nat.le_refl _) _).setCell (Nat.le_refl _) _).setCell (Nat.le_refl _) _⟩
 have⟨hb1,lA⟩:=not_or.1 eA;obtain rfl:ok=true:=by cases ok<;>simp_all
 have mD:sh.size+1=m:=Classical.not_not.1 lA;clear eA hb1 lA;have bD:((sh.size:Int) != (m:Int) - 1)=false:=by
  simp only[bne_eq_false_iff_eq];omega
 go_wp2;clear bD
 go_loopw [7,8] (fun vb i wr=>∃(k:Nat) (b:Bool) (n:Int) (v:Value) (Ws:List (List UInt8)),k<=sh.size/\i = .int .i64 k/\vb = .bool b/\qP wr w.heap.size (.string ⟨#[]⟩) (.int .i64 0) (.slice none 0 0)/\qP wr w2.heap.size (.string ⟨L[0].toArray⟩) (.int .i64 n) v/\Below w.heap.size w wr/\zBB wr g m cap L/\zBj wr (w2.heap.size+1) v Ws/\w2.heap.size+1<=wr.heap.size/\Ws.length=zGb sh k/\(∀x∈Ws,x.length<=100000)/\(b=true↔∀j,j<k->zAs L sh j)) (fun _ i _=>sh.size - (intOf i).toNat)
 case atStart=>exact⟨0,true,0,_,[],Nat.zero_le _,rfl,rfl,lB.out,HX.out,nA.out,rB.out,⟨rfl,Or.inl ⟨rfl,rfl⟩⟩,by omega,rfl,(fun x hx=>by cases hx),by simp⟩
 case round=>
  clear lB HX nA rB;obtain⟨k,b,n,v,Ws,hk,rfl,rfl,r1,r2,r3,r4,r5,r6,r7,r8,r9⟩:=hrel;obtain⟨va,vc,hv,-⟩:=r5.tx (by rw[r7];exact Nat.le_trans (zGH _ _) (by omega));obtain⟨vn,cC⟩:∃vn,vn=Ws.length:=⟨_,rfl⟩;rw[<-cC]at hv;subst hv;have sB:=zG cC;clear cC;have HR:=zG r1;have HX:=zG r2;have HB:=zG r3;have HT:=zG r4;have HW:=zG r5;have Hc:=zG r7;have Hw:=zG r8;have Hp:=zG r9;clear r1 r2 r3 r4 r5 r7 r8 r9;by_cases vB:k<sh.size
  ·have lD:(k:Int)<(sh.size:Int):=(by omega);have h0:(0:Int)<=(k:Int):=(by omega);have dB:k+1<L.length:=(by have:=Hm.out;omega);have t1:wr.cell? ⟨g,k+1,none⟩=some (.string ⟨L[k+1].toArray⟩):=HT.out.2.2.2.2 (k+1) dB;have rC:zAs L sh k↔if sh[k].toNat=119 then ¬L[k+1] = [] else zIS ⟨L[k+1].toArray⟩:=by
    unfold zAs;rw[zKx dB,zGj sh k vB]
   have fC:=zG rC;clear rC;by_cases hc:sh[k].toNat=119
   ·have gD:((sh[k].toNat:Int) == 119)=true:=(by rw[hc];rfl);have mC:=zG hc;clear hc;have tC:Below wr.heap.size wr wr.drew:=(Below.refl _ _).drew;have sC:=zC wr.drew (.cells #[.string ⟨L[k+1].toArray⟩] 9);have mA:Below wr.heap.size wr (wr.drew.alloc (.cells #[.string ⟨L[k+1].toArray⟩] 9)):=zA tC sC;have kB:=zG (show(wr.drew.alloc (.cells #[.string ⟨L[k+1].toArray⟩] 9)).ownsRow (w2.heap.size+1) 9 1 (.slice va vn vc) vn (Ws.map encStr)by have h:=HW.out.zOp mA;unfold zBj at h;rw[<-sB.out]at h;exact h);have HN:=zG (World.news_of_block (heap_alloc_last wr.drew (.cells #[.string ⟨L[k+1].toArray⟩] 9)));have pD:(wr.drew.alloc (.cells #[.string ⟨L[k+1].toArray⟩] 9)).heap.size=wr.heap.size+1:=World.size_alloc _ _;obtain⟨⟨x0,y0⟩,⟨x1,y1⟩,⟨x2,y2⟩⟩:=HX.out;have gE:vn<=3:=(by rw[sB.out,Hc.out];exact Nat.le_trans (zGH _ _) (by omega));have rD:=((zC wr (.cells #[.string ⟨L[k+1].toArray⟩] 9)).cell (zD x2)).trans x2;have fE:IntKind.i64.wrap ((k:Int)+1)=(k:Int)+1:=(by rw[IntKind.wrap_i64];omega);have tD:(0:Int)<=(k:Int)+1:=(by omega);have vD:(k:Int)+1<(m:Int):=(by omega);have aE:((k:Int)+1).toNat=k+1:=(by omega);go_wp2_with fail
    go_region_law (refine step_append_lies _ rfl (.tmp 46) (.tmp 52) 30 rfl (w2.heap.size+1) 9 i0 (.string ⟨#[]⟩) 1 16 (by kernel_rfl) HI.out.1 HI.out.2.1 HI.out.2.2.1 HI.out.2.2.2 rfl (by decide) (.slice va vn vc) vn (Ws.map encStr) (by simp[Act.eval]) kB.out ⟨wr.heap.size,0,none⟩ 1 1 [.string ⟨L[k+1].toArray⟩] (by simp[Act.eval]) rfl HN.out (by simp[Value.oneCell']) (by decide) (by unfold maxLen;omega) (by omega) (by show w2.heap.size+1<=(wr.alloc (.cells _ _)).heap.size;rw[World.size_alloc];omega) _ rfl ?_;intro g' aA w6 gA bA bB aC;have aB:=(HX.out.zOp mA).zOr (zBw bA) (fun h=>by have:=(kB.out.lt _ h).1;omega);obtain⟨⟨z0,u0⟩,⟨z1,u1⟩,⟨z2,u2⟩⟩:=id aB)
    all_goals
     have gB:=zBw bA;have fB:∀q,(fun q=>(Value.slice va vn vc).ownBlock=some q) q->w2.heap.size+1<=q:=fun q hq=>(kB.out.lt q hq).1
     have iB:=zE.put w6 w2.heap.size 2 (.slice (some ⟨g',0,none⟩) (vn+1) aA);have sD:w2.heap.size+1<=g':=by
      rcases bB with h | h
      ·exact fB g' h
      ·rw[h];show w2.heap.size+1<=(wr.alloc (.cells _ _)).heap.size;rw[World.size_alloc];omega
     have pA:=zG (((HR.out.zOp mA).zOr gB (fun h=>by have:=fB _ h;omega)).zOr iB (by omega));have sA:=zG (show qP (w6.setCell ⟨w2.heap.size,2,none⟩ (.slice (some ⟨g',0,none⟩) (vn+1) aA)) w2.heap.size (.string ⟨L[0].toArray⟩) (.int .i64 n) (.slice (some ⟨g',0,none⟩) (vn+1) aA)from⟨aB.1.zOq _ (Or.inr (by omega)),aB.2.1.zOq _ (Or.inr (by omega)),aB.2.2.set _⟩);have kA:=zG (((HT.out.zOp mA (by omega)).zOr gB (fun h=>by have:=fB _ h;omega)).zOr iB (by omega));have tB:=zA HB.out mA;have oA:=zG ((tB.trans (gB.zOp tB.size (fun q hq=>by have:=fB q hq;omega))).setCell (p:=⟨w2.heap.size,2,none⟩) (by show w.heap.size<=w2.heap.size;omega) (.slice (some ⟨g',0,none⟩) (vn+1) aA));have rA:=zG (zCf (show zBj w6 (w2.heap.size+1) (.slice (some ⟨g',0,none⟩) (vn+1) aA) (Ws ++ [L[k+1]])by
      unfold zBj;rw[List.length_append,List.map_append,<-sB.out];exact gA) iB (fun q hq=>by omega))
     have jB:w2.heap.size+1<=(w6.setCell ⟨w2.heap.size,2,none⟩ (.slice (some ⟨g',0,none⟩) (vn+1) aA)).heap.size:=Nat.le_trans (Nat.le_trans (show w2.heap.size+1<=(wr.alloc (.cells #[.string ⟨L[k+1].toArray⟩] 9)).heap.size by rw[World.size_alloc];omega) gB.size) iB.size;have mB:=zG (show(Ws ++ [L[k+1]]).length=zGb sh (k+1)by
      show _=zGb sh k+(if (sh.get! k).toNat=119 then 1 else 0);rw[zGj sh k vB,if_pos mC.out,List.length_append,Hc.out];rfl)
     have nB:=zG (show ∀x∈Ws ++ [L[k+1]],x.length<=100000 from fun x hx=>by
      rcases List.mem_append.1 hx with h | h
      ·exact Hw.out x h
      ·rw[List.mem_singleton.1 h];exact Nat.le_trans (vA.out _ (List.getElem_mem dB)) hs)
     clear gB fB iB tB gA bA bB aC aB z0 z1 z2 u0 u1 u2 HR HX HB HT HW kB HN x0 x1 x2 y0 y1 y2 rD tC sC mA pD t1;generalize w6.setCell ⟨w2.heap.size,2,none⟩ (.slice (some ⟨g',0,none⟩) (vn+1) aA)=w7 at pA sA kA oA rA jB ⊢;have t1:w7.cell? ⟨g,k+1,none⟩=some (.string ⟨L[k+1].toArray⟩):=kA.out.2.2.2.2 (k+1) dB;have dA:∀b t,(t=true↔¬L[k+1] = [])->(b=true↔∀j,j<k->zAs L sh j)->((b && t)=true↔∀j,j<k+1->zAs L sh j):=fun b t ht hb=>by
      rw[Bool.and_eq_true,hb,ht,<-show zAs L sh k↔¬L[k+1] = [] from fC.out.trans (by rw[if_pos mC.out])];exact⟨fun h j hj=>(Nat.lt_succ_iff_lt_or_eq.1 hj).elim (h.1 j) (fun e=>e▸h.2),fun h=>⟨fun j hj=>h j (by omega),h k (by omega)⟩⟩
     have cA:=zG dA;clear dA;by_cases he:L[k+1] = []
     ·have jD:L[k+1].isEmpty=true:=(by rw[he];rfl);have Hb:=zG (cA.out b false (by simp[he]) Hp.out);clear he;cases b
      ·go_wp2;go_roundw
       case rel=>exact⟨k+1,false,n,_,Ws ++ [L[k+1]],by omega,by go_num,rfl,pA.out,sA.out,oA.out,kA.out,rA.out,jB,mB.out,nB.out,Hb.out⟩
       case measure=>simp[intOf];omega
      ·go_wp2;go_roundw
       case rel=>exact⟨k+1,false,n,_,Ws ++ [L[k+1]],by omega,by go_num,rfl,pA.out,sA.out,oA.out,kA.out,rA.out,jB,mB.out,nB.out,Hb.out⟩
       case measure=>simp[intOf];omega
     ·have jD:L[k+1].isEmpty=false:=(by rw[List.isEmpty_eq_false_iff];exact he);have Hb:=zG (cA.out b true (by simp[he]) Hp.out);clear he;cases b
      ·go_wp2;go_roundw
       case rel=>exact⟨k+1,false,n,_,Ws ++ [L[k+1]],by omega,by go_num,rfl,pA.out,sA.out,oA.out,kA.out,rA.out,jB,mB.out,nB.out,Hb.out⟩
       case measure=>simp[intOf];omega
      ·go_wp2;go_roundw
       case rel=>exact⟨k+1,true,n,_,Ws ++ [L[k+1]],by omega,by go_num,rfl,pA.out,sA.out,oA.out,kA.out,rA.out,jB,mB.out,nB.out,Hb.out⟩
       case measure=>simp[intOf];omega
   ·have gD:((sh[k].toNat:Int) == 119)=false:=(by simp only[beq_eq_false_iff_ne,ne_eq];omega);have lC:=zG hc;clear hc;go_wp2_with fail;refine(zKI ⟨L[k+1].toArray⟩ wr (Nat.le_trans (by show L[k+1].toArray.size<=_;rw[List.size_toArray];exact vA.out _ (List.getElem_mem dB)) hs)).mono ?_;rintro e w5 ⟨⟨n',t,rfl,cE,dE,hn⟩,rfl⟩;have Hn:=zG hn;clear hn;obtain⟨⟨x0,y0⟩,⟨x1,y1⟩,⟨x2,y2⟩⟩:=HX.out;have ht:=zE.put w5 w2.heap.size 1 (.int .i64 n');have gC:=zG (HR.out.zOr ht (by omega));have kC:=zG (show qP (w5.setCell ⟨w2.heap.size,1,none⟩ (.int .i64 n')) w2.heap.size (.string ⟨L[0].toArray⟩) (.int .i64 n') (.slice va vn vc)from⟨HX.out.1.zOq _ (Or.inr (by omega)),HX.out.2.1.set _,HX.out.2.2.zOq _ (Or.inr (by omega))⟩);have eC:=zG (HB.out.setCell (p:=⟨w2.heap.size,1,none⟩) (by show w.heap.size<=w2.heap.size;omega) (.int .i64 n'));have iC:=zG (HT.out.zOr ht (by omega));have jC:=zG (zCf HW.out ht (fun q hq=>by omega));have iE:=ht.size;have vC:zGb sh (k+1)=zGb sh k:=by
     show zGb sh k+(if (sh.get! k).toNat=119 then 1 else 0)=_;rw[zGj sh k vB,if_neg lC.out,Nat.add_zero]
    have pC:zAs L sh k↔t=true:=(by rw[fC.out,if_neg lC.out,Hn.out]);have dA:∀b,(b=true↔∀j,j<k->zAs L sh j)->((b && t)=true↔∀j,j<k+1->zAs L sh j):=fun b hb=>by
     rw[Bool.and_eq_true,hb,<-pC];exact⟨fun h j hj=>(Nat.lt_succ_iff_lt_or_eq.1 hj).elim (h.1 j) (fun e=>e▸h.2),fun h=>⟨fun j hj=>h j (by omega),h k (by omega)⟩⟩
    have cA:=zG (dA b Hp.out);have tA:=zG vC;clear ht vC pC dA HR HX HB HT HW;cases b
    ·go_wp2;go_roundw
     case rel=>exact⟨k+1,false,n',.slice va vn vc,Ws,by omega,by go_num,rfl,gC.out,kC.out,eC.out,iC.out,jC.out,by omega,Hc.out.trans tA.out.symm,Hw.out,cA.out⟩
     case measure=>simp[intOf];omega
    ·go_wp2;go_roundw
     case rel=>exact⟨k+1,t,n',.slice va vn vc,Ws,by omega,by go_num,rfl,gC.out,kC.out,eC.out,iC.out,jC.out,by omega,Hc.out.trans tA.out.symm,Hw.out,cA.out⟩
     case measure=>simp[intOf];omega
  ·obtain rfl:k=sh.size:=(by omega);obtain⟨⟨x0,y0⟩,⟨x1,y1⟩,⟨x2,y2⟩⟩:=HX.out;obtain⟨⟨p0,q0⟩,⟨p1,q1⟩,⟨p2,q2⟩⟩:=HR.out;go_wp2;refine bodyPost_ret (v:=.tuple #[.agg #[.string ⟨L[0].toArray⟩,.int .i64 n,.slice va vn vc],.bool b]) (by simp[results,Tryz.results11,go_sem, *]) rfl ?_;rw[pB.out];refine⟨_,_,_,Ws,b,rfl,?_,fun hb=>⟨by rw[zKx eB],?_⟩,Hw.out,by rw[Hc.out];exact Nat.le_trans (zGH _ _) bC,?_,((HB.out.setCell (Nat.le_refl _) _).setCell (Nat.le_refl _) _).setCell (Nat.le_refl _) _⟩
   ·rw[oC.out,Hp.out];exact⟨fun h=>⟨by first | rfl | trivial,mD,h⟩,fun h=>h.2.2⟩
   ·rw[<-eD.out];exact Hc.out
   ·have ht:=((zE.put wr w.heap.size 0 (.string ⟨L[0].toArray⟩)).trans (zE.put _ w.heap.size 1 (.int .i64 n))).trans (zE.put _ w.heap.size 2 (.slice va vn vc));obtain⟨h1,h2⟩:=zCf HW.out ht (fun q hq=>by omega);refine⟨h1,h2.imp id ?_⟩;rintro⟨g,cap,fD,e1,e2,e3⟩;exact⟨g,cap,fD,e1,by omega,e3⟩
theorem toList_mk(l:List UInt8):(⟨l.toArray⟩:ByteArray).toList=l:=by rw[ByteArray.toList_eq]
def wdN:Nat->List UInt8
 | 0=>[110,101,119]
 | 1=>[119,114,105,116,101]
 | 2=>[116,114,105,109]
 | 3=>[115,110,97,112]
 | 4=>[99,108,111,110,101]
 | 5=>[100,114,111,112]
 | 6=>[100,101,115,116,114,111,121]
 | 7=>[98,97,99,107]
 | 8=>[112,114,111,109,111,116,101]
 | 9=>[114,101,97,100]
 | 10=>[102,114,101,101]
 | 11=>[115,121,110,99]
 | _=>[99,114,97,115,104]
def shN:Nat->ByteArray
 | 0=>⟨#[119]⟩
 | 1=>⟨#[119,110,119]⟩
 | 2=>⟨#[119,110]⟩
 | 3=>⟨#[119,119]⟩
 | 4=>⟨#[110,119]⟩
 | 5=>⟨#[110]⟩
 | 6=>⟨#[119]⟩
 | 7=>⟨#[119]⟩
 | 8=>⟨#[119]⟩
 | 9=>⟨#[119,110]⟩
 | 10=>⟨#[]⟩
 | 11=>⟨#[]⟩
 | _=>⟨#[]⟩
theorem zKa{s:ByteArray}{i:Nat}(hi:i<13)(h:s.toList=wdN i):shF s=(shN i,true):=by
 unfold shF;rw[h];rcases(by omega:i=0\/i=1\/i=2\/i=3\/i=4\/i=5\/i=6\/i=7\/i=8\/i=9\/i=10\/i=11\/i=12)with rfl | rfl | rfl | rfl | rfl | rfl | rfl | rfl | rfl | rfl | rfl | rfl | rfl<;>rfl
theorem zJi{s:ByteArray}(h:(shF s).2=true):∃i,i<13/\s.toList=wdN i:=by
 unfold shF at h;by_cases h0:s.toList = [110,101,119]
 ·exact⟨0,by decide,h0⟩
 rw[if_neg h0]at h;by_cases h6:s.toList = [100,101,115,116,114,111,121]
 ·exact⟨6,by decide,h6⟩
 rw[if_neg h6]at h;by_cases h7:s.toList = [98,97,99,107]
 ·exact⟨7,by decide,h7⟩
 rw[if_neg h7]at h;by_cases h8:s.toList = [112,114,111,109,111,116,101]
 ·exact⟨8,by decide,h8⟩
 rw[if_neg h8]at h;by_cases h1:s.toList = [119,114,105,116,101]
 ·exact⟨1,by decide,h1⟩
 rw[if_neg h1]at h;by_cases h2:s.toList = [116,114,105,109]
 ·exact⟨2,by decide,h2⟩
 rw[if_neg h2]at h;by_cases h9:s.toList = [114,101,97,100]
 ·exact⟨9,by decide,h9⟩
 rw[if_neg h9]at h;by_cases h3:s.toList = [115,110,97,112]
 ·exact⟨3,by decide,h3⟩
 rw[if_neg h3]at h;by_cases h4:s.toList = [99,108,111,110,101]
 ·exact⟨4,by decide,h4⟩
 rw[if_neg h4]at h;by_cases h5:s.toList = [100,114,111,112]
 ·exact⟨5,by decide,h5⟩
 rw[if_neg h5]at h;by_cases aA:s.toList = [102,114,101,101]
 ·exact⟨10,by decide,aA⟩
 rw[if_neg aA]at h;by_cases bA:s.toList = [115,121,110,99]
 ·exact⟨11,by decide,bA⟩
 rw[if_neg bA]at h;by_cases cA:s.toList = [99,114,97,115,104]
 ·exact⟨12,by decide,cA⟩
 rw[if_neg cA]at h;cases h
theorem yD(l:List UInt8):zEP ⟨#[78,65,77,69]⟩ ⟨l.toArray⟩↔¬l = []:=by
 unfold zEP;rw[if_pos (by rw[ByteArray.toList_eq]),toList_mk]
theorem zD2(l:List UInt8):zEP ⟨#[87,79,82,68]⟩ ⟨l.toArray⟩↔¬l = []:=by
 unfold zEP;rw[if_neg (by rw[ByteArray.toList_eq];decide),if_pos (by rw[ByteArray.toList_eq]),toList_mk]
theorem zEK(l:List UInt8):zEP ⟨#[78]⟩ ⟨l.toArray⟩↔zIS ⟨l.toArray⟩:=by
 unfold zEP;rw[if_neg (by rw[ByteArray.toList_eq];decide),if_neg (by rw[ByteArray.toList_eq];decide),if_pos (by rw[ByteArray.toList_eq])]
theorem qd{p:List UInt8}(h:p≠[78,65,77,69]/\p≠[87,79,82,68]/\p≠[78])(l:List UInt8):zEP ⟨p.toArray⟩ ⟨l.toArray⟩↔l=p:=by
 unfold zEP;rw[toList_mk,toList_mk,if_neg h.1,if_neg h.2.1,if_neg h.2.2]
def zCT(L:List (List UInt8))(i:Nat):Prop:=L.getD 0 []=wdN i/\(shN i).size+1=L.length/\∀j,j<(shN i).size->zAs L (shN i) j
theorem zMO(L:List (List UInt8)):zBq (spl 32 (bs (yH 0))) L↔zCT L 0:=by
 rw[show spl 32 (bs (yH 0)) = [[110,101,119],[78,65,77,69]] from by decide];by_cases hl:L.length=2
 ·obtain⟨h,a,rfl⟩:∃h a,L = [h,a]:=by
   match L,hl with
   | [h,a],_=>exact⟨h,a,rfl⟩
  constructor
  ·rintro⟨-,hp⟩;have q0:=(qd (p:=[110,101,119]) (by decide) _).1 (hp 0 (by simp) (by simp));have q1:=(yD _).1 (hp 1 (by simp) (by simp));refine⟨q0,rfl,fun j hj=>?_⟩;have aA:j<1:=hj;rcases(by omega:j=0)with rfl
   ·exact q1
  ·rintro⟨q0,-,hp⟩;refine⟨rfl,fun j hj aA=>?_⟩;have bA:j<2:=hj;rcases(by omega:j=0\/j=1)with rfl | rfl
   ·exact(qd (p:=[110,101,119]) (by decide) _).2 q0
   ·exact(yD _).2 (hp 0 (by show 0<1;decide))
 ·constructor
  ·rintro⟨h,-⟩;exact absurd h.symm hl
  ·rintro⟨-,h,-⟩;exact absurd h.symm hl
theorem zMP(L:List (List UInt8)):zBq (spl 32 (bs (yH 1))) L↔zCT L 1:=by
 rw[show spl 32 (bs (yH 1)) = [[119,114,105,116,101],[78,65,77,69],[78],[87,79,82,68]] from by decide];by_cases hl:L.length=4
 ·obtain⟨h,a,b,c,rfl⟩:∃h a b c,L = [h,a,b,c]:=by
   match L,hl with
   | [h,a,b,c],_=>exact⟨h,a,b,c,rfl⟩
  constructor
  ·rintro⟨-,hp⟩;have q0:=(qd (p:=[119,114,105,116,101]) (by decide) _).1 (hp 0 (by simp) (by simp));have q1:=(yD _).1 (hp 1 (by simp) (by simp));have q2:=(zEK _).1 (hp 2 (by simp) (by simp));have q3:=(zD2 _).1 (hp 3 (by simp) (by simp));refine⟨q0,rfl,fun j hj=>?_⟩;have aA:j<3:=hj;rcases(by omega:j=0\/j=1\/j=2)with rfl | rfl | rfl
   ·exact q1
   ·exact q2
   ·exact q3
  ·rintro⟨q0,-,hp⟩;refine⟨rfl,fun j hj aA=>?_⟩;have bA:j<4:=hj;rcases(by omega:j=0\/j=1\/j=2\/j=3)with rfl | rfl | rfl | rfl
   ·exact(qd (p:=[119,114,105,116,101]) (by decide) _).2 q0
   ·exact(yD _).2 (hp 0 (by show 0<3;decide))
   ·exact(zEK _).2 (hp 1 (by show 1<3;decide))
   ·exact(zD2 _).2 (hp 2 (by show 2<3;decide))
 ·constructor
  ·rintro⟨h,-⟩;exact absurd h.symm hl
  ·rintro⟨-,h,-⟩;exact absurd h.symm hl
theorem zMQ(L:List (List UInt8)):zBq (spl 32 (bs (yH 2))) L↔zCT L 2:=by
 rw[show spl 32 (bs (yH 2)) = [[116,114,105,109],[78,65,77,69],[78]] from by decide];by_cases hl:L.length=3
 ·obtain⟨h,a,b,rfl⟩:∃h a b,L = [h,a,b]:=by
   match L,hl with
   | [h,a,b],_=>exact⟨h,a,b,rfl⟩
  constructor
  ·rintro⟨-,hp⟩;have q0:=(qd (p:=[116,114,105,109]) (by decide) _).1 (hp 0 (by simp) (by simp));have q1:=(yD _).1 (hp 1 (by simp) (by simp));have q2:=(zEK _).1 (hp 2 (by simp) (by simp));refine⟨q0,rfl,fun j hj=>?_⟩;have aA:j<2:=hj;rcases(by omega:j=0\/j=1)with rfl | rfl
   ·exact q1
   ·exact q2
  ·rintro⟨q0,-,hp⟩;refine⟨rfl,fun j hj aA=>?_⟩;have bA:j<3:=hj;rcases(by omega:j=0\/j=1\/j=2)with rfl | rfl | rfl
   ·exact(qd (p:=[116,114,105,109]) (by decide) _).2 q0
   ·exact(yD _).2 (hp 0 (by show 0<2;decide))
   ·exact(zEK _).2 (hp 1 (by show 1<2;decide))
 ·constructor
  ·rintro⟨h,-⟩;exact absurd h.symm hl
  ·rintro⟨-,h,-⟩;exact absurd h.symm hl
theorem zMR(L:List (List UInt8)):zBq (spl 32 (bs (yH 3))) L↔zCT L 3:=by
 rw[show spl 32 (bs (yH 3)) = [[115,110,97,112],[78,65,77,69],[87,79,82,68]] from by decide];by_cases hl:L.length=3
 ·obtain⟨h,a,b,rfl⟩:∃h a b,L = [h,a,b]:=by
   match L,hl with
   | [h,a,b],_=>exact⟨h,a,b,rfl⟩
  constructor
  ·rintro⟨-,hp⟩;have q0:=(qd (p:=[115,110,97,112]) (by decide) _).1 (hp 0 (by simp) (by simp));have q1:=(yD _).1 (hp 1 (by simp) (by simp));have q2:=(zD2 _).1 (hp 2 (by simp) (by simp));refine⟨q0,rfl,fun j hj=>?_⟩;have aA:j<2:=hj;rcases(by omega:j=0\/j=1)with rfl | rfl
   ·exact q1
   ·exact q2
  ·rintro⟨q0,-,hp⟩;refine⟨rfl,fun j hj aA=>?_⟩;have bA:j<3:=hj;rcases(by omega:j=0\/j=1\/j=2)with rfl | rfl | rfl
   ·exact(qd (p:=[115,110,97,112]) (by decide) _).2 q0
   ·exact(yD _).2 (hp 0 (by show 0<2;decide))
   ·exact(zD2 _).2 (hp 1 (by show 1<2;decide))
 ·constructor
  ·rintro⟨h,-⟩;exact absurd h.symm hl
  ·rintro⟨-,h,-⟩;exact absurd h.symm hl
theorem zMS(L:List (List UInt8)):zBq (spl 32 (bs (yH 4))) L↔zCT L 4:=by
 rw[show spl 32 (bs (yH 4)) = [[99,108,111,110,101],[78],[78,65,77,69]] from by decide];by_cases hl:L.length=3
 ·obtain⟨h,a,b,rfl⟩:∃h a b,L = [h,a,b]:=by
   match L,hl with
   | [h,a,b],_=>exact⟨h,a,b,rfl⟩
  constructor
  ·rintro⟨-,hp⟩;have q0:=(qd (p:=[99,108,111,110,101]) (by decide) _).1 (hp 0 (by simp) (by simp));have q1:=(zEK _).1 (hp 1 (by simp) (by simp));have q2:=(yD _).1 (hp 2 (by simp) (by simp));refine⟨q0,rfl,fun j hj=>?_⟩;have aA:j<2:=hj;rcases(by omega:j=0\/j=1)with rfl | rfl
   ·exact q1
   ·exact q2
  ·rintro⟨q0,-,hp⟩;refine⟨rfl,fun j hj aA=>?_⟩;have bA:j<3:=hj;rcases(by omega:j=0\/j=1\/j=2)with rfl | rfl | rfl
   ·exact(qd (p:=[99,108,111,110,101]) (by decide) _).2 q0
   ·exact(zEK _).2 (hp 0 (by show 0<2;decide))
   ·exact(yD _).2 (hp 1 (by show 1<2;decide))
 ·constructor
  ·rintro⟨h,-⟩;exact absurd h.symm hl
  ·rintro⟨-,h,-⟩;exact absurd h.symm hl
theorem zMT(L:List (List UInt8)):zBq (spl 32 (bs (yH 5))) L↔zCT L 5:=by
 rw[show spl 32 (bs (yH 5)) = [[100,114,111,112],[78]] from by decide];by_cases hl:L.length=2
 ·obtain⟨h,a,rfl⟩:∃h a,L = [h,a]:=by
   match L,hl with
   | [h,a],_=>exact⟨h,a,rfl⟩
  constructor
  ·rintro⟨-,hp⟩;have q0:=(qd (p:=[100,114,111,112]) (by decide) _).1 (hp 0 (by simp) (by simp));have q1:=(zEK _).1 (hp 1 (by simp) (by simp));refine⟨q0,rfl,fun j hj=>?_⟩;have aA:j<1:=hj;rcases(by omega:j=0)with rfl
   ·exact q1
  ·rintro⟨q0,-,hp⟩;refine⟨rfl,fun j hj aA=>?_⟩;have bA:j<2:=hj;rcases(by omega:j=0\/j=1)with rfl | rfl
   ·exact(qd (p:=[100,114,111,112]) (by decide) _).2 q0
   ·exact(zEK _).2 (hp 0 (by show 0<1;decide))
 ·constructor
  ·rintro⟨h,-⟩;exact absurd h.symm hl
  ·rintro⟨-,h,-⟩;exact absurd h.symm hl
theorem zMU(L:List (List UInt8)):zBq (spl 32 (bs (yH 6))) L↔zCT L 6:=by
 rw[show spl 32 (bs (yH 6)) = [[100,101,115,116,114,111,121],[78,65,77,69]] from by decide];by_cases hl:L.length=2
 ·obtain⟨h,a,rfl⟩:∃h a,L = [h,a]:=by
   match L,hl with
   | [h,a],_=>exact⟨h,a,rfl⟩
  constructor
  ·rintro⟨-,hp⟩;have q0:=(qd (p:=[100,101,115,116,114,111,121]) (by decide) _).1 (hp 0 (by simp) (by simp));have q1:=(yD _).1 (hp 1 (by simp) (by simp));refine⟨q0,rfl,fun j hj=>?_⟩;have aA:j<1:=hj;rcases(by omega:j=0)with rfl
   ·exact q1
  ·rintro⟨q0,-,hp⟩;refine⟨rfl,fun j hj aA=>?_⟩;have bA:j<2:=hj;rcases(by omega:j=0\/j=1)with rfl | rfl
   ·exact(qd (p:=[100,101,115,116,114,111,121]) (by decide) _).2 q0
   ·exact(yD _).2 (hp 0 (by show 0<1;decide))
 ·constructor
  ·rintro⟨h,-⟩;exact absurd h.symm hl
  ·rintro⟨-,h,-⟩;exact absurd h.symm hl
theorem zMV(L:List (List UInt8)):zBq (spl 32 (bs (yH 7))) L↔zCT L 7:=by
 rw[show spl 32 (bs (yH 7)) = [[98,97,99,107],[78,65,77,69]] from by decide];by_cases hl:L.length=2
 ·obtain⟨h,a,rfl⟩:∃h a,L = [h,a]:=by
   match L,hl with
   | [h,a],_=>exact⟨h,a,rfl⟩
  constructor
  ·rintro⟨-,hp⟩;have q0:=(qd (p:=[98,97,99,107]) (by decide) _).1 (hp 0 (by simp) (by simp));have q1:=(yD _).1 (hp 1 (by simp) (by simp));refine⟨q0,rfl,fun j hj=>?_⟩;have aA:j<1:=hj;rcases(by omega:j=0)with rfl
   ·exact q1
  ·rintro⟨q0,-,hp⟩;refine⟨rfl,fun j hj aA=>?_⟩;have bA:j<2:=hj;rcases(by omega:j=0\/j=1)with rfl | rfl
   ·exact(qd (p:=[98,97,99,107]) (by decide) _).2 q0
   ·exact(yD _).2 (hp 0 (by show 0<1;decide))
 ·constructor
  ·rintro⟨h,-⟩;exact absurd h.symm hl
  ·rintro⟨-,h,-⟩;exact absurd h.symm hl
theorem zMW(L:List (List UInt8)):zBq (spl 32 (bs (yH 8))) L↔zCT L 8:=by
 rw[show spl 32 (bs (yH 8)) = [[112,114,111,109,111,116,101],[78,65,77,69]] from by decide];by_cases hl:L.length=2
 ·obtain⟨h,a,rfl⟩:∃h a,L = [h,a]:=by
   match L,hl with
   | [h,a],_=>exact⟨h,a,rfl⟩
  constructor
  ·rintro⟨-,hp⟩;have q0:=(qd (p:=[112,114,111,109,111,116,101]) (by decide) _).1 (hp 0 (by simp) (by simp));have q1:=(yD _).1 (hp 1 (by simp) (by simp));refine⟨q0,rfl,fun j hj=>?_⟩;have aA:j<1:=hj;rcases(by omega:j=0)with rfl
   ·exact q1
  ·rintro⟨q0,-,hp⟩;refine⟨rfl,fun j hj aA=>?_⟩;have bA:j<2:=hj;rcases(by omega:j=0\/j=1)with rfl | rfl
   ·exact(qd (p:=[112,114,111,109,111,116,101]) (by decide) _).2 q0
   ·exact(yD _).2 (hp 0 (by show 0<1;decide))
 ·constructor
  ·rintro⟨h,-⟩;exact absurd h.symm hl
  ·rintro⟨-,h,-⟩;exact absurd h.symm hl
theorem zMX(L:List (List UInt8)):zBq (spl 32 (bs (yH 9))) L↔zCT L 9:=by
 rw[show spl 32 (bs (yH 9)) = [[114,101,97,100],[78,65,77,69],[78]] from by decide];by_cases hl:L.length=3
 ·obtain⟨h,a,b,rfl⟩:∃h a b,L = [h,a,b]:=by
   match L,hl with
   | [h,a,b],_=>exact⟨h,a,b,rfl⟩
  constructor
  ·rintro⟨-,hp⟩;have q0:=(qd (p:=[114,101,97,100]) (by decide) _).1 (hp 0 (by simp) (by simp));have q1:=(yD _).1 (hp 1 (by simp) (by simp));have q2:=(zEK _).1 (hp 2 (by simp) (by simp));refine⟨q0,rfl,fun j hj=>?_⟩;have aA:j<2:=hj;rcases(by omega:j=0\/j=1)with rfl | rfl
   ·exact q1
   ·exact q2
  ·rintro⟨q0,-,hp⟩;refine⟨rfl,fun j hj aA=>?_⟩;have bA:j<3:=hj;rcases(by omega:j=0\/j=1\/j=2)with rfl | rfl | rfl
   ·exact(qd (p:=[114,101,97,100]) (by decide) _).2 q0
   ·exact(yD _).2 (hp 0 (by show 0<2;decide))
   ·exact(zEK _).2 (hp 1 (by show 1<2;decide))
 ·constructor
  ·rintro⟨h,-⟩;exact absurd h.symm hl
  ·rintro⟨-,h,-⟩;exact absurd h.symm hl
theorem zKu(L:List (List UInt8)):zBq (spl 32 (bs (yH 10))) L↔zCT L 10:=by
 rw[show spl 32 (bs (yH 10)) = [[102,114,101,101]] from by decide];by_cases hl:L.length=1
 ·obtain⟨h,rfl⟩:∃h,L = [h]:=by
   match L,hl with
   | [h],_=>exact⟨h,rfl⟩
  constructor
  ·rintro⟨-,hp⟩;have q0:=(qd (p:=[102,114,101,101]) (by decide) _).1 (hp 0 (by simp) (by simp));refine⟨q0,rfl,fun j hj=>?_⟩;have aA:j<0:=hj;omega
  ·rintro⟨q0,-,hp⟩;refine⟨rfl,fun j hj aA=>?_⟩;have bA:j<1:=hj;rcases(by omega:j=0)with rfl
   ·exact(qd (p:=[102,114,101,101]) (by decide) _).2 q0
 ·constructor
  ·rintro⟨h,-⟩;exact absurd h.symm hl
  ·rintro⟨-,h,-⟩;exact absurd h.symm hl
theorem zKv(L:List (List UInt8)):zBq (spl 32 (bs (yH 11))) L↔zCT L 11:=by
 rw[show spl 32 (bs (yH 11)) = [[115,121,110,99]] from by decide];by_cases hl:L.length=1
 ·obtain⟨h,rfl⟩:∃h,L = [h]:=by
   match L,hl with
   | [h],_=>exact⟨h,rfl⟩
  constructor
  ·rintro⟨-,hp⟩;have q0:=(qd (p:=[115,121,110,99]) (by decide) _).1 (hp 0 (by simp) (by simp));refine⟨q0,rfl,fun j hj=>?_⟩;have aA:j<0:=hj;omega
  ·rintro⟨q0,-,hp⟩;refine⟨rfl,fun j hj aA=>?_⟩;have bA:j<1:=hj;rcases(by omega:j=0)with rfl
   ·exact(qd (p:=[115,121,110,99]) (by decide) _).2 q0
 ·constructor
  ·rintro⟨h,-⟩;exact absurd h.symm hl
  ·rintro⟨-,h,-⟩;exact absurd h.symm hl
theorem zKw(L:List (List UInt8)):zBq (spl 32 (bs (yH 12))) L↔zCT L 12:=by
 rw[show spl 32 (bs (yH 12)) = [[99,114,97,115,104]] from by decide];by_cases hl:L.length=1
 ·obtain⟨h,rfl⟩:∃h,L = [h]:=by
   match L,hl with
   | [h],_=>exact⟨h,rfl⟩
  constructor
  ·rintro⟨-,hp⟩;have q0:=(qd (p:=[99,114,97,115,104]) (by decide) _).1 (hp 0 (by simp) (by simp));refine⟨q0,rfl,fun j hj=>?_⟩;have aA:j<0:=hj;omega
  ·rintro⟨q0,-,hp⟩;refine⟨rfl,fun j hj aA=>?_⟩;have bA:j<1:=hj;rcases(by omega:j=0)with rfl
   ·exact(qd (p:=[99,114,97,115,104]) (by decide) _).2 q0
 ·constructor
  ·rintro⟨h,-⟩;exact absurd h.symm hl
  ·rintro⟨-,h,-⟩;exact absurd h.symm hl
theorem zH2(s:ByteArray):zFI s↔zEQ (spl 32 (bs s)):=by
 generalize hL:spl 32 (bs s)=L;have key:zFI s↔∃i,i<13/\zCT L i:=by
  unfold zFI;rw[hL];constructor
  ·rintro⟨i,hi,h⟩;refine⟨i,hi,?_⟩;rcases(by omega:i=0\/i=1\/i=2\/i=3\/i=4\/i=5\/i=6\/i=7\/i=8\/i=9\/i=10\/i=11\/i=12)with rfl | rfl | rfl | rfl | rfl | rfl | rfl | rfl | rfl | rfl | rfl | rfl | rfl
   ·exact(zMO L).1 h
   ·exact(zMP L).1 h
   ·exact(zMQ L).1 h
   ·exact(zMR L).1 h
   ·exact(zMS L).1 h
   ·exact(zMT L).1 h
   ·exact(zMU L).1 h
   ·exact(zMV L).1 h
   ·exact(zMW L).1 h
   ·exact(zMX L).1 h
   ·exact(zKu L).1 h
   ·exact(zKv L).1 h
   ·exact(zKw L).1 h
  ·rintro⟨i,hi,h⟩;refine⟨i,hi,?_⟩;rcases(by omega:i=0\/i=1\/i=2\/i=3\/i=4\/i=5\/i=6\/i=7\/i=8\/i=9\/i=10\/i=11\/i=12)with rfl | rfl | rfl | rfl | rfl | rfl | rfl | rfl | rfl | rfl | rfl | rfl | rfl
   ·exact(zMO L).2 h
   ·exact(zMP L).2 h
   ·exact(zMQ L).2 h
   ·exact(zMR L).2 h
   ·exact(zMS L).2 h
   ·exact(zMT L).2 h
   ·exact(zMU L).2 h
   ·exact(zMV L).2 h
   ·exact(zMW L).2 h
   ·exact(zMX L).2 h
   ·exact(zKu L).2 h
   ·exact(zKv L).2 h
   ·exact(zKw L).2 h
 rw[key];constructor
 ·rintro⟨i,hi,h1,h2,h3⟩;have e:=zKa (s:=⟨(L.getD 0 []).toArray⟩) hi (by rw[toList_mk];exact h1);unfold zEQ;rw[e];exact⟨rfl,h2,h3⟩
 ·rintro⟨h1,h2,h3⟩;obtain⟨i,hi,hw⟩:=zJi h1;have e:=zKa hi hw;rw[toList_mk]at hw;rw[e]at h2 h3;exact⟨i,hi,hw,h2,h3⟩
end Go.Proofs.YtgabgheflgjgiaaGreatDoor

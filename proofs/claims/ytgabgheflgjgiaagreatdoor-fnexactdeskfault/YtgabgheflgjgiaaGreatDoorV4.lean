/- A part of the proof. -/
import Derived.Test.YtgabgheflgjgiaaGreatDoorV3
import Derived.Deep.RegionLaw
set_option linter.unusedVariables false
set_option maxRecDepth 20000
set_option maxHeartbeats 4000000
namespace Go.Proofs.YtgabgheflgjgiaaGreatDoor
open Go.RowKit
def zGQ(sh:ByteArray):Nat->Nat
 | 0=>0
 | k+1=>zGQ sh k+if (sh.get! k).toNat=119 then 1 else 0
theorem zF6(sh:ByteArray):∀k,zGQ sh k<=k
 | 0=>Nat.le_refl _
 | k+1=>by
  have:=zF6 sh k;show zGQ sh k+(if (sh.get! k).toNat=119 then 1 else 0)<=_;split<;>omega
def zAr(L:List (List UInt8))(sh:ByteArray)(j:Nat):Prop:=if (sh.get! j).toNat=119 then ¬L.getD (j+1) [] = [] else zIG ⟨(L.getD (j+1) []).toArray⟩
def zEK(L:List (List UInt8)):Prop:=(shF ⟨(L.getD 0 []).toArray⟩).2=true/\(shF ⟨(L.getD 0 []).toArray⟩).1.size+1=L.length/\∀j,j<(shF ⟨(L.getD 0 []).toArray⟩).1.size->zAr L (shF ⟨(L.getD 0 []).toArray⟩).1 j
theorem zKh{L:List (List UInt8)}{k:Nat}(h:k<L.length):L.getD k []=L[k]:=by
 rw[List.getD_eq_getElem?_getD,List.getElem?_eq_getElem h];rfl
theorem zMv(s:ByteArray):(shF s).1.size<=3:=by
 unfold shF;by_cases h:s.toList = [110,101,119]
 ·rw[if_pos h];show(_:Nat)<=_;decide
 rw[if_neg h];clear h;by_cases h:s.toList = [100,101,115,116,114,111,121]
 ·rw[if_pos h];show(_:Nat)<=_;decide
 rw[if_neg h];clear h;by_cases h:s.toList = [98,97,99,107]
 ·rw[if_pos h];show(_:Nat)<=_;decide
 rw[if_neg h];clear h;by_cases h:s.toList = [112,114,111,109,111,116,101]
 ·rw[if_pos h];show(_:Nat)<=_;decide
 rw[if_neg h];clear h;by_cases h:s.toList = [119,114,105,116,101]
 ·rw[if_pos h];show(_:Nat)<=_;decide
 rw[if_neg h];clear h;by_cases h:s.toList = [116,114,105,109]
 ·rw[if_pos h];show(_:Nat)<=_;decide
 rw[if_neg h];clear h;by_cases h:s.toList = [114,101,97,100]
 ·rw[if_pos h];show(_:Nat)<=_;decide
 rw[if_neg h];clear h;by_cases h:s.toList = [115,110,97,112]
 ·rw[if_pos h];show(_:Nat)<=_;decide
 rw[if_neg h];clear h;by_cases h:s.toList = [99,108,111,110,101]
 ·rw[if_pos h];show(_:Nat)<=_;decide
 rw[if_neg h];clear h;by_cases h:s.toList = [100,114,111,112]
 ·rw[if_pos h];show(_:Nat)<=_;decide
 rw[if_neg h];clear h;by_cases h:s.toList = [102,114,101,101]
 ·rw[if_pos h];show(_:Nat)<=_;decide
 rw[if_neg h];clear h;by_cases h:s.toList = [115,121,110,99]
 ·rw[if_pos h];show(_:Nat)<=_;decide
 rw[if_neg h];clear h;by_cases h:s.toList = [99,114,97,115,104]
 ·rw[if_pos h];show(_:Nat)<=_;decide
 rw[if_neg h];clear h;decide
def zM9(L:List (List UInt8))(w:World)(e:Ending)(w':World):Prop:=∃(w0:ByteArray) (n:Int) (v:Value) (Ws:List (List UInt8)) (b:Bool),e = .returned (.tuple #[.agg #[.string w0,.int .i64 n,v],.bool b])/\(b=true↔zEK L)/\(b=true->w0=⟨(L.getD 0 []).toArray⟩/\Ws.length=zGQ (shF w0).1 (shF w0).1.size)/\(∀x∈Ws,x.length<=100000)/\Ws.length<=3/\zBh w' w.heap.size v Ws/\Below w.heap.size w w'
theorem zFo(s:ByteArray)(w:World)(hs:s.size<=100000):Calls Tryz.prog 11 #[.string s] w (zM9 (spl 32 (bs s)) w):=by
 obtain⟨i0,pC,tB⟩:=Option.map_eq_some_iff.1 zEp;simp only[Prod.mk.injEq]at tB;have HI:=zG (And.intro pC tB);clear pC tB;have ha:=zC w (.cells #[.string ⟨#[]⟩,.int .i64 0,.slice none 0 0] 48);have hR:=qP.zOY w (.string ⟨#[]⟩) (.int .i64 0) (.slice none 0 0) 48;have hz1:(w.alloc (.cells #[.string ⟨#[]⟩,.int .i64 0,.slice none 0 0] 48)).heap.size=w.heap.size+1:=World.size_alloc _ _;go_enter Tryz.func11,Tryz.ntmps11;go_wp2_with fail;generalize w.alloc (.cells #[.string ⟨#[]⟩,.int .i64 0,.slice none 0 0] 48)=W1 at ha hR hz1 ⊢;refine(zEr s 32 W1 hs).mono ?_;rintro e w2 ⟨v,rfl,iA,kA⟩;have dB:=zGE 32 (bs s);have gA:=zE6 32 (bs s);have eA:=zGD 32 (bs s);rw[zCh]at gA eA;generalize hL:spl 32 (bs s)=L at iA dB gA eA ⊢;obtain⟨g,cap,rfl,hg,hT⟩:=iA.texts dB (by omega);have dD:=hT.2.2.2.1;have bD:=hT.2.1;have t0:w2.cell? ⟨g,0,none⟩=some (.string ⟨L[0].toArray⟩):=hT.2.2.2.2 0 dB;have HT:=zG hT;have HB:=zG (zA ha kA);have HR:=zG (hR.zOU kA);have tA:=zG eA;have lB:=zG hL;have pD:=zD HR.out.1.1;clear hT iA hL kA ha hR eA;obtain⟨m,hm⟩:∃m,m=L.length:=⟨_,rfl⟩;rw[<-hm]at HT gA bD ⊢;have Hm:=zG hm;have mD:1<=m:=by omega
 clear hm;have bB:=zC w2 (.cells #[.string ⟨L[0].toArray⟩,.int .i64 0,.slice none 0 0] 48);have hX:=qP.zOY w2 (.string ⟨L[0].toArray⟩) (.int .i64 0) (.slice none 0 0) 48;have hz3:(w2.alloc (.cells #[.string ⟨L[0].toArray⟩,.int .i64 0,.slice none 0 0] 48)).heap.size=w2.heap.size+1:=World.size_alloc _ _;have t1:=(bB.cell (zD t0)).trans t0;go_wp2_with fail;clear t0 t1;have HX:=zG hX;have mA:=zG (zA HB.out bB);have gB:=zG (HR.out.zOU bB);have mB:=zG (HT.out.zOU bB dD);generalize w2.alloc (.cells #[.string ⟨L[0].toArray⟩,.int .i64 0,.slice none 0 0] 48)=W3 at hz3 HX mA gB mB ⊢;clear bB HB HR HT hX;refine(zIS ⟨L[0].toArray⟩ W3).mono ?_;rintro e w4 ⟨rfl,rfl⟩;have rB:=zMv ⟨L[0].toArray⟩;obtain⟨⟨sh,ok⟩,kB⟩:∃x,x=shF ⟨L[0].toArray⟩:=⟨_,rfl⟩;have sC:zEK L↔ok=true/\sh.size+1=m/\∀j,j<sh.size->zAr L sh j:=by
  unfold zEK;rw[zKh dB,<-kB,Hm.out]
 have jC:=zG sC;have tC:=zG kB;rw[<-kB]at rB ⊢;dsimp only at rB ⊢;clear sC kB;by_cases dA:ok=false\/sh.size+1≠m
 ·obtain⟨⟨x0,y0⟩,⟨x1,y1⟩,⟨x2,y2⟩⟩:=HX.out;obtain⟨⟨p0,q0⟩,⟨p1,q1⟩,⟨p2,q2⟩⟩:=gB.out;have rC:¬zEK L:=by
   rw[jC.out];rintro⟨h1,h2,-⟩;rcases dA with h | h
   ·rw[h1]at h;cases h
   ·exact h h2
  have iC:=zG rC;clear rC;cases ok
  case false=>
   go_wp2;refine bodyPost_ret (v:=.tuple #[.agg #[.string ⟨L[0].toArray⟩,.int .i64 0,.slice none 0 0],.bool false]) (by simp[results,Tryz.results11,go_sem, *]) rfl ?_;rw[lB.out];exact⟨_,_,_,[],false,rfl,(by simp only[Bool.false_eq_true,false_iff];exact iC.out),(fun h=>by cases h),(fun x hx=>by cases hx),Nat.zero_le _,⟨rfl,Or.inl ⟨rfl,rfl⟩⟩,((mA.out.setCell (Nat.le_refl _) _).setCell (Nat.le_refl _) _).setCell (Nat.le_refl _) _⟩
  case true=>
   have hne:((sh.size:Int) != (m:Int) - 1)=true:=by
    simp only[bne_iff_ne,ne_eq];intro h;rcases dA with h' | h'
    ·cases h'
    ·omega
   go_wp2;refine bodyPost_ret (v:=.tuple #[.agg #[.string ⟨L[0].toArray⟩,.int .i64 0,.slice none 0 0],.bool false]) (by simp[results,Tryz.results11,go_sem, *]) rfl ?_;rw[lB.out];exact⟨_,_,_,[],false,rfl,(by simp only[Bool.false_eq_true,false_iff];exact iC.out),(fun h=>by cases h),(fun x hx=>by cases hx),Nat.zero_le _,⟨rfl,Or.inl ⟨rfl,rfl⟩⟩,((mA.out.setCell (Nat.le_refl _) _).setCell (Nat.le_refl _) _).setCell (Nat.le_refl _) _⟩
 have⟨hb1,kA⟩:=not_or.1 dA;obtain rfl:ok=true:=by cases ok<;>simp_all
 have fD:sh.size+1=m:=Classical.not_not.1 kA;clear dA hb1 kA;have hne:((sh.size:Int) != (m:Int) - 1)=false:=by
  simp only[bne_eq_false_iff_eq];omega
 go_wp2;clear hne
 go_loopw [7,8] (fun vb i wr=>∃(k:Nat) (b:Bool) (n:Int) (v:Value) (Ws:List (List UInt8)),k<=sh.size/\i = .int .i64 k/\vb = .bool b/\qP wr w.heap.size (.string ⟨#[]⟩) (.int .i64 0) (.slice none 0 0)/\qP wr w2.heap.size (.string ⟨L[0].toArray⟩) (.int .i64 n) v/\Below w.heap.size w wr/\zBA wr g m cap L/\zBh wr (w2.heap.size+1) v Ws/\w2.heap.size+1<=wr.heap.size/\Ws.length=zGQ sh k/\(∀x∈Ws,x.length<=100000)/\(b=true↔∀j,j<k->zAr L sh j)) (fun _ i _=>sh.size - (intOf i).toNat)
 case atStart=>exact⟨0,true,0,_,[],Nat.zero_le _,rfl,rfl,gB.out,HX.out,mA.out,mB.out,⟨rfl,Or.inl ⟨rfl,rfl⟩⟩,by omega,rfl,(fun x hx=>by cases hx),by simp⟩
 case round=>
  clear gB HX mA mB;obtain⟨k,b,n,v,Ws,hk,rfl,rfl,r1,r2,r3,r4,r5,r6,r7,r8,r9⟩:=hrel;obtain⟨va,vc,hv,-⟩:=r5.tx (by rw[r7];exact Nat.le_trans (zF6 _ _) (by omega));obtain⟨vn,sB⟩:∃vn,vn=Ws.length:=⟨_,rfl⟩;rw[<-sB]at hv;subst hv;have nB:=zG sB;clear sB;have HR:=zG r1;have HX:=zG r2;have HB:=zG r3;have HT:=zG r4;have HW:=zG r5;have Hc:=zG r7;have Hw:=zG r8;have Hp:=zG r9;clear r1 r2 r3 r4 r5 r7 r8 r9;by_cases hlt:k<sh.size
  ·have eD:(k:Int)<(sh.size:Int):=(by omega);have h0:(0:Int)<=(k:Int):=(by omega);have cB:k+1<L.length:=(by have:=Hm.out;omega);have t1:wr.cell? ⟨g,k+1,none⟩=some (.string ⟨L[k+1].toArray⟩):=HT.out.2.2.2.2 (k+1) cB;have lC:zAr L sh k↔if sh[k].toNat=119 then ¬L[k+1] = [] else zIG ⟨L[k+1].toArray⟩:=by
    unfold zAr;rw[zKh cB,zGY sh k hlt]
   have aC:=zG lC;clear lC;by_cases hc:sh[k].toNat=119
   ·have aD:((sh[k].toNat:Int) == 119)=true:=(by rw[hc];rfl);have gC:=zG hc;clear hc;have nC:Below wr.heap.size wr wr.drew:=(Below.refl _ _).drew;have mC:=zC wr.drew (.cells #[.string ⟨L[k+1].toArray⟩] 9);have lA:Below wr.heap.size wr (wr.drew.alloc (.cells #[.string ⟨L[k+1].toArray⟩] 9)):=zA nC mC;have fB:=zG (show(wr.drew.alloc (.cells #[.string ⟨L[k+1].toArray⟩] 9)).ownsRow (w2.heap.size+1) 9 1 (.slice va vn vc) vn (Ws.map encStr)by have h:=HW.out.zOU lA;unfold zBh at h;rw[<-nB.out]at h;exact h);have HN:=zG (World.news_of_block (heap_alloc_last wr.drew (.cells #[.string ⟨L[k+1].toArray⟩] 9)));have hz5:(wr.drew.alloc (.cells #[.string ⟨L[k+1].toArray⟩] 9)).heap.size=wr.heap.size+1:=World.size_alloc _ _;obtain⟨⟨x0,y0⟩,⟨x1,y1⟩,⟨x2,y2⟩⟩:=HX.out;have sD:vn<=3:=(by rw[nB.out,Hc.out];exact Nat.le_trans (zF6 _ _) (by omega));have gD:=((zC wr (.cells #[.string ⟨L[k+1].toArray⟩] 9)).cell (zD x2)).trans x2;have rD:IntKind.i64.wrap ((k:Int)+1)=(k:Int)+1:=(by rw[IntKind.wrap_i64];omega);have jD:(0:Int)<=(k:Int)+1:=(by omega);have kD:(k:Int)+1<(m:Int):=(by omega);have lD:((k:Int)+1).toNat=k+1:=(by omega);go_wp2_with fail
    go_region_law (refine step_append_lies _ rfl (.tmp 46) (.tmp 52) 30 rfl (w2.heap.size+1) 9 i0 (.string ⟨#[]⟩) 1 16 (by kernel_rfl) HI.out.1 HI.out.2.1 HI.out.2.2.1 HI.out.2.2.2 rfl (by decide) (.slice va vn vc) vn (Ws.map encStr) (by simp[Act.eval]) fB.out ⟨wr.heap.size,0,none⟩ 1 1 [.string ⟨L[k+1].toArray⟩] (by simp[Act.eval]) rfl HN.out (by simp[Value.oneCell']) (by decide) (by unfold maxLen;omega) (by omega) (by show w2.heap.size+1<=(wr.alloc (.cells _ _)).heap.size;rw[World.size_alloc];omega) _ rfl ?_;intro g' aA w6 fA bA aB pB;have vA:=(HX.out.zOU lA).zOW (zBu bA) (fun h=>by have:=(fB.out.lt _ h).1;omega);obtain⟨⟨z0,u0⟩,⟨z1,u1⟩,⟨z2,u2⟩⟩:=id vA)
    all_goals
     have ht6:=zBu bA;have hs6:∀q,(fun q=>(Value.slice va vn vc).ownBlock=some q) q->w2.heap.size+1<=q:=fun q hq=>(fB.out.lt q hq).1
     have eB:=zE.put w6 w2.heap.size 2 (.slice (some ⟨g',0,none⟩) (vn+1) aA);have iD:w2.heap.size+1<=g':=by
      rcases aB with h | h
      ·exact hs6 g' h
      ·rw[h];show w2.heap.size+1<=(wr.alloc (.cells _ _)).heap.size;rw[World.size_alloc];omega
     have oA:=zG (((HR.out.zOU lA).zOW ht6 (fun h=>by have:=hs6 _ h;omega)).zOW eB (by omega));have rA:=zG (show qP (w6.setCell ⟨w2.heap.size,2,none⟩ (.slice (some ⟨g',0,none⟩) (vn+1) aA)) w2.heap.size (.string ⟨L[0].toArray⟩) (.int .i64 n) (.slice (some ⟨g',0,none⟩) (vn+1) aA)from⟨vA.1.zOV _ (Or.inr (by omega)),vA.2.1.zOV _ (Or.inr (by omega)),vA.2.2.set _⟩);have jA:=zG (((HT.out.zOU lA (by omega)).zOW ht6 (fun h=>by have:=hs6 _ h;omega)).zOW eB (by omega));have oB:=zA HB.out lA;have nA:=zG ((oB.trans (ht6.zOU oB.size (fun q hq=>by have:=hs6 q hq;omega))).setCell (p:=⟨w2.heap.size,2,none⟩) (by show w.heap.size<=w2.heap.size;omega) (.slice (some ⟨g',0,none⟩) (vn+1) aA));have pA:=zG (zCc (show zBh w6 (w2.heap.size+1) (.slice (some ⟨g',0,none⟩) (vn+1) aA) (Ws ++ [L[k+1]])by
      unfold zBh;rw[List.length_append,List.map_append,<-nB.out];exact fA) eB (fun q hq=>by omega))
     have hz6:w2.heap.size+1<=(w6.setCell ⟨w2.heap.size,2,none⟩ (.slice (some ⟨g',0,none⟩) (vn+1) aA)).heap.size:=Nat.le_trans (Nat.le_trans (show w2.heap.size+1<=(wr.alloc (.cells #[.string ⟨L[k+1].toArray⟩] 9)).heap.size by rw[World.size_alloc];omega) ht6.size) eB.size;have iB:=zG (show(Ws ++ [L[k+1]]).length=zGQ sh (k+1)by
      show _=zGQ sh k+(if (sh.get! k).toNat=119 then 1 else 0);rw[zGY sh k hlt,if_pos gC.out,List.length_append,Hc.out];rfl)
     have jB:=zG (show ∀x∈Ws ++ [L[k+1]],x.length<=100000 from fun x hx=>by
      rcases List.mem_append.1 hx with h | h
      ·exact Hw.out x h
      ·rw[List.mem_singleton.1 h];exact Nat.le_trans (tA.out _ (List.getElem_mem cB)) hs)
     clear ht6 hs6 eB oB fA bA aB pB vA z0 z1 z2 u0 u1 u2 HR HX HB HT HW fB HN x0 x1 x2 y0 y1 y2 gD nC mC lA hz5 t1;generalize w6.setCell ⟨w2.heap.size,2,none⟩ (.slice (some ⟨g',0,none⟩) (vn+1) aA)=w7 at oA rA jA nA pA hz6 ⊢;have t1:w7.cell? ⟨g,k+1,none⟩=some (.string ⟨L[k+1].toArray⟩):=jA.out.2.2.2.2 (k+1) cB;have hall:∀b t,(t=true↔¬L[k+1] = [])->(b=true↔∀j,j<k->zAr L sh j)->((b && t)=true↔∀j,j<k+1->zAr L sh j):=fun b t ht hb=>by
      rw[Bool.and_eq_true,hb,ht,<-show zAr L sh k↔¬L[k+1] = [] from aC.out.trans (by rw[if_pos gC.out])];exact⟨fun h j hj=>(Nat.lt_succ_iff_lt_or_eq.1 hj).elim (h.1 j) (fun e=>e▸h.2),fun h=>⟨fun j hj=>h j (by omega),h k (by omega)⟩⟩
     have cA:=zG hall;clear hall;by_cases he:L[k+1] = []
     ·have cD:L[k+1].isEmpty=true:=(by rw[he];rfl);have Hb:=zG (cA.out b false (by simp[he]) Hp.out);clear he;cases b
      ·go_wp2;go_roundw
       case rel=>exact⟨k+1,false,n,_,Ws ++ [L[k+1]],by omega,by go_num,rfl,oA.out,rA.out,nA.out,jA.out,pA.out,hz6,iB.out,jB.out,Hb.out⟩
       case measure=>simp[intOf];omega
      ·go_wp2;go_roundw
       case rel=>exact⟨k+1,false,n,_,Ws ++ [L[k+1]],by omega,by go_num,rfl,oA.out,rA.out,nA.out,jA.out,pA.out,hz6,iB.out,jB.out,Hb.out⟩
       case measure=>simp[intOf];omega
     ·have cD:L[k+1].isEmpty=false:=(by rw[List.isEmpty_eq_false_iff];exact he);have Hb:=zG (cA.out b true (by simp[he]) Hp.out);clear he;cases b
      ·go_wp2;go_roundw
       case rel=>exact⟨k+1,false,n,_,Ws ++ [L[k+1]],by omega,by go_num,rfl,oA.out,rA.out,nA.out,jA.out,pA.out,hz6,iB.out,jB.out,Hb.out⟩
       case measure=>simp[intOf];omega
      ·go_wp2;go_roundw
       case rel=>exact⟨k+1,true,n,_,Ws ++ [L[k+1]],by omega,by go_num,rfl,oA.out,rA.out,nA.out,jA.out,pA.out,hz6,iB.out,jB.out,Hb.out⟩
       case measure=>simp[intOf];omega
   ·have aD:((sh[k].toNat:Int) == 119)=false:=(by simp only[beq_eq_false_iff_ne,ne_eq];omega);have fC:=zG hc;clear hc;go_wp2_with fail;refine(zJ5 ⟨L[k+1].toArray⟩ wr (Nat.le_trans (by show L[k+1].toArray.size<=_;rw[List.size_toArray];exact tA.out _ (List.getElem_mem cB)) hs)).mono ?_;rintro e w5 ⟨⟨n',t,rfl,nD,oD,hn⟩,rfl⟩;have Hn:=zG hn;clear hn;obtain⟨⟨x0,y0⟩,⟨x1,y1⟩,⟨x2,y2⟩⟩:=HX.out;have ht:=zE.put w5 w2.heap.size 1 (.int .i64 n');have bC:=zG (HR.out.zOW ht (by omega));have eC:=zG (show qP (w5.setCell ⟨w2.heap.size,1,none⟩ (.int .i64 n')) w2.heap.size (.string ⟨L[0].toArray⟩) (.int .i64 n') (.slice va vn vc)from⟨HX.out.1.zOV _ (Or.inr (by omega)),HX.out.2.1.set _,HX.out.2.2.zOV _ (Or.inr (by omega))⟩);have vB:=zG (HB.out.setCell (p:=⟨w2.heap.size,1,none⟩) (by show w.heap.size<=w2.heap.size;omega) (.int .i64 n'));have cC:=zG (HT.out.zOW ht (by omega));have dC:=zG (zCc HW.out ht (fun q hq=>by omega));have tD:=ht.size;have oC:zGQ sh (k+1)=zGQ sh k:=by
     show zGQ sh k+(if (sh.get! k).toNat=119 then 1 else 0)=_;rw[zGY sh k hlt,if_neg fC.out,Nat.add_zero]
    have kC:zAr L sh k↔t=true:=(by rw[aC.out,if_neg fC.out,Hn.out]);have hall:∀b,(b=true↔∀j,j<k->zAr L sh j)->((b && t)=true↔∀j,j<k+1->zAr L sh j):=fun b hb=>by
     rw[Bool.and_eq_true,hb,<-kC];exact⟨fun h j hj=>(Nat.lt_succ_iff_lt_or_eq.1 hj).elim (h.1 j) (fun e=>e▸h.2),fun h=>⟨fun j hj=>h j (by omega),h k (by omega)⟩⟩
    have cA:=zG (hall b Hp.out);have sA:=zG oC;clear ht oC kC hall HR HX HB HT HW;cases b
    ·go_wp2;go_roundw
     case rel=>exact⟨k+1,false,n',.slice va vn vc,Ws,by omega,by go_num,rfl,bC.out,eC.out,vB.out,cC.out,dC.out,by omega,Hc.out.trans sA.out.symm,Hw.out,cA.out⟩
     case measure=>simp[intOf];omega
    ·go_wp2;go_roundw
     case rel=>exact⟨k+1,t,n',.slice va vn vc,Ws,by omega,by go_num,rfl,bC.out,eC.out,vB.out,cC.out,dC.out,by omega,Hc.out.trans sA.out.symm,Hw.out,cA.out⟩
     case measure=>simp[intOf];omega
  ·obtain rfl:k=sh.size:=(by omega);obtain⟨⟨x0,y0⟩,⟨x1,y1⟩,⟨x2,y2⟩⟩:=HX.out;obtain⟨⟨p0,q0⟩,⟨p1,q1⟩,⟨p2,q2⟩⟩:=HR.out;go_wp2;refine bodyPost_ret (v:=.tuple #[.agg #[.string ⟨L[0].toArray⟩,.int .i64 n,.slice va vn vc],.bool b]) (by simp[results,Tryz.results11,go_sem, *]) rfl ?_;rw[lB.out];refine⟨_,_,_,Ws,b,rfl,?_,fun hb=>⟨by rw[zKh dB],?_⟩,Hw.out,by rw[Hc.out];exact Nat.le_trans (zF6 _ _) rB,?_,((HB.out.setCell (Nat.le_refl _) _).setCell (Nat.le_refl _) _).setCell (Nat.le_refl _) _⟩
   ·rw[jC.out,Hp.out];exact⟨fun h=>⟨by first | rfl | trivial,fD,h⟩,fun h=>h.2.2⟩
   ·rw[<-tC.out];exact Hc.out
   ·have ht:=((zE.put wr w.heap.size 0 (.string ⟨L[0].toArray⟩)).trans (zE.put _ w.heap.size 1 (.int .i64 n))).trans (zE.put _ w.heap.size 2 (.slice va vn vc));obtain⟨h1,h2⟩:=zCc HW.out ht (fun q hq=>by omega);refine⟨h1,h2.imp id ?_⟩;rintro⟨g,cap,vC,e1,e2,e3⟩;exact⟨g,cap,vC,e1,by omega,e3⟩
theorem toList_mk(l:List UInt8):(⟨l.toArray⟩:ByteArray).toList=l:=by rw[ByteArray.toList_eq]
def wdN:Nat->List UInt8
 | 0=>[110,101,119]
 | 1=>[119,114,105,116,101]
 | 2=>[116,114,105,109]
 | 3=>[115,110,97,112]
 | 4=>[99,108,111,110,101]
 | 5=>[100,114,111,112]
 | 6=>[100,101,115,116,114,111,121]
 | 7=>[98,97,99,107]
 | 8=>[112,114,111,109,111,116,101]
 | 9=>[114,101,97,100]
 | 10=>[102,114,101,101]
 | 11=>[115,121,110,99]
 | _=>[99,114,97,115,104]
def shN:Nat->ByteArray
 | 0=>⟨#[119]⟩
 | 1=>⟨#[119,110,119]⟩
 | 2=>⟨#[119,110]⟩
 | 3=>⟨#[119,119]⟩
 | 4=>⟨#[110,119]⟩
 | 5=>⟨#[110]⟩
 | 6=>⟨#[119]⟩
 | 7=>⟨#[119]⟩
 | 8=>⟨#[119]⟩
 | 9=>⟨#[119,110]⟩
 | 10=>⟨#[]⟩
 | 11=>⟨#[]⟩
 | _=>⟨#[]⟩
theorem zKM{s:ByteArray}{i:Nat}(hi:i<13)(h:s.toList=wdN i):shF s=(shN i,true):=by
 unfold shF;rw[h];rcases(by omega:i=0\/i=1\/i=2\/i=3\/i=4\/i=5\/i=6\/i=7\/i=8\/i=9\/i=10\/i=11\/i=12)with rfl | rfl | rfl | rfl | rfl | rfl | rfl | rfl | rfl | rfl | rfl | rfl | rfl<;>rfl
theorem zJV{s:ByteArray}(h:(shF s).2=true):∃i,i<13/\s.toList=wdN i:=by
 unfold shF at h;by_cases h0:s.toList = [110,101,119]
 ·exact⟨0,by decide,h0⟩
 rw[if_neg h0]at h;by_cases h6:s.toList = [100,101,115,116,114,111,121]
 ·exact⟨6,by decide,h6⟩
 rw[if_neg h6]at h;by_cases h7:s.toList = [98,97,99,107]
 ·exact⟨7,by decide,h7⟩
 rw[if_neg h7]at h;by_cases h8:s.toList = [112,114,111,109,111,116,101]
 ·exact⟨8,by decide,h8⟩
 rw[if_neg h8]at h;by_cases h1:s.toList = [119,114,105,116,101]
 ·exact⟨1,by decide,h1⟩
 rw[if_neg h1]at h;by_cases h2:s.toList = [116,114,105,109]
 ·exact⟨2,by decide,h2⟩
 rw[if_neg h2]at h;by_cases h9:s.toList = [114,101,97,100]
 ·exact⟨9,by decide,h9⟩
 rw[if_neg h9]at h;by_cases h3:s.toList = [115,110,97,112]
 ·exact⟨3,by decide,h3⟩
 rw[if_neg h3]at h;by_cases h4:s.toList = [99,108,111,110,101]
 ·exact⟨4,by decide,h4⟩
 rw[if_neg h4]at h;by_cases h5:s.toList = [100,114,111,112]
 ·exact⟨5,by decide,h5⟩
 rw[if_neg h5]at h;by_cases aA:s.toList = [102,114,101,101]
 ·exact⟨10,by decide,aA⟩
 rw[if_neg aA]at h;by_cases bA:s.toList = [115,121,110,99]
 ·exact⟨11,by decide,bA⟩
 rw[if_neg bA]at h;by_cases cA:s.toList = [99,114,97,115,104]
 ·exact⟨12,by decide,cA⟩
 rw[if_neg cA]at h;cases h
theorem yD(l:List UInt8):zEJ ⟨#[78,65,77,69]⟩ ⟨l.toArray⟩↔¬l = []:=by
 unfold zEJ;rw[if_pos (by rw[ByteArray.toList_eq]),toList_mk]
theorem zDw(l:List UInt8):zEJ ⟨#[87,79,82,68]⟩ ⟨l.toArray⟩↔¬l = []:=by
 unfold zEJ;rw[if_neg (by rw[ByteArray.toList_eq];decide),if_pos (by rw[ByteArray.toList_eq]),toList_mk]
theorem zEE(l:List UInt8):zEJ ⟨#[78]⟩ ⟨l.toArray⟩↔zIG ⟨l.toArray⟩:=by
 unfold zEJ;rw[if_neg (by rw[ByteArray.toList_eq];decide),if_neg (by rw[ByteArray.toList_eq];decide),if_pos (by rw[ByteArray.toList_eq])]
theorem qd{p:List UInt8}(h:p≠[78,65,77,69]/\p≠[87,79,82,68]/\p≠[78])(l:List UInt8):zEJ ⟨p.toArray⟩ ⟨l.toArray⟩↔l=p:=by
 unfold zEJ;rw[toList_mk,toList_mk,if_neg h.1,if_neg h.2.1,if_neg h.2.2]
def zCQ(L:List (List UInt8))(i:Nat):Prop:=L.getD 0 []=wdN i/\(shN i).size+1=L.length/\∀j,j<(shN i).size->zAr L (shN i) j
theorem zL7(L:List (List UInt8)):zBo (spl 32 (bs (yH 0))) L↔zCQ L 0:=by
 rw[show spl 32 (bs (yH 0)) = [[110,101,119],[78,65,77,69]] from by decide];by_cases hl:L.length=2
 ·obtain⟨h,a,rfl⟩:∃h a,L = [h,a]:=by
   match L,hl with
   | [h,a],_=>exact⟨h,a,rfl⟩
  constructor
  ·rintro⟨-,hp⟩;have q0:=(qd (p:=[110,101,119]) (by decide) _).1 (hp 0 (by simp) (by simp));have q1:=(yD _).1 (hp 1 (by simp) (by simp));refine⟨q0,rfl,fun j hj=>?_⟩;have aA:j<1:=hj;rcases(by omega:j=0)with rfl
   ·exact q1
  ·rintro⟨q0,-,hp⟩;refine⟨rfl,fun j hj aA=>?_⟩;have bA:j<2:=hj;rcases(by omega:j=0\/j=1)with rfl | rfl
   ·exact(qd (p:=[110,101,119]) (by decide) _).2 q0
   ·exact(yD _).2 (hp 0 (by show 0<1;decide))
 ·constructor
  ·rintro⟨h,-⟩;exact absurd h.symm hl
  ·rintro⟨-,h,-⟩;exact absurd h.symm hl
theorem zL8(L:List (List UInt8)):zBo (spl 32 (bs (yH 1))) L↔zCQ L 1:=by
 rw[show spl 32 (bs (yH 1)) = [[119,114,105,116,101],[78,65,77,69],[78],[87,79,82,68]] from by decide];by_cases hl:L.length=4
 ·obtain⟨h,a,b,c,rfl⟩:∃h a b c,L = [h,a,b,c]:=by
   match L,hl with
   | [h,a,b,c],_=>exact⟨h,a,b,c,rfl⟩
  constructor
  ·rintro⟨-,hp⟩;have q0:=(qd (p:=[119,114,105,116,101]) (by decide) _).1 (hp 0 (by simp) (by simp));have q1:=(yD _).1 (hp 1 (by simp) (by simp));have q2:=(zEE _).1 (hp 2 (by simp) (by simp));have q3:=(zDw _).1 (hp 3 (by simp) (by simp));refine⟨q0,rfl,fun j hj=>?_⟩;have aA:j<3:=hj;rcases(by omega:j=0\/j=1\/j=2)with rfl | rfl | rfl
   ·exact q1
   ·exact q2
   ·exact q3
  ·rintro⟨q0,-,hp⟩;refine⟨rfl,fun j hj aA=>?_⟩;have bA:j<4:=hj;rcases(by omega:j=0\/j=1\/j=2\/j=3)with rfl | rfl | rfl | rfl
   ·exact(qd (p:=[119,114,105,116,101]) (by decide) _).2 q0
   ·exact(yD _).2 (hp 0 (by show 0<3;decide))
   ·exact(zEE _).2 (hp 1 (by show 1<3;decide))
   ·exact(zDw _).2 (hp 2 (by show 2<3;decide))
 ·constructor
  ·rintro⟨h,-⟩;exact absurd h.symm hl
  ·rintro⟨-,h,-⟩;exact absurd h.symm hl
theorem zL9(L:List (List UInt8)):zBo (spl 32 (bs (yH 2))) L↔zCQ L 2:=by
 rw[show spl 32 (bs (yH 2)) = [[116,114,105,109],[78,65,77,69],[78]] from by decide];by_cases hl:L.length=3
 ·obtain⟨h,a,b,rfl⟩:∃h a b,L = [h,a,b]:=by
   match L,hl with
   | [h,a,b],_=>exact⟨h,a,b,rfl⟩
  constructor
  ·rintro⟨-,hp⟩;have q0:=(qd (p:=[116,114,105,109]) (by decide) _).1 (hp 0 (by simp) (by simp));have q1:=(yD _).1 (hp 1 (by simp) (by simp));have q2:=(zEE _).1 (hp 2 (by simp) (by simp));refine⟨q0,rfl,fun j hj=>?_⟩;have aA:j<2:=hj;rcases(by omega:j=0\/j=1)with rfl | rfl
   ·exact q1
   ·exact q2
  ·rintro⟨q0,-,hp⟩;refine⟨rfl,fun j hj aA=>?_⟩;have bA:j<3:=hj;rcases(by omega:j=0\/j=1\/j=2)with rfl | rfl | rfl
   ·exact(qd (p:=[116,114,105,109]) (by decide) _).2 q0
   ·exact(yD _).2 (hp 0 (by show 0<2;decide))
   ·exact(zEE _).2 (hp 1 (by show 1<2;decide))
 ·constructor
  ·rintro⟨h,-⟩;exact absurd h.symm hl
  ·rintro⟨-,h,-⟩;exact absurd h.symm hl
theorem zMA(L:List (List UInt8)):zBo (spl 32 (bs (yH 3))) L↔zCQ L 3:=by
 rw[show spl 32 (bs (yH 3)) = [[115,110,97,112],[78,65,77,69],[87,79,82,68]] from by decide];by_cases hl:L.length=3
 ·obtain⟨h,a,b,rfl⟩:∃h a b,L = [h,a,b]:=by
   match L,hl with
   | [h,a,b],_=>exact⟨h,a,b,rfl⟩
  constructor
  ·rintro⟨-,hp⟩;have q0:=(qd (p:=[115,110,97,112]) (by decide) _).1 (hp 0 (by simp) (by simp));have q1:=(yD _).1 (hp 1 (by simp) (by simp));have q2:=(zDw _).1 (hp 2 (by simp) (by simp));refine⟨q0,rfl,fun j hj=>?_⟩;have aA:j<2:=hj;rcases(by omega:j=0\/j=1)with rfl | rfl
   ·exact q1
   ·exact q2
  ·rintro⟨q0,-,hp⟩;refine⟨rfl,fun j hj aA=>?_⟩;have bA:j<3:=hj;rcases(by omega:j=0\/j=1\/j=2)with rfl | rfl | rfl
   ·exact(qd (p:=[115,110,97,112]) (by decide) _).2 q0
   ·exact(yD _).2 (hp 0 (by show 0<2;decide))
   ·exact(zDw _).2 (hp 1 (by show 1<2;decide))
 ·constructor
  ·rintro⟨h,-⟩;exact absurd h.symm hl
  ·rintro⟨-,h,-⟩;exact absurd h.symm hl
theorem zMB(L:List (List UInt8)):zBo (spl 32 (bs (yH 4))) L↔zCQ L 4:=by
 rw[show spl 32 (bs (yH 4)) = [[99,108,111,110,101],[78],[78,65,77,69]] from by decide];by_cases hl:L.length=3
 ·obtain⟨h,a,b,rfl⟩:∃h a b,L = [h,a,b]:=by
   match L,hl with
   | [h,a,b],_=>exact⟨h,a,b,rfl⟩
  constructor
  ·rintro⟨-,hp⟩;have q0:=(qd (p:=[99,108,111,110,101]) (by decide) _).1 (hp 0 (by simp) (by simp));have q1:=(zEE _).1 (hp 1 (by simp) (by simp));have q2:=(yD _).1 (hp 2 (by simp) (by simp));refine⟨q0,rfl,fun j hj=>?_⟩;have aA:j<2:=hj;rcases(by omega:j=0\/j=1)with rfl | rfl
   ·exact q1
   ·exact q2
  ·rintro⟨q0,-,hp⟩;refine⟨rfl,fun j hj aA=>?_⟩;have bA:j<3:=hj;rcases(by omega:j=0\/j=1\/j=2)with rfl | rfl | rfl
   ·exact(qd (p:=[99,108,111,110,101]) (by decide) _).2 q0
   ·exact(zEE _).2 (hp 0 (by show 0<2;decide))
   ·exact(yD _).2 (hp 1 (by show 1<2;decide))
 ·constructor
  ·rintro⟨h,-⟩;exact absurd h.symm hl
  ·rintro⟨-,h,-⟩;exact absurd h.symm hl
theorem zMC(L:List (List UInt8)):zBo (spl 32 (bs (yH 5))) L↔zCQ L 5:=by
 rw[show spl 32 (bs (yH 5)) = [[100,114,111,112],[78]] from by decide];by_cases hl:L.length=2
 ·obtain⟨h,a,rfl⟩:∃h a,L = [h,a]:=by
   match L,hl with
   | [h,a],_=>exact⟨h,a,rfl⟩
  constructor
  ·rintro⟨-,hp⟩;have q0:=(qd (p:=[100,114,111,112]) (by decide) _).1 (hp 0 (by simp) (by simp));have q1:=(zEE _).1 (hp 1 (by simp) (by simp));refine⟨q0,rfl,fun j hj=>?_⟩;have aA:j<1:=hj;rcases(by omega:j=0)with rfl
   ·exact q1
  ·rintro⟨q0,-,hp⟩;refine⟨rfl,fun j hj aA=>?_⟩;have bA:j<2:=hj;rcases(by omega:j=0\/j=1)with rfl | rfl
   ·exact(qd (p:=[100,114,111,112]) (by decide) _).2 q0
   ·exact(zEE _).2 (hp 0 (by show 0<1;decide))
 ·constructor
  ·rintro⟨h,-⟩;exact absurd h.symm hl
  ·rintro⟨-,h,-⟩;exact absurd h.symm hl
theorem zMD(L:List (List UInt8)):zBo (spl 32 (bs (yH 6))) L↔zCQ L 6:=by
 rw[show spl 32 (bs (yH 6)) = [[100,101,115,116,114,111,121],[78,65,77,69]] from by decide];by_cases hl:L.length=2
 ·obtain⟨h,a,rfl⟩:∃h a,L = [h,a]:=by
   match L,hl with
   | [h,a],_=>exact⟨h,a,rfl⟩
  constructor
  ·rintro⟨-,hp⟩;have q0:=(qd (p:=[100,101,115,116,114,111,121]) (by decide) _).1 (hp 0 (by simp) (by simp));have q1:=(yD _).1 (hp 1 (by simp) (by simp));refine⟨q0,rfl,fun j hj=>?_⟩;have aA:j<1:=hj;rcases(by omega:j=0)with rfl
   ·exact q1
  ·rintro⟨q0,-,hp⟩;refine⟨rfl,fun j hj aA=>?_⟩;have bA:j<2:=hj;rcases(by omega:j=0\/j=1)with rfl | rfl
   ·exact(qd (p:=[100,101,115,116,114,111,121]) (by decide) _).2 q0
   ·exact(yD _).2 (hp 0 (by show 0<1;decide))
 ·constructor
  ·rintro⟨h,-⟩;exact absurd h.symm hl
  ·rintro⟨-,h,-⟩;exact absurd h.symm hl
theorem zME(L:List (List UInt8)):zBo (spl 32 (bs (yH 7))) L↔zCQ L 7:=by
 rw[show spl 32 (bs (yH 7)) = [[98,97,99,107],[78,65,77,69]] from by decide];by_cases hl:L.length=2
 ·obtain⟨h,a,rfl⟩:∃h a,L = [h,a]:=by
   match L,hl with
   | [h,a],_=>exact⟨h,a,rfl⟩
  constructor
  ·rintro⟨-,hp⟩;have q0:=(qd (p:=[98,97,99,107]) (by decide) _).1 (hp 0 (by simp) (by simp));have q1:=(yD _).1 (hp 1 (by simp) (by simp));refine⟨q0,rfl,fun j hj=>?_⟩;have aA:j<1:=hj;rcases(by omega:j=0)with rfl
   ·exact q1
  ·rintro⟨q0,-,hp⟩;refine⟨rfl,fun j hj aA=>?_⟩;have bA:j<2:=hj;rcases(by omega:j=0\/j=1)with rfl | rfl
   ·exact(qd (p:=[98,97,99,107]) (by decide) _).2 q0
   ·exact(yD _).2 (hp 0 (by show 0<1;decide))
 ·constructor
  ·rintro⟨h,-⟩;exact absurd h.symm hl
  ·rintro⟨-,h,-⟩;exact absurd h.symm hl
theorem zMF(L:List (List UInt8)):zBo (spl 32 (bs (yH 8))) L↔zCQ L 8:=by
 rw[show spl 32 (bs (yH 8)) = [[112,114,111,109,111,116,101],[78,65,77,69]] from by decide];by_cases hl:L.length=2
 ·obtain⟨h,a,rfl⟩:∃h a,L = [h,a]:=by
   match L,hl with
   | [h,a],_=>exact⟨h,a,rfl⟩
  constructor
  ·rintro⟨-,hp⟩;have q0:=(qd (p:=[112,114,111,109,111,116,101]) (by decide) _).1 (hp 0 (by simp) (by simp));have q1:=(yD _).1 (hp 1 (by simp) (by simp));refine⟨q0,rfl,fun j hj=>?_⟩;have aA:j<1:=hj;rcases(by omega:j=0)with rfl
   ·exact q1
  ·rintro⟨q0,-,hp⟩;refine⟨rfl,fun j hj aA=>?_⟩;have bA:j<2:=hj;rcases(by omega:j=0\/j=1)with rfl | rfl
   ·exact(qd (p:=[112,114,111,109,111,116,101]) (by decide) _).2 q0
   ·exact(yD _).2 (hp 0 (by show 0<1;decide))
 ·constructor
  ·rintro⟨h,-⟩;exact absurd h.symm hl
  ·rintro⟨-,h,-⟩;exact absurd h.symm hl
theorem zMG(L:List (List UInt8)):zBo (spl 32 (bs (yH 9))) L↔zCQ L 9:=by
 rw[show spl 32 (bs (yH 9)) = [[114,101,97,100],[78,65,77,69],[78]] from by decide];by_cases hl:L.length=3
 ·obtain⟨h,a,b,rfl⟩:∃h a b,L = [h,a,b]:=by
   match L,hl with
   | [h,a,b],_=>exact⟨h,a,b,rfl⟩
  constructor
  ·rintro⟨-,hp⟩;have q0:=(qd (p:=[114,101,97,100]) (by decide) _).1 (hp 0 (by simp) (by simp));have q1:=(yD _).1 (hp 1 (by simp) (by simp));have q2:=(zEE _).1 (hp 2 (by simp) (by simp));refine⟨q0,rfl,fun j hj=>?_⟩;have aA:j<2:=hj;rcases(by omega:j=0\/j=1)with rfl | rfl
   ·exact q1
   ·exact q2
  ·rintro⟨q0,-,hp⟩;refine⟨rfl,fun j hj aA=>?_⟩;have bA:j<3:=hj;rcases(by omega:j=0\/j=1\/j=2)with rfl | rfl | rfl
   ·exact(qd (p:=[114,101,97,100]) (by decide) _).2 q0
   ·exact(yD _).2 (hp 0 (by show 0<2;decide))
   ·exact(zEE _).2 (hp 1 (by show 1<2;decide))
 ·constructor
  ·rintro⟨h,-⟩;exact absurd h.symm hl
  ·rintro⟨-,h,-⟩;exact absurd h.symm hl
theorem zKe(L:List (List UInt8)):zBo (spl 32 (bs (yH 10))) L↔zCQ L 10:=by
 rw[show spl 32 (bs (yH 10)) = [[102,114,101,101]] from by decide];by_cases hl:L.length=1
 ·obtain⟨h,rfl⟩:∃h,L = [h]:=by
   match L,hl with
   | [h],_=>exact⟨h,rfl⟩
  constructor
  ·rintro⟨-,hp⟩;have q0:=(qd (p:=[102,114,101,101]) (by decide) _).1 (hp 0 (by simp) (by simp));refine⟨q0,rfl,fun j hj=>?_⟩;have aA:j<0:=hj;omega
  ·rintro⟨q0,-,hp⟩;refine⟨rfl,fun j hj aA=>?_⟩;have bA:j<1:=hj;rcases(by omega:j=0)with rfl
   ·exact(qd (p:=[102,114,101,101]) (by decide) _).2 q0
 ·constructor
  ·rintro⟨h,-⟩;exact absurd h.symm hl
  ·rintro⟨-,h,-⟩;exact absurd h.symm hl
theorem zKf(L:List (List UInt8)):zBo (spl 32 (bs (yH 11))) L↔zCQ L 11:=by
 rw[show spl 32 (bs (yH 11)) = [[115,121,110,99]] from by decide];by_cases hl:L.length=1
 ·obtain⟨h,rfl⟩:∃h,L = [h]:=by
   match L,hl with
   | [h],_=>exact⟨h,rfl⟩
  constructor
  ·rintro⟨-,hp⟩;have q0:=(qd (p:=[115,121,110,99]) (by decide) _).1 (hp 0 (by simp) (by simp));refine⟨q0,rfl,fun j hj=>?_⟩;have aA:j<0:=hj;omega
  ·rintro⟨q0,-,hp⟩;refine⟨rfl,fun j hj aA=>?_⟩;have bA:j<1:=hj;rcases(by omega:j=0)with rfl
   ·exact(qd (p:=[115,121,110,99]) (by decide) _).2 q0
 ·constructor
  ·rintro⟨h,-⟩;exact absurd h.symm hl
  ·rintro⟨-,h,-⟩;exact absurd h.symm hl
theorem zKg(L:List (List UInt8)):zBo (spl 32 (bs (yH 12))) L↔zCQ L 12:=by
 rw[show spl 32 (bs (yH 12)) = [[99,114,97,115,104]] from by decide];by_cases hl:L.length=1
 ·obtain⟨h,rfl⟩:∃h,L = [h]:=by
   match L,hl with
   | [h],_=>exact⟨h,rfl⟩
  constructor
  ·rintro⟨-,hp⟩;have q0:=(qd (p:=[99,114,97,115,104]) (by decide) _).1 (hp 0 (by simp) (by simp));refine⟨q0,rfl,fun j hj=>?_⟩;have aA:j<0:=hj;omega
  ·rintro⟨q0,-,hp⟩;refine⟨rfl,fun j hj aA=>?_⟩;have bA:j<1:=hj;rcases(by omega:j=0)with rfl
   ·exact(qd (p:=[99,114,97,115,104]) (by decide) _).2 q0
 ·constructor
  ·rintro⟨h,-⟩;exact absurd h.symm hl
  ·rintro⟨-,h,-⟩;exact absurd h.symm hl
theorem zHq(s:ByteArray):zFA s↔zEK (spl 32 (bs s)):=by
 generalize hL:spl 32 (bs s)=L;have key:zFA s↔∃i,i<13/\zCQ L i:=by
  unfold zFA;rw[hL];constructor
  ·rintro⟨i,hi,h⟩;refine⟨i,hi,?_⟩;rcases(by omega:i=0\/i=1\/i=2\/i=3\/i=4\/i=5\/i=6\/i=7\/i=8\/i=9\/i=10\/i=11\/i=12)with rfl | rfl | rfl | rfl | rfl | rfl | rfl | rfl | rfl | rfl | rfl | rfl | rfl
   ·exact(zL7 L).1 h
   ·exact(zL8 L).1 h
   ·exact(zL9 L).1 h
   ·exact(zMA L).1 h
   ·exact(zMB L).1 h
   ·exact(zMC L).1 h
   ·exact(zMD L).1 h
   ·exact(zME L).1 h
   ·exact(zMF L).1 h
   ·exact(zMG L).1 h
   ·exact(zKe L).1 h
   ·exact(zKf L).1 h
   ·exact(zKg L).1 h
  ·rintro⟨i,hi,h⟩;refine⟨i,hi,?_⟩;rcases(by omega:i=0\/i=1\/i=2\/i=3\/i=4\/i=5\/i=6\/i=7\/i=8\/i=9\/i=10\/i=11\/i=12)with rfl | rfl | rfl | rfl | rfl | rfl | rfl | rfl | rfl | rfl | rfl | rfl | rfl
   ·exact(zL7 L).2 h
   ·exact(zL8 L).2 h
   ·exact(zL9 L).2 h
   ·exact(zMA L).2 h
   ·exact(zMB L).2 h
   ·exact(zMC L).2 h
   ·exact(zMD L).2 h
   ·exact(zME L).2 h
   ·exact(zMF L).2 h
   ·exact(zMG L).2 h
   ·exact(zKe L).2 h
   ·exact(zKf L).2 h
   ·exact(zKg L).2 h
 rw[key];constructor
 ·rintro⟨i,hi,h1,h2,h3⟩;have e:=zKM (s:=⟨(L.getD 0 []).toArray⟩) hi (by rw[toList_mk];exact h1);unfold zEK;rw[e];exact⟨rfl,h2,h3⟩
 ·rintro⟨h1,h2,h3⟩;obtain⟨i,hi,hw⟩:=zJV h1;have e:=zKM hi hw;rw[toList_mk]at hw;rw[e]at h2 h3;exact⟨i,hi,hw,h2,h3⟩
end Go.Proofs.YtgabgheflgjgiaaGreatDoor

/- A part of the proof. -/
import Derived.Test.YtmgeglgboadfiaaGreatDoorU17
set_option linter.unusedVariables false
set_option maxRecDepth 20000
set_option maxHeartbeats 4000000
namespace Go.Proofs.YtmgeglgboadfiaaGreatDoor
open Go.RowKit
def zCT:List Value:=[.int .i64 0,.string ⟨#[]⟩,.string ⟨#[]⟩,.int .i64 0,.int .i64 0,.int .i64 0,.int .i64 0,.slice none 0 0]
theorem zLL(w:World)(ty:TypeId)(b o c:Nat)(hc:∀j,j<8->(w.cell? ⟨b,o+j,none⟩).isSome=true)(hf:∀j,j<8->w.frozen? ⟨b,o+j,none⟩=false) :
  (Builtin.clear_ #[35] ty #[.slice (some ⟨b,o,none⟩) 1 c]).run Tryz.prog w = .ok (.tuple #[]) (w.setCells b o zCT):=by
 have hu:Tryz.prog.underlying 35=some (.slice 99):=by kernel_rfl
 have aA:=run_storeCells_cells (P:=Tryz.prog) b o zCT 0 w (by simpa[zCT]using hc) (by simpa[zCT]using hf) (by intro v hv;simp only[zCT,List.mem_cons,List.not_mem_nil,or_false]at hv;rcases hv with rfl | rfl | rfl | rfl | rfl | rfl | rfl | rfl<;>rfl);simp only[Nat.add_zero]at aA;have bA:(Builtin.zeroCells (Value.agg #[.int .i64 0,.string ⟨#[]⟩,.string ⟨#[]⟩,.int .i64 0,.int .i64 0,.int .i64 0,.int .i64 0,.slice none 0 0]).cells 1).toList=zCT:=by kernel_rfl
 simp[Builtin.clear_,run_underlying hu,bA,aA]
theorem zD8(s:zY)(a:Option Addr)(c B:Nat)(x:Int)(w:World)(h0:w.cell? ⟨B,0,none⟩=some (.int .i64 x)) :
  Calls Tryz.prog 127 #[.agg #[.int .i64 s.id,.string s.name,.string s.set,.int .i64 s.zPH,.int .i64 s.time,.int .i64 s.rs,.int .i64 s.rb,.slice a s.dn c],.pointer (some ⟨B,0,none⟩)] w fun e w'=>zG (s.id=x) e/\Below w.heap.size w w':=by
 have ha:=zC w (.cells #[.int .i64 s.id,.string s.name,.string s.set,.int .i64 s.zPH,.int .i64 s.time,.int .i64 s.rs,.int .i64 s.rb,.slice a s.dn c] 99);have k0:=(ha.cell (zD h0)).trans h0;clear h0;obtain⟨⟨⟨x0,-⟩,⟨x1,-⟩,⟨x2,-⟩,⟨x3,-⟩⟩,⟨x4,-⟩,⟨x5,-⟩,⟨x6,-⟩,⟨x7,-⟩⟩:=yx.new w (.int .i64 s.id) (.string s.name) (.string s.set) (.int .i64 s.zPH) (.int .i64 s.time) (.int .i64 s.rs) (.int .i64 s.rb) (.slice a s.dn c) 99;by_cases e1:s.id=x
 ·have a1:(s.id == x)=true:=beq_iff_eq.2 e1;have H:=zB e1;clear e1;go_enter Tryz.func127,Tryz.ntmps127;go_wp2;go_ret;exact⟨zG.yes H.out,ha⟩
 ·have a1:(s.id == x)=false:=beq_eq_false_iff_ne.2 e1;have H:=zB e1;clear e1;go_enter Tryz.func127,Tryz.ntmps127;go_wp2;go_ret;exact⟨zG.no H.out,ha⟩
theorem zJj(lo hi bs off n c k B:Nat)(kv:Nat->Value)(f:Nat->zY)(name:Int)(w:World)(kA:∀i,i<n->∀r,r<8->zQ w bs (off+i*8+r) (cellSnap f kv i r))(dB:∀i,i<n->∃a c,kv i = .slice a (f i).dn c)(cB:qf w lo hi (.slice (some ⟨bs,off,none⟩) n c) n f)(hk:k<n)(hn:n<=20)(bC:n<=c)(cA:(f k).id=name)(oA:∀i,i<n->i≠k->(f i).id≠name)(hB:w.cell? ⟨B,0,none⟩=some (.int .i64 name))(kB:B≠bs) :
  Calls Tryz.prog 126 #[.slice (some ⟨bs,off,none⟩) n c,.func (.func 127) #[] #[.pointer (some ⟨B,0,none⟩)]] w fun e w'=>e = .returned (.slice (some ⟨bs,off,none⟩) (n - 1) c)/\zF (fun j=>j=bs) w w'/\∀i,i<n - 1->∀r,r<8->zQ w' bs (off+i*8+r) (cellSnap (del f k) (del kv k) i r):=by
 have iB:=zB dB;have aC:bs<w.heap.size:=(kA k hk 0 (by omega)).lt;have gB:=zB kA;have HN:=zB cA;have HU:=zB oA;have HB:=zB hB;have rA:=zB (show Calls Tryz.prog 183 #[.slice (some ⟨bs,off,none⟩) n c,.func (.func 127) #[] #[.pointer (some ⟨B,0,none⟩)]] w fun e w'=>e = .returned (.int .i64 (k:Int))/\Below w.heap.size w w' by
  refine(zHc 127 #[.pointer (some ⟨B,0,none⟩)] (enters_of Tryz.func127 (by kernel_rfl) rfl) (fun i=>(f i).id=name) _ n lo hi f w cB (by omega) (fun i lA a c w' lB _=>zD8 (f i) a c B name w' ((lB.cell (zD hB)).trans hB))).mono ?_;rintro e w2 ⟨hr,fA⟩;rcases hr with⟨i,lA,h1,h2,rfl⟩ | ⟨h1,rfl⟩
  ·refine⟨?_,fA⟩;by_cases e:i=k
   ·rw[e]
   ·exact absurd h1 (oA i lA e)
  ·exact absurd cA (h1 k hk))
 clear cB cA oA kA hB dB;go_enter Tryz.func126,Tryz.ntmps126;go_wp2_with fail;refine rA.out.mono ?_;rintro e w1 ⟨rfl,jA⟩;clear rA;have iC:=jA.size;have k2:¬(k:Int) = -1:=by omega
 have k0:((k:Int) == -1)=false:=by simp[k2]
 have k1:decide ((k:Int) = -1)=false:=by simp[k2]
 have gC:IntKind.i64.wrap ((k:Int)+1)=((k+1:Nat):Int):=by first | (rw[wrap_small (by omega) (by omega)];rfl) | (rw[wrap_small _ (by omega) (by omega)];rfl)
 go_wp2_with fail
 go_loopw [5,6] (fun a b wr=>∃j:Nat,k+1<=j/\j<=n/\a = .int .i64 ((j - 1:Nat):Int)/\b = .int .i64 (j:Int)/\zF (fun i=>i=bs) w wr/\∀m,m<n->∀r,r<8->zQ wr bs (off+m*8+r) (cellSnap f kv (zEU k j m) r)) (fun _ b _=>n - (intOf b).toNat)
 case atStart=>
  refine⟨k+1,Nat.le_refl _,hk,rfl,rfl,zF.zPB jA,fun m hm r hr=>?_⟩;have e:zEU k (k+1) m=m:=by
   unfold zEU;split
   ·rfl
   ·rw[if_neg (by omega)]
  rw[e];exact(gB.out m hm r hr).zO9 jA
 case round=>
  obtain⟨j,dC,eC,rfl,rfl,hT,eA⟩:=hrel;have HT:=zB hT;have HC:=zB eA;have jC:=hT.size;clear hT eA;have aB:wr.cell? ⟨B,0,none⟩=some (.int .i64 name):=(HT.out.cell (o:=0) (zD HB.out) kB).trans HB.out;by_cases mA:j<n
  ·have nB:(j:Int)<(n:Int):=(by omega);obtain⟨va,vc,eB⟩:=iB.out j mA;have em:zEU k j j=j:=(by unfold zEU;rw[if_neg (by omega),if_neg (by omega)]);have dA:∀r,r<8->zQ wr bs (off+j*8+r) (cellSnap f kv j r):=fun r hr=>by
    have:=HC.out j mA r hr
    rwa [em]at this
   have q0:wr.cell? ⟨bs,off+j*8,none⟩=some (.int .i64 (f j).id):=(dA 0 (by omega)).1;have q1:wr.cell? ⟨bs,off+j*8+1,none⟩=some (.string (f j).name):=(dA 1 (by omega)).1;have q2:wr.cell? ⟨bs,off+j*8+2,none⟩=some (.string (f j).set):=(dA 2 (by omega)).1;have q3:wr.cell? ⟨bs,off+j*8+3,none⟩=some (.int .i64 (f j).zPH):=(dA 3 (by omega)).1;have q4:wr.cell? ⟨bs,off+j*8+4,none⟩=some (.int .i64 (f j).time):=(dA 4 (by omega)).1;have q5:wr.cell? ⟨bs,off+j*8+5,none⟩=some (.int .i64 (f j).rs):=(dA 5 (by omega)).1;have q6:wr.cell? ⟨bs,off+j*8+6,none⟩=some (.int .i64 (f j).rb):=(dA 6 (by omega)).1;have q7:wr.cell? ⟨bs,off+j*8+7,none⟩=some (kv j):=(dA 7 (by omega)).1;rw[eB]at q7;have oB:=zB dA;clear dA;have gA:=zC wr (.cells #[.int .i64 (f j).id,.string (f j).name,.string (f j).set,.int .i64 (f j).zPH,.int .i64 (f j).time,.int .i64 (f j).rs,.int .i64 (f j).rb,.slice va (f j).dn vc] 99);have HX:=zB (yx.new wr (.int .i64 (f j).id) (.string (f j).name) (.string (f j).set) (.int .i64 (f j).zPH) (.int .i64 (f j).time) (.int .i64 (f j).rs) (.int .i64 (f j).rb) (.slice va (f j).dn vc) 99);obtain⟨⟨⟨x0,-⟩,⟨x1,-⟩,⟨x2,-⟩,⟨x3,-⟩⟩,⟨x4,-⟩,⟨x5,-⟩,⟨x6,-⟩,⟨x7,-⟩⟩:=HX.out;go_wp2_with fail;clear q0 q1 q2 q3 q4 q5 q6 q7 x0 x1 x2 x3 x4 x5 x6 x7;have vA:=(gA.cell (zD aB)).trans aB;have iA:=zB (show ∀m,m<n->∀r,r<8->zQ (wr.alloc (.cells #[.int .i64 (f j).id,.string (f j).name,.string (f j).set,.int .i64 (f j).zPH,.int .i64 (f j).time,.int .i64 (f j).rs,.int .i64 (f j).rb,.slice va (f j).dn vc] 99)) bs (off+m*8+r) (cellSnap f kv (zEU k j m) r)from fun m hm r hr=>(HC.out m hm r hr).zO9 gA);have sA:=zB (show zF (fun i=>i=bs) w (wr.alloc (.cells #[.int .i64 (f j).id,.string (f j).name,.string (f j).set,.int .i64 (f j).zPH,.int .i64 (f j).time,.int .i64 (f j).rs,.int .i64 (f j).rb,.slice va (f j).dn vc] 99))from HT.out.trans (zF.zPB gA));generalize (wr.alloc (.cells #[.int .i64 (f j).id,.string (f j).name,.string (f j).set,.int .i64 (f j).zPH,.int .i64 (f j).time,.int .i64 (f j).rs,.int .i64 (f j).rb,.slice va (f j).dn vc] 99))=wa at gA HX vA iA sA ⊢;refine(zD8 (f j) va vc B name wa vA).mono ?_;rintro e w2 ⟨⟨t,rfl,ht⟩,fA⟩;obtain rfl:t=false:=zW ht (HU.out j mA (by omega));clear ht;obtain⟨⟨⟨x0,-⟩,⟨x1,-⟩,⟨x2,-⟩,⟨x3,-⟩⟩,⟨x4,-⟩,⟨x5,-⟩,⟨x6,-⟩,⟨x7,-⟩⟩:=HX.out.zO9 fA;have lA:((j - 1:Nat):Int)<(n:Int):=(by omega);have aA:∀r,r<8->zQ w2 bs (off+(j - 1)*8+r) (cellSnap f kv (zEU k j (j - 1)) r):=fun r hr=>(iA.out (j - 1) (by omega) r hr).zO9 fA
   obtain⟨t0,kC⟩:zQ w2 bs (off+(j - 1)*8) _:=aA 0 (by omega);obtain⟨t1,lC⟩:zQ w2 bs (off+(j - 1)*8+1) _:=aA 1 (by omega);obtain⟨t2,mC⟩:zQ w2 bs (off+(j - 1)*8+2) _:=aA 2 (by omega);obtain⟨t3,nC⟩:zQ w2 bs (off+(j - 1)*8+3) _:=aA 3 (by omega);obtain⟨t4,oC⟩:zQ w2 bs (off+(j - 1)*8+4) _:=aA 4 (by omega);obtain⟨t5,pC⟩:zQ w2 bs (off+(j - 1)*8+5) _:=aA 5 (by omega);obtain⟨t6,rC⟩:zQ w2 bs (off+(j - 1)*8+6) _:=aA 6 (by omega);obtain⟨t7,sC⟩:zQ w2 bs (off+(j - 1)*8+7) _:=aA 7 (by omega);have fB:=zB aA;clear aA;go_wp2_with fail;have nA:zF (fun i=>i=bs) w2 ((((((((w2.setCell ⟨bs,off+(j - 1)*8,none⟩ (.int .i64 (f j).id)).setCell ⟨bs,off+(j - 1)*8+1,none⟩ (.string (f j).name)).setCell ⟨bs,off+(j - 1)*8+2,none⟩ (.string (f j).set)).setCell ⟨bs,off+(j - 1)*8+3,none⟩ (.int .i64 (f j).zPH)).setCell ⟨bs,off+(j - 1)*8+4,none⟩ (.int .i64 (f j).time)).setCell ⟨bs,off+(j - 1)*8+5,none⟩ (.int .i64 (f j).rs)).setCell ⟨bs,off+(j - 1)*8+6,none⟩ (.int .i64 (f j).rb)).setCell ⟨bs,off+(j - 1)*8+7,none⟩ (.slice va (f j).dn vc)):=(((((((zF.put _ bs _ _).trans (zF.put _ bs _ _)).trans (zF.put _ bs _ _)).trans (zF.put _ bs _ _)).trans (zF.put _ bs _ _)).trans (zF.put _ bs _ _)).trans (zF.put _ bs _ _)).trans (zF.put _ bs _ _);have e1:((j - 1:Nat):Int)+1=((j+1 - 1:Nat):Int):=(by omega);have e2:(j:Int)+1=((j+1:Nat):Int):=(by omega);refine⟨⟨j+1,by omega,by omega,by rw[e1],by rw[e2],(sA.out.trans (zF.zPB fA)).trans nA,fun m hm r hr=>?_⟩,by simp[intOf];omega⟩;have aA:=fB.out;by_cases jB:m=j - 1
   ·subst jB;have e3:zEU k (j+1) (j - 1)=j:=by
     unfold zEU;rw[if_neg (by omega),if_pos (by omega)];omega
    rw[e3];rcases(by omega:r=0\/r=1\/r=2\/r=3\/r=4\/r=5\/r=6\/r=7)with rfl | rfl | rfl | rfl | rfl | rfl | rfl | rfl
    ·exact(((((((((aA 0 (by omega)).set _).zPA _ (Or.inr (by omega))).zPA _ (Or.inr (by omega))).zPA _ (Or.inr (by omega))).zPA _ (Or.inr (by omega))).zPA _ (Or.inr (by omega))).zPA _ (Or.inr (by omega))).zPA _ (Or.inr (by omega)))
    ·exact(((((((((aA 1 (by omega)).zPA _ (Or.inr (by omega))).set _).zPA _ (Or.inr (by omega))).zPA _ (Or.inr (by omega))).zPA _ (Or.inr (by omega))).zPA _ (Or.inr (by omega))).zPA _ (Or.inr (by omega))).zPA _ (Or.inr (by omega)))
    ·exact(((((((((aA 2 (by omega)).zPA _ (Or.inr (by omega))).zPA _ (Or.inr (by omega))).set _).zPA _ (Or.inr (by omega))).zPA _ (Or.inr (by omega))).zPA _ (Or.inr (by omega))).zPA _ (Or.inr (by omega))).zPA _ (Or.inr (by omega)))
    ·exact(((((((((aA 3 (by omega)).zPA _ (Or.inr (by omega))).zPA _ (Or.inr (by omega))).zPA _ (Or.inr (by omega))).set _).zPA _ (Or.inr (by omega))).zPA _ (Or.inr (by omega))).zPA _ (Or.inr (by omega))).zPA _ (Or.inr (by omega)))
    ·exact(((((((((aA 4 (by omega)).zPA _ (Or.inr (by omega))).zPA _ (Or.inr (by omega))).zPA _ (Or.inr (by omega))).zPA _ (Or.inr (by omega))).set _).zPA _ (Or.inr (by omega))).zPA _ (Or.inr (by omega))).zPA _ (Or.inr (by omega)))
    ·exact(((((((((aA 5 (by omega)).zPA _ (Or.inr (by omega))).zPA _ (Or.inr (by omega))).zPA _ (Or.inr (by omega))).zPA _ (Or.inr (by omega))).zPA _ (Or.inr (by omega))).set _).zPA _ (Or.inr (by omega))).zPA _ (Or.inr (by omega)))
    ·exact(((((((((aA 6 (by omega)).zPA _ (Or.inr (by omega))).zPA _ (Or.inr (by omega))).zPA _ (Or.inr (by omega))).zPA _ (Or.inr (by omega))).zPA _ (Or.inr (by omega))).zPA _ (Or.inr (by omega))).set _).zPA _ (Or.inr (by omega)))
    ·show zQ _ bs _ (kv j);rw[eB];exact(((((((((aA 7 (by omega)).zPA _ (Or.inr (by omega))).zPA _ (Or.inr (by omega))).zPA _ (Or.inr (by omega))).zPA _ (Or.inr (by omega))).zPA _ (Or.inr (by omega))).zPA _ (Or.inr (by omega))).zPA _ (Or.inr (by omega))).set _)
   ·have e3:zEU k (j+1) m=zEU k j m:=by
     unfold zEU;split
     ·rfl
     ·by_cases h:m+1<j
      ·rw[if_pos h,if_pos (by omega)]
      ·rw[if_neg h,if_neg (by omega)]
    rw[e3];have h:=(iA.out m hm r hr).zO9 fA;exact((((((((h.zPA _ (Or.inr (by omega))).zPA _ (Or.inr (by omega))).zPA _ (Or.inr (by omega))).zPA _ (Or.inr (by omega))).zPA _ (Or.inr (by omega))).zPA _ (Or.inr (by omega))).zPA _ (Or.inr (by omega))).zPA _ (Or.inr (by omega)))
  ·obtain rfl:j=n:=(by omega);have pB:(0:Int)<=((j - 1:Nat):Int):=(by omega);have rB:((j - 1:Nat):Int)<=(j:Int):=(by omega);have sB:((j - 1:Nat):Int)<=(c:Int):=(by omega);have tB:j - 1<=c:=(by omega);have vB:j - 1<=j:=(by omega);have cC:¬c=j - 1:=(by omega);have fC:j - (j - 1)=1:=(by omega);have bA:∀r,r<8->zQ wr bs (off+(j - 1)*8+r) (cellSnap f kv (zEU k j (j - 1)) r):=fun r hr=>HC.out (j - 1) (by omega) r hr
   have mB:=fun ty=>zLL wr ty bs (off+(j - 1)*8) (c - (j - 1)) (fun r hr=>by rw[(bA r hr).1];rfl) (fun r hr=>(bA r hr).2)
   have bB:=zKe (b:=bs) zCT (off+(j - 1)*8) wr;have pA:=zB (show ∀i,i<j - 1->∀r,r<8->zQ (wr.setCells bs (off+(j - 1)*8) zCT) bs (off+i*8+r) (cellSnap (del f k) (del kv k) i r)from fun i hi r hr=>by
    have h:=zD5 zCT (off+(j - 1)*8) wr (HC.out i (by omega) r hr) (by omega);have e:cellSnap (del f k) (del kv k) i r=cellSnap f kv (zEU k j i) r:=by
     unfold cellSnap del zEU;by_cases e:i<k
     ·simp only[if_pos e]
     ·simp only[if_neg e,if_pos (show i+1<j by omega)]
    rw[e];exact h)
   have tA:=zB (HT.out.trans bB);clear bA bB;generalize wr.setCells bs (off+(j - 1)*8) zCT=wz at mB pA tA;go_wp2_with fail;go_ret;exact⟨rfl,tA.out,pA.out⟩
theorem zIR{w:World}{bs o nb:Nat}{f:Nat->zY}{kv:Nat->Value}{i:Nat}(h:qe w bs o nb (kv i) (f i)):∀r,r<8->zQ w bs (o+r) (cellSnap f kv i r)
 | 0,_=>h.c0
 | 1,_=>h.c1
 | 2,_=>h.c2
 | 3,_=>h.c3
 | 4,_=>h.c4
 | 5,_=>h.c5
 | 6,_=>h.c6
 | 7,_=>h.c7
 | n+8,h=>absurd h (by omega)
theorem qI.nthE{w:World}{bs n off c:Nat}{kb:Nat->Nat}{kv:Nat->Value}{f:Nat->zY}(h:qI w bs kb kv (.slice (some ⟨bs,off,none⟩) n c) n f){k:Nat}(hk:k<n):qe w bs (off+k*8) (kb k) (kv k) (f k):=by
 obtain⟨_,a,c',hv,_,hx⟩:=h;simp only[Value.slice.injEq,true_and]at hv;obtain⟨aA,e,hs⟩:=hx (by omega);rw[<-hv.1]at e;simp only[Option.some.injEq,Addr.mk.injEq,and_true,true_and]at e;rw[e];exact hs k hk
def SdR(bn:Nat)(kb:Nat->Nat)(k n:Nat)(f:Nat->zY)(j:Nat):Prop:=j=bn\/∃i,i<n/\i≠k/\0<(f i).dn/\j=kb i
def SdE(w wr:World)(C PB IB k bn off cn:Nat)(z2:Value)(W:zE)(x:Int)(pl:zN)(m:Int)(fT:Nat->zv)(fS:Nat->zY):Prop:=∃(y0 y1:Value) (P Q:Nat->Prop) (kb:Nat->Nat) (kv:Nat->Value),yM wr C y0 y1 (.int .i64 W.time) (.int .i64 W.next) z2 (.slice (some ⟨bn,off,none⟩) W.pn cn) (.int .i64 0) (.int .i64 m) .nilIface/\(wr.cell? ⟨PB,0,none⟩=some (.pointer (some ⟨C,0,none⟩))/\wr.cell? ⟨IB,0,none⟩=some (.int .i64 x))/\zF (fun j=>C<=j) w wr/\qi wr P y0 y1 pl/\yo wr Q z2 W.sn fT/\(∀i,i<W.pn->qe wr bn (off+i*8) (kb i) (kv i) (fS i))/\(∀i j,i<W.pn->j<W.pn->i≠k->j≠k->i≠j->0<(fS i).dn->0<(fS j).dn->kb i≠kb j)/\(∀j,P j->¬Q j/\¬SdR bn kb k W.pn fS j)/\(∀j,Q j->¬SdR bn kb k W.pn fS j)/\∀j,P j\/Q j\/SdR bn kb k W.pn fS j->C<j/\j<wr.heap.size
theorem SdE.zO9{w wr w':World}{C PB IB k bn off cn:Nat}{z2:Value}{W:zE}{x:Int}{pl:zN}{m:Int}{fT:Nat->zv}{fS:Nat->zY}(h:SdE w wr C PB IB k bn off cn z2 W x pl m fT fS)(t:Below wr.heap.size wr w'):SdE w w' C PB IB k bn off cn z2 W x pl m fT fS:=by
 obtain⟨y0,y1,P,Q,kb,kv,h1,h2,h3,h4,h5,h6,h7,h8,h9,aA⟩:=h;exact⟨y0,y1,P,Q,kb,kv,h1.zO9 t,⟨(t.cell (zD h2.1)).trans h2.1,(t.cell (zD h2.2)).trans h2.2⟩,h3.trans (zF.zPB t),h4.zO9 t,h5.zO9 t,fun i hi=>(h6 i hi).zO9 t,h7,h8,h9,fun j hj=>⟨(aA j hj).1,Nat.lt_of_lt_of_le (aA j hj).2 t.size⟩⟩
section
variable {w wq w7 : World} {C PB IB k bn off cn nb mid : Nat} {z0 z1 z2 y0 y1 nv : Value} {W : zE} {x m : Int} {P Q R : Nat -> Prop} {kb : Nat -> Nat} {kv : Nat -> Value} {pl : zN}
structure SdA (w:World) (C k bn off cn:Nat) (W:zE) (P Q R:Nat->Prop) (kb:Nat->Nat) (kv:Nat->Value):Prop where
 rows:qI w bn kb kv (.slice (some ⟨bn,off,none⟩) W.pn cn) W.pn W.zPD
 ap:qw kb W.pn W.zPD
 inR:∀j,yq bn kb W.pn W.zPD j->R j
 pq:∀j,P j->¬Q j
 pr:∀j,P j->¬R j
 qr:∀j,Q j->¬R j
 lt:∀j,P j\/Q j\/R j->C+1<=j/\j<w.heap.size
 here:k<W.pn
structure SdN (w wq w7:World) (C PB IB k bn off cn nb mid:Nat) (y0 y1 z2 nv:Value) (W:zE) (x m:Int) (P:Nat->Prop) (kb:Nat->Nat) (kv:Nat->Value) (pl:zN) (l:List (Int×Int)):Prop where
 bq:Below w.heap.size w wq
 box:yM w7 C y0 y1 (.int .i64 W.time) (.int .i64 W.next) z2 (.slice (some ⟨bn,off,none⟩) W.pn cn) (.int .i64 0) (.int .i64 m) .nilIface
 cPB:w7.cell? ⟨PB,0,none⟩=some (.pointer (some ⟨C,0,none⟩))
 cIB:w7.cell? ⟨IB,0,none⟩=some (.int .i64 x)
 old:w.heap.size<=PB/\w.heap.size<=IB
 zPE:qi w7 (fun j=>P j\/(wq.heap.size<=j/\j<mid)) y0 y1 pl
 turn:zF (fun j=>j=C\/(0<(W.zPD k).dn/\j=kb k)) wq w7
 m1:wq.heap.size<=mid
 m2:mid<=w7.heap.size
 new:zj w7 nb nv l.length (zk l) (zn l)
 nb:0<l.length->(0<(W.zPD k).dn/\nb=kb k)\/(mid<=nb/\nb<w7.heap.size)
 keep:zj w7 (kb k) (kv k) (W.zPD k).dn (W.zPD k).ds (W.zPD k).db
theorem SdA.inB(h:SdA w C k bn off cn W P Q R kb kv):R bn:=h.inR _ (Or.inl ⟨by have:=h.here;omega,rfl⟩)
theorem SdA.inK(h:SdA w C k bn off cn W P Q R kb kv){i:Nat}(hi:i<W.pn)(h0:0<(W.zPD i).dn):R (kb i)/\kb i≠bn:=⟨h.inR _ (Or.inr ⟨i,hi,h0,rfl⟩),(h.rows.nthE hi).zPJ h0⟩
theorem SdA.snap{y0 y1 z2:Value}{l:List (Int×Int)}(h:SdA w C k bn off cn W P Q R kb kv)(n:SdN w wq w7 C PB IB k bn off cn nb mid y0 y1 z2 nv W x m P kb kv pl l){i:Nat}(hi:i<W.pn):qe w7 bn (off+i*8) (kb i) (kv i) (W.zPD i):=by
 have aA:=h.lt _ (Or.inr (Or.inr h.inB));have h1:¬(bn=C\/(0<(W.zPD k).dn/\bn=kb k)):=fun e=>by
  rcases e with e | ⟨e0,e⟩
  ·omega
  ·exact(h.inK h.here e0).2 e.symm
 by_cases e:i=k
 ·have hs:=(h.rows.nthE hi).zO9 n.bq;subst e;exact⟨hs.c0.zPF n.turn h1,hs.c1.zPF n.turn h1,hs.c2.zPF n.turn h1,hs.c3.zPF n.turn h1,hs.c4.zPF n.turn h1,hs.c5.zPF n.turn h1,hs.c6.zPF n.turn h1,hs.c7.zPF n.turn h1,n.keep,hs.zPN,hs.zPJ⟩
 ·refine((h.rows.nthE hi).zO9 n.bq).zPF n.turn h1 (fun h0 e'=>?_);have:=h.lt _ (Or.inr (Or.inr (h.inK hi h0).1));rcases e' with e' | ⟨e0,e'⟩
  ·omega
  ·exact h.ap i k hi h.here e h0 e0 e'
theorem SdA.set{y0 y1 z2 v2:Value}{l:List (Int×Int)}(h:SdA w C k bn off cn W P Q R kb kv)(n:SdN w wq w7 C PB IB k bn off cn nb mid y0 y1 z2 nv W x m P kb kv pl l){sb:Nat}{ub:Nat->Nat}{uv:Nat->Value}(hs:qm w sb ub uv v2 W.sn W.zPG)(hq:∀j,zA4 sb ub W.sn W.zPG j->Q j):qm w7 sb ub uv v2 W.sn W.zPG:=
 (hs.zO9 n.bq).zPF n.turn (fun j hj e=>by
  have:=h.lt _ (Or.inr (Or.inl (hq j hj)));rcases e with e | ⟨e0,e⟩
  ·omega
  ·exact h.qr j (hq j hj) (by rw[e];exact(h.inK h.here e0).1))
theorem SdN.turnC{y0 y1 z2:Value}{l:List (Int×Int)}(h:SdA w C k bn off cn W P Q R kb kv)(n:SdN w wq w7 C PB IB k bn off cn nb mid y0 y1 z2 nv W x m P kb kv pl l):zF (fun j=>C<=j) w w7:=(zF.zPB n.bq).trans (n.turn.mono (fun j e=>by
 rcases e with e | ⟨e0,e⟩
 ·omega
 ·have:=h.lt _ (Or.inr (Or.inr (h.inK h.here e0).1));omega))
theorem zNm{i:Nat}(h:SdA w C k bn off cn W P Q R kb kv)(n:SdN w wq w7 C PB IB k bn off cn nb mid y0 y1 z2 nv W x m P kb kv pl (sdD W (W.zPD k) (W.zPD i).dn (W.zPD i).ds (W.zPD i).db))(hQ:yo w Q z2 W.sn W.zPG)(hi:i<W.pn)(oA:i≠k) :
  SdE w ((w7.setCell ⟨bn,off+i*8+3,none⟩ (.int .i64 (W.zPD k).zPH)).setCell ⟨bn,off+i*8+7,none⟩ nv) C PB IB k bn off cn z2 W x pl m W.zPG (zCP W k i):=by
 obtain⟨D,hD⟩:∃D,D=sdD W (W.zPD k) (W.zPD i).dn (W.zPD i).ds (W.zPD i).db:=⟨_,rfl⟩;have kA:=h.lt _ (Or.inr (Or.inr h.inB));have rA:=n.bq.size;have pA:=n.turn.size;have mA:=n.m1;have nA:=n.m2;have jA:=n.old;have aA:zF (fun j=>j=bn) w7 ((w7.setCell ⟨bn,off+i*8+3,none⟩ (.int .i64 (W.zPD k).zPH)).setCell ⟨bn,off+i*8+7,none⟩ nv):=(zF.put _ bn _ _).trans (zF.put _ bn _ _);have sA:=aA.size;have dA:=n.new;have bA:=n.nb;rw[<-hD]at dA bA;have cA:0<D.length->nb≠bn:=fun h0=>by
  rcases bA h0 with⟨e0,e⟩ | e
  ·rw[e];exact(h.inK h.here e0).2
  ·omega
 have eS:zCP W k i i = {W.zPD i with zPH:=(W.zPD k).zPH,dn:=D.length,ds:=zk D,db:=zn D}:=by unfold zCP zJN;rw[if_pos rfl,hD]
 have eO:∀j,j≠i->zCP W k i j=W.zPD j:=fun j hj=>if_neg hj
 have fA:∀j,j<W.pn->0<(zCP W k i j).dn->j≠k->((if j=i then nb else kb j)=nb/\j=i/\0<D.length)\/((if j=i then nb else kb j)=kb j/\j≠i/\R (kb j)/\kb j≠bn/\0<(W.zPD j).dn):=fun j hj h0 lA=>by
  by_cases e:j=i
  ·subst e;rw[eS]at h0;exact Or.inl ⟨if_pos rfl,rfl,h0⟩
  ·rw[eO j e]at h0;exact Or.inr ⟨if_neg e,e,(h.inK hj h0).1,(h.inK hj h0).2,h0⟩
 have hR:∀j,SdR bn (fun j=>if j=i then nb else kb j) k W.pn (zCP W k i) j->R j\/(mid<=j/\j<w7.heap.size):=fun j hj=>by
  rcases hj with e | ⟨a,ha,eA,h0,e⟩
  ·rw[e];exact Or.inl h.inB
  ·rcases fA a ha h0 eA with⟨e1,-,h1⟩ | ⟨e1,-,h1,-⟩
   ·rw[show j=nb from e.trans e1];rcases bA h1 with⟨e0,e2⟩ | e2
    ·rw[e2];exact Or.inl (h.inK h.here e0).1
    ·exact Or.inr e2
   ·rw[show j=kb a from e.trans e1];exact Or.inl h1
 refine⟨y0,y1,_,Q,(fun j=>if j=i then nb else kb j),(fun j=>if j=i then nv else kv j),n.box.zPF aA (by omega),⟨(aA.cell (zD n.cPB) (by omega)).trans n.cPB,(aA.cell (zD n.cIB) (by omega)).trans n.cIB⟩,(n.turnC h).trans (aA.mono (fun j e=>by omega)),n.zPE.zPF aA (fun j hj e=>?_),?_,fun j hj=>?_,fun a b ha hb eA gA iA h1 h2=>?_,fun j hj=>⟨fun hq=>?_,fun hr=>?_⟩,fun j hj hr=>?_,fun j hj=>?_⟩
 ·subst e;rcases hj with hj | hj
  ·exact h.pr _ hj h.inB
  ·omega
 ·obtain⟨sb,ub,uv,g1,g2,g3⟩:=hQ;exact⟨sb,ub,uv,(h.set n g1 g3).zPF aA (fun j hj e=>h.qr j (g3 j hj) (by rw[e];exact h.inB)),g2,g3⟩
 ·have hs:=h.snap n hj;by_cases e:j=i
  ·subst e;simp only[if_true];rw[eS];exact⟨((hs.c0.zPA _ (Or.inr (by omega))).zPA _ (Or.inr (by omega))),((hs.c1.zPA _ (Or.inr (by omega))).zPA _ (Or.inr (by omega))),((hs.c2.zPA _ (Or.inr (by omega))).zPA _ (Or.inr (by omega))),((hs.c3.set _).zPA _ (Or.inr (by omega))),((hs.c4.zPA _ (Or.inr (by omega))).zPA _ (Or.inr (by omega))),((hs.c5.zPA _ (Or.inr (by omega))).zPA _ (Or.inr (by omega))),((hs.c6.zPA _ (Or.inr (by omega))).zPA _ (Or.inr (by omega))),((hs.c7.zPA _ (Or.inr (by omega))).set _),dA.zPF aA (fun h0 e=>cA h0 e),hs.zPN,cA⟩
  ·simp only[if_neg e];rw[eO j e];exact⟨(hs.c0.zPA _ (Or.inr (by omega))).zPA _ (Or.inr (by omega)),(hs.c1.zPA _ (Or.inr (by omega))).zPA _ (Or.inr (by omega)),(hs.c2.zPA _ (Or.inr (by omega))).zPA _ (Or.inr (by omega)),(hs.c3.zPA _ (Or.inr (by omega))).zPA _ (Or.inr (by omega)),(hs.c4.zPA _ (Or.inr (by omega))).zPA _ (Or.inr (by omega)),(hs.c5.zPA _ (Or.inr (by omega))).zPA _ (Or.inr (by omega)),(hs.c6.zPA _ (Or.inr (by omega))).zPA _ (Or.inr (by omega)),(hs.c7.zPA _ (Or.inr (by omega))).zPA _ (Or.inr (by omega)),hs.zPK.zPF aA (fun h0 e=>hs.zPJ h0 e),hs.zPN,hs.zPJ⟩
 ·rcases fA a ha h1 eA with⟨e1,i1,l1⟩ | ⟨e1,i1,r1,-,d1⟩
  ·rcases fA b hb h2 gA with⟨e2,i2,l2⟩ | ⟨e2,i2,r2,-,d2⟩
   ·omega
   ·show(if a=i then nb else kb a)≠(if b=i then nb else kb b);rw[e1,e2];rcases bA l1 with⟨e0,e3⟩ | e3
    ·rw[e3];exact fun e4=>h.ap k b h.here hb (fun e5=>gA e5.symm) e0 d2 e4
    ·have:=h.lt _ (Or.inr (Or.inr r2));omega
  ·rcases fA b hb h2 gA with⟨e2,i2,l2⟩ | ⟨e2,i2,r2,-,d2⟩
   ·show(if a=i then nb else kb a)≠(if b=i then nb else kb b);rw[e1,e2];rcases bA l2 with⟨e0,e3⟩ | e3
    ·rw[e3];exact fun e4=>h.ap a k ha h.here eA d1 e0 e4
    ·have:=h.lt _ (Or.inr (Or.inr r1));omega
   ·show(if a=i then nb else kb a)≠(if b=i then nb else kb b);rw[e1,e2];exact h.ap a b ha hb iA d1 d2
 ·rcases hj with hj | hj
  ·exact h.pq j hj hq
  ·have:=h.lt j (Or.inr (Or.inl hq));omega
 ·rcases hR j hr with hr | hr
  ·rcases hj with hj | hj
   ·exact h.pr j hj hr
   ·have:=h.lt j (Or.inr (Or.inr hr));omega
  ·rcases hj with hj | hj
   ·have:=h.lt j (Or.inl hj);omega
   ·omega
 ·rcases hR j hr with hr | hr
  ·exact h.qr j hj hr
  ·have:=h.lt j (Or.inr (Or.inl hj));omega
 ·rcases hj with(hj | hj) | hj | hj
  ·have:=h.lt j (Or.inl hj);omega
  ·omega
  ·have:=h.lt j (Or.inr (Or.inl hj));omega
  ·rcases hR j hj with hr | hr
   ·have:=h.lt j (Or.inr (Or.inr hr));omega
   ·omega
theorem zOD{i sb so sc:Nat}{ub:Nat->Nat}{uv:Nat->Value}(h:SdA w C k bn off cn W P Q R kb kv)(n:SdN w wq w7 C PB IB k bn off cn nb mid y0 y1 (.slice (some ⟨sb,so,none⟩) W.sn sc) nv W x m P kb kv pl (sdD W (W.zPD k) (W.zPG i).dn (W.zPG i).ds (W.zPG i).db))(hS:qm w sb ub uv (.slice (some ⟨sb,so,none⟩) W.sn sc) W.sn W.zPG)(kA:zAG ub W.sn W.zPG)(cA:∀j,zA4 sb ub W.sn W.zPG j->Q j)(hi:i<W.sn) :
  SdE w ((w7.setCell ⟨sb,so+i*6+2,none⟩ (.int .i64 (W.zPD k).zPH)).setCell ⟨sb,so+i*6+5,none⟩ nv) C PB IB k bn off cn (.slice (some ⟨sb,so,none⟩) W.sn sc) W x pl m (zD1 W k i) W.zPD:=by
 obtain⟨D,hD⟩:∃D,D=sdD W (W.zPD k) (W.zPG i).dn (W.zPG i).ds (W.zPG i).db:=⟨_,rfl⟩;have bA:Q sb:=cA _ (Or.inl ⟨by omega,rfl⟩);have aB:=h.lt _ (Or.inr (Or.inl bA));have rA:=h.lt _ (Or.inr (Or.inr h.inB));have nA:bn≠sb:=fun e=>h.qr sb bA (by rw[<-e];exact h.inB)
 have cB:=n.bq.size;have bB:=n.turn.size;have tA:=n.m1;have vA:=n.m2;have oA:=n.old;have aA:zF (fun j=>j=sb) w7 ((w7.setCell ⟨sb,so+i*6+2,none⟩ (.int .i64 (W.zPD k).zPH)).setCell ⟨sb,so+i*6+5,none⟩ nv):=(zF.put _ sb _ _).trans (zF.put _ sb _ _);have dB:=aA.size;have eA:=n.new;have gA:=n.nb;rw[<-hD]at eA gA;have eS:zD1 W k i=fun j=>if j=i then {W.zPG i with zPH:=(W.zPD k).zPH,dn:=D.length,ds:=zk D,db:=zn D}else W.zPG j:=by unfold zD1 zL2;rw[hD]
 have dA:0<D.length->nb≠sb:=fun h0=>by
  rcases gA h0 with⟨e0,e⟩ | e
  ·rw[e];exact fun e1=>h.qr sb bA (by rw[<-e1];exact(h.inK h.here e0).1)
  ·omega
 have iA:=h.set n hS cA;have hs:yR w7 sb (so+i*6) (ub i) (uv i) (W.zPG i):=by
  obtain⟨pA,c',ev,hx⟩:=iA.nth hi;simp only[Value.slice.injEq,Option.some.injEq,Addr.mk.injEq,and_true,true_and]at ev;obtain⟨rfl,rfl⟩:=ev;exact hx
 have fA:∀j,SdR bn kb k W.pn W.zPD j->R j:=fun j hj=>by
  rcases hj with e | ⟨a,ha,-,h0,e⟩
  ·rw[e];exact h.inB
  ·rw[e];exact(h.inK ha h0).1
 refine⟨y0,y1,_,(fun j=>Q j\/(0<(W.zPD k).dn/\j=kb k)\/(mid<=j/\j<w7.heap.size)),kb,kv,n.box.zPF aA (by omega),⟨(aA.cell (zD n.cPB) (by omega)).trans n.cPB,(aA.cell (zD n.cIB) (by omega)).trans n.cIB⟩,(n.turnC h).trans (aA.mono (fun j e=>by omega)),n.zPE.zPF aA (fun j hj e=>?_),?_,fun j hj=>?_,fun a b ha hb _ _ lA h1 h2=>h.ap a b ha hb lA h1 h2,fun j hj=>⟨fun hq=>?_,fun hr=>?_⟩,fun j hj hr=>?_,fun j hj=>?_⟩
 ·subst e;rcases hj with hj | hj
  ·exact h.pq _ hj bA
  ·omega
 ·rw[eS];refine zG6 iA kA (fun j hj=>Or.inl (cA j hj)) hi (nb:=nb) (nv:=nv) (aA.mono (fun j e=>Or.inl e)) (fun j hj sA r hr u hu=>(hu.zPA _ (Or.inr (by omega))).zPA _ (Or.inr (by omega))) ⟨((hs.c0.zPA _ (Or.inr (by omega))).zPA _ (Or.inr (by omega))),((hs.c1.zPA _ (Or.inr (by omega))).zPA _ (Or.inr (by omega))),((hs.c2.set _).zPA _ (Or.inr (by omega))),((hs.c3.zPA _ (Or.inr (by omega))).zPA _ (Or.inr (by omega))),((hs.c4.zPA _ (Or.inr (by omega))).zPA _ (Or.inr (by omega))),((hs.c5.zPA _ (Or.inr (by omega))).set _),eA.zPF aA (fun h0 e=>dA h0 e),hs.zPN,dA⟩ (fun h0=>?_);rcases gA h0 with⟨e0,e⟩ | e
  ·exact⟨Or.inr (fun j hj e1=>h.qr j (cA j hj) (by rw[e1,e];exact(h.inK h.here e0).1)),Or.inr (Or.inl ⟨e0,e⟩)⟩
  ·exact⟨Or.inr (fun j hj e1=>by have:=h.lt j (Or.inr (Or.inl (cA j hj)));omega),Or.inr (Or.inr e)⟩
 ·exact(h.snap n hj).zPF aA nA (fun h0 e=>h.qr sb bA (by rw[<-e];exact(h.inK hj h0).1))
 ·rcases hj with hj | hj
  ·rcases hq with hq | ⟨e0,e⟩ | e
   ·exact h.pq j hj hq
   ·exact h.pr j hj (by rw[e];exact(h.inK h.here e0).1)
   ·have:=h.lt j (Or.inl hj);omega
  ·rcases hq with hq | ⟨e0,e⟩ | e
   ·have:=h.lt j (Or.inr (Or.inl hq));omega
   ·have:=h.lt _ (Or.inr (Or.inr (h.inK h.here e0).1));omega
   ·omega
 ·have jA:=fA j hr;rcases hj with hj | hj
  ·exact h.pr j hj jA
  ·have:=h.lt j (Or.inr (Or.inr jA));omega
 ·rcases hj with hj | ⟨e0,e⟩ | e
  ·exact h.qr j hj (fA j hr)
  ·rcases hr with e1 | ⟨a,ha,mA,h0,e1⟩
   ·exact(h.inK h.here e0).2 (e.symm.trans e1)
   ·exact h.ap a k ha h.here mA h0 e0 (e1.symm.trans e)
  ·have:=h.lt j (Or.inr (Or.inr (fA j hr)));omega
 ·rcases hj with(hj | hj) | (hj | ⟨e0,e⟩ | e) | hj
  ·have:=h.lt j (Or.inl hj);omega
  ·omega
  ·have:=h.lt j (Or.inr (Or.inl hj));omega
  ·have:=h.lt _ (Or.inr (Or.inr (h.inK h.here e0).1));omega
  ·omega
  ·have:=h.lt j (Or.inr (Or.inr (fA j hj)));omega
end
open Go.Maps
theorem zJO(v0 v1 v2:Value)(a:Option Addr)(c lo hi:Nat)(vd:Nat->Value)(W:zE)(w:World)(h:zd w lo hi v0 v1 v2 (.slice a W.pn c) W)(oA:∀i,i<W.pn->∃b off,a=some ⟨b,off,none⟩/\ye w b (off+i*8) lo hi (vd i) (W.zPD i))(hn:W.pn<=20)(sA:zD3 W.pn W.zPD) :
  Calls Tryz.prog 179 #[zt v0 v1 v2 (.slice a W.pn c) W] w fun e w'=>e = .returned (.map (some (w.heap.size+1)))/\zAL w' W (w.heap.size+1) W.pn vd/\Below w.heap.size w w':=by
 have Hp:=zB h;have bB:=zB sA;obtain⟨m1,-⟩:=id h.zPD;unfold maxLen at m1;have vA:=zB oA;clear h oA sA;have ha:=zC w (.cells #[v0,v1,.int .i64 W.time,.int .i64 W.next,v2,.slice a W.pn c] 37);have HB:=zB (zg.new w v0 v1 (.int .i64 W.time) (.int .i64 W.next) v2 (.slice a W.pn c) 37);have kA:(w.alloc (.cells #[v0,v1,.int .i64 W.time,.int .i64 W.next,v2,.slice a W.pn c] 37)).heap.size=w.heap.size+1:=World.size_alloc _ _;have hm:=World.ownsMap_made (w.alloc (.cells #[v0,v1,.int .i64 W.time,.int .i64 W.next,v2,.slice a W.pn c] 37)) Tryz.prog 2 zBV;rw[kA]at hm;have HM:=zB hm;have lA:=zB (HB.out.zO9 (zC _ (.map #[] 0)));have mA:=zB (zA ha (zC _ (.map #[] 0)));have eB:=@run_makeMap Tryz.prog;obtain⟨⟨x0,-⟩,⟨x2,-⟩,⟨x4,-⟩,⟨x6,-⟩,⟨x8,-⟩,⟨dB,-⟩⟩:=lA.out;clear hm;go_enter Tryz.func179,Tryz.ntmps179;go_wp2;clear x0 x2 x4 x6 x8 dB ha
 go_loopw [10] (fun i wr=>∃k:Nat,k<=W.pn/\i = .int .i64 k/\zAL wr W (w.heap.size+1) k vd/\Below w.heap.size w wr/\w.heap.size+2<=wr.heap.size) (fun i _=>W.pn - (intOf i).toNat)
 case atStart=>exact⟨0,Nat.zero_le _,rfl,HM.out,mA.out,by rw[World.size_alloc,kA];omega⟩
 case round=>
  clear HM lA mA HB kA;obtain⟨k,hk,rfl,eA,hb,hz⟩:=hrel;have cA:=zB eA;clear eA;by_cases pA:k<W.pn
  ·have cB:(k:Int)<(W.pn:Int):=(by omega);obtain⟨b,off,rfl,rA⟩:=vA.out k pA;have bA:=rA.zO9 hb;obtain⟨-,ad,cd,jA,-,-⟩:=id bA.zPK;have aB:=zB jA;rw[jA]at bA;clear jA rA;have gA:=zC wr (.cells #[.int .i64 (W.zPD k).id,.string (W.zPD k).name,.string (W.zPD k).set,.int .i64 (W.zPD k).zPH,.int .i64 (W.zPD k).time,.int .i64 (W.zPD k).rs,.int .i64 (W.zPD k).rb,.slice ad (W.zPD k).dn cd] 99);have tA:=zB (yx.new wr (.int .i64 (W.zPD k).id) (.string (W.zPD k).name) (.string (W.zPD k).set) (.int .i64 (W.zPD k).zPH) (.int .i64 (W.zPD k).time) (.int .i64 (W.zPD k).rs) (.int .i64 (W.zPD k).rb) (.slice ad (W.zPD k).dn cd) 99);have nA:=zA hb gA;have q0:=bA.c0;have q1:=bA.c1;have q2:=bA.c2;have q3:=bA.c3;have q4:=bA.c4;have q5:=bA.c5;have q6:=bA.c6;have q7:=bA.c7;have iA:=zB (zEz (bB.out k pA));obtain⟨⟨⟨y0,-⟩,⟨y1,-⟩,⟨y2,-⟩,⟨y3,-⟩⟩,⟨y4,-⟩,⟨y5,-⟩,⟨y6,-⟩,⟨y7,-⟩⟩:=tA.out;have dA:=zB (cA.out.zO9 gA);have fB:=gA.size;clear bA gA;go_wp2_with (first
    | (at_mapUpdate;refine wpList_mapUpdate_own _ rfl _ _ _ 218 rfl 2 99 zNP zHC zBV (w.heap.size+1) k _ rfl dA.out (by unfold maxLen;omega) _ _ _ rfl rfl iA.out _ [] (zA2 _) ?_;intro w1 fA aA)
    | go_in)
   go_roundw
   case rel=>
    refine⟨k+1,by omega,by go_num,?_,nA.grown aA nA.size (fun j hj=>by cases hj;omega),by have:=aA.size;omega⟩;unfold zAL putD qX;rw[aB.out];exact fA
   case measure=>simp[intOf];omega
  ·obtain rfl:k=W.pn:=(by omega);go_wp2;go_ret;exact⟨rfl,cA.out,hb⟩
def zIZ(w:World)(W:zE)(A:Nat)(vd:Nat->Value):Prop:=∃M,zQ w A 0 (.map (some M))/\zAL w W M W.pn vd
theorem zKR{W:zE}{vd:Nat->Value}{x:Int}{k:Nat}{a:Option Addr}{c:Nat}(hD:yy W)(hk:qM W x k)(hv:vd k = .slice a (W.zPD k).dn c):(putD (fun i=>zEQ (W.zPD i).id) (fun i=>qX (vd i) (W.zPD i)) W.pn).atKey (zEQ x) (.held (.agg #[.int .i64 0,.string ⟨#[]⟩,.string ⟨#[]⟩,.int .i64 0,.int .i64 0,.int .i64 0,.int .i64 0,.slice none 0 0])) = .held (qX (.slice a (W.zPD k).dn c) (W.zPD k)):=by
 have:=zGF (fun i=>zGg (W.zPD i).id) (fun i=>qX (vd i) (W.zPD i)) (.held (.agg #[.int .i64 0,.string ⟨#[]⟩,.string ⟨#[]⟩,.int .i64 0,.int .i64 0,.int .i64 0,.int .i64 0,.slice none 0 0])) W.pn k hk.1 (fun j h1 h2 e=>hD j h2 k h1 (zEy e).symm);rw[hk.2.1]at this;rw[this,hv]
theorem zM2(W:zE)(A k:Nat)(vd:Nat->Value)(a:Option Addr)(c:Nat)(x:Int)(w:World)(h:zIZ w W A vd)(hD:yy W)(hk:qM W x k)(hv:vd k = .slice a (W.zPD k).dn c)(hx:(Lit.int .i64 x).wf=true)(hn:W.pn<=20) :
  Calls Tryz.prog 190 #[.int .i64 x,.pointer (some ⟨A,0,none⟩)] w fun e w'=>e = .returned (qX (.slice a (W.zPD k).dn c) (W.zPD k))/\Below w.heap.size w w':=by
 obtain⟨M,hc,hm⟩:=h;have dA:=zB (zKR hD hk hv);have aA:=zB (zEz hx);clear hx hk hv;unfold qX at dA ⊢;generalize W.zPD k=S at *;have bA:=zC w (.cells #[.int .i64 0,.string ⟨#[]⟩,.string ⟨#[]⟩,.int .i64 0,.int .i64 0,.int .i64 0,.int .i64 0,.slice none 0 0] 99);have HM:=zB (hm.zO9 bA);obtain⟨x0,-⟩:=hc.zO9 bA;have cA:=zC w (.cells #[.int .i64 S.id,.string S.name,.string S.set,.int .i64 S.zPH,.int .i64 S.time,.int .i64 S.rs,.int .i64 S.rb,.slice a S.dn c] 99);obtain⟨⟨⟨y0,-⟩,⟨y1,-⟩,⟨y2,-⟩,⟨y3,-⟩⟩,⟨y4,-⟩,⟨y5,-⟩,⟨y6,-⟩,⟨y7,-⟩⟩:=yx.new w (.int .i64 S.id) (.string S.name) (.string S.set) (.int .i64 S.zPH) (.int .i64 S.time) (.int .i64 S.rs) (.int .i64 S.rb) (.slice a S.dn c) 99;clear hm hc bA;go_enter Tryz.func190,Tryz.ntmps190;go_wp2_with (first
  | (at_lookup;refine zCH _ rfl _ _ 218 rfl 2 99 zNP zHC (zFi _) M W.pn _ rfl HM.out _ _ rfl aA.out _ dA.out ?_)
  | go_in)
 refine bodyPost_ret (v:=.agg #[.int .i64 S.id,.string S.name,.string S.set,.int .i64 S.zPH,.int .i64 S.time,.int .i64 S.rs,.int .i64 S.rb,.slice a S.dn c]) (by simp[results,Tryz.results190,go_sem,y0,y1,y2,y3,y4,y5,y6,y7]) rfl ⟨rfl,cA⟩
theorem zKl(v0 v1 v2:Value)(a:Option Addr)(c lo hi:Nat)(vd:Nat->Value)(W:zE)(w:World)(h:zd w lo hi v0 v1 v2 (.slice a W.pn c) W)(cA:∀i,i<W.pn->∃b off,a=some ⟨b,off,none⟩/\ye w b (off+i*8) lo hi (vd i) (W.zPD i))(hn:W.pn<=20)(gA:zD3 W.pn W.zPD) :
  Calls Tryz.prog 152 #[zt v0 v1 v2 (.slice a W.pn c) W] w fun e w'=>∃A,e = .returned (zEJ A)/\zIZ w' W A vd/\Below w.heap.size w w':=by
 have Hp:=zB h;have dA:=zB cA;clear h cA;have jA:∀(fn:Fn) (first cap:Array Value) (w:World),(Instr.makeFunc fn first cap).run Tryz.prog w = .ok (.func fn first cap) w:=fun _ _ _ _=>rfl
 have ha:=zC w (.cells #[v0,v1,.int .i64 W.time,.int .i64 W.next,v2,.slice a W.pn c] 37);obtain⟨⟨x0,-⟩,⟨x2,-⟩,⟨x4,-⟩,⟨x6,-⟩,⟨x8,-⟩,⟨iA,-⟩⟩:=zg.new w v0 v1 (.int .i64 W.time) (.int .i64 W.next) v2 (.slice a W.pn c) 37;go_enter Tryz.func152,Tryz.ntmps152;go_wp2_with fail;clear x0 x2 x4 x6 x8 iA;generalize w.alloc (.cells #[v0,v1,.int .i64 W.time,.int .i64 W.next,v2,.slice a W.pn c] 37)=W0 at ha ⊢;refine(zJO v0 v1 v2 a c lo hi vd W W0 (Hp.out.zO9 ha) (fun i fA=>by obtain⟨b,off,e,h⟩:=dA.out i fA;exact⟨b,off,e,h.zO9 ha⟩) hn gA).mono ?_;rintro e w1 ⟨rfl,hm,bA⟩;have aA:=zC w1 (.cells #[.map (some (W0.heap.size+1))] 218);have hc:zQ (w1.alloc (.cells #[.map (some (W0.heap.size+1))] 218)) w1.heap.size 0 (.map (some (W0.heap.size+1))):=zH (heap_alloc_new _ _) rfl;have HA:=zB (show zIZ (w1.alloc (.cells #[.map (some (W0.heap.size+1))] 218)) W w1.heap.size vd from⟨_,hc,hm.zO9 aA⟩);have eA:=zA (zA ha bA) aA;clear hm bA aA hc;go_wp2;go_ret;exact⟨_,rfl,HA.out,eA⟩
theorem zKr(C lo hi k c:Nat)(vd:Nat->Value)(aa:Option Addr)(cc:Nat)(z0 z1 z2 u6 u7 u8:Value)(a:Option Addr)(W:zE)(x:Int)(w:World)(h:zd w lo hi z0 z1 z2 (.slice a W.pn c) W)(eA:∀i,i<W.pn->∃b off,a=some ⟨b,off,none⟩/\ye w b (off+i*8) lo hi (vd i) (W.zPD i))(hC:yM w C z0 z1 (.int .i64 W.time) (.int .i64 W.next) z2 (.slice a W.pn c) u6 u7 u8)(hk:qM W x k)(hv:vd k = .slice aa (W.zPD k).dn cc)(hn:W.pn<=20)(fA:zD3 W.pn W.zPD)(hD:yy W)(hx:(Lit.int .i64 x).wf=true) :
  Calls Tryz.prog 95 #[.pointer (some ⟨C,0,none⟩),.int .i64 x] w fun e w'=>e = .returned (qX (.slice aa (W.zPD k).dn cc) (W.zPD k))/\Below w.heap.size w w':=by
 have Hp:=zB h;obtain⟨l0,kA,l1,lA,l2,mA,-,-,rfl,rfl,rfl,-⟩:=h.zPO;have gA:=zB eA;have HK:=zB hk;have HV:=zB hv;have HD:=zB hD;have iA:=zB fA;have Hx:=zB hx;have ha:=zC w (.cells #[.int .i64 0,.string ⟨#[]⟩,.string ⟨#[]⟩,.int .i64 0,.int .i64 0,.int .i64 0,.int .i64 0,.slice none 0 0] 99);obtain⟨⟨x0,-⟩,⟨x1,-⟩,⟨x2,-⟩,⟨x3,-⟩,⟨x4,-⟩,⟨x5,-⟩,-⟩:=hC.zO9 ha;have HR:=zB (yx.new w (.int .i64 0) (.string ⟨#[]⟩) (.string ⟨#[]⟩) (.int .i64 0) (.int .i64 0) (.int .i64 0) (.int .i64 0) (.slice none 0 0) 99);clear h hD fA hx hC eA hk hv;obtain⟨S,hS⟩:∃S,S=W.zPD k:=⟨_,rfl⟩;rw[<-hS];unfold qX;have HS:=zB hS;clear hS;go_enter Tryz.func95,Tryz.ntmps95;go_wp2_with fail;clear x0 x1 x2 x3 x4 x5;generalize w.alloc (.cells #[.int .i64 0,.string ⟨#[]⟩,.string ⟨#[]⟩,.int .i64 0,.int .i64 0,.int .i64 0,.int .i64 0,.slice none 0 0] 99)=W1 at ha HR ⊢;refine(zKl _ _ _ a c lo hi vd W W1 (Hp.out.zO9 ha) (fun i jA=>by obtain⟨b,off,e,h⟩:=gA.out i jA;exact⟨b,off,e,h.zO9 ha⟩) hn iA.out).mono ?_;rintro e w2 ⟨A,rfl,hA,cA⟩;have HA:=zB hA;clear hA;go_wp2_with fail;refine(zM2 W A k vd aa cc x w2 HA.out HD.out HK.out HV.out Hx.out hn).mono ?_;rw[<-HS.out];unfold qX;rintro e w3 ⟨rfl,dA⟩;have hb:=zA (zA ha cA) dA;have bA:=zB ((HR.out.zO9 cA).zO9 dA);obtain⟨⟨⟨r0,g0⟩,⟨r1,g1⟩,⟨r2,g2⟩,⟨r3,g3⟩⟩,⟨r4,g4⟩,⟨r5,g5⟩,⟨r6,g6⟩,⟨r7,g7⟩⟩:=bA.out;go_wp2_with fail;have aA:=bA.out.put (.int .i64 S.id) (.string S.name) (.string S.set) (.int .i64 S.zPH) (.int .i64 S.time) (.int .i64 S.rs) (.int .i64 S.rb) (.slice aa S.dn cc);have hT:=zF.put8 w3 w.heap.size (.int .i64 S.id) (.string S.name) (.string S.set) (.int .i64 S.zPH) (.int .i64 S.time) (.int .i64 S.rs) (.int .i64 S.rb) (.slice aa S.dn cc);clear r0 g0 r1 g1 r2 g2 r3 g3 r4 g4 r5 g5 r6 g6 r7 g7;refine bodyPost_ret (v:=.agg #[.int .i64 S.id,.string S.name,.string S.set,.int .i64 S.zPH,.int .i64 S.time,.int .i64 S.rs,.int .i64 S.rb,.slice aa S.dn cc]) (by simp[results,Tryz.results95,go_sem,aA.1.1.1,aA.1.2.1.1,aA.1.2.2.1.1,aA.1.2.2.2.1,aA.2.1.1,aA.2.2.1.1,aA.2.2.2.1.1,aA.2.2.2.2.1]) rfl ⟨rfl,?_⟩
 ·exact hb.trans (hT.zO9 (B:=w.heap.size) hb.size (fun k e=>by omega))
end Go.Proofs.YtmgeglgboadfiaaGreatDoor

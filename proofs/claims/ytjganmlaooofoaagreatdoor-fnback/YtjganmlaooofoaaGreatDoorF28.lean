/- A part of the proof. -/
import Derived.Test.YtjganmlaooofoaaGreatDoorF27
import Derived.Stop.IfaceNil
set_option linter.unusedVariables false
set_option maxRecDepth 20000
set_option maxHeartbeats 4000000
namespace Go.Proofs.YtjganmlaooofoaaGreatDoor
open Go.RowKit
noncomputable def zAa(W:zB)(s:qi):List (Int×Int):=ye (zh (zM W.pool s.rs s.rb)) (zn (zM W.pool s.rs s.rb)) (zE W s.zeL).time (zM W.pool s.rs s.rb).length
theorem zQz{W:zB}{s:qi}(hR:zg W.pool)(hT:za W.pool s.rs s.rb):zBa W.pool (zAa W s):=by
 refine(zBa.tree hR hT).sub ?_;have:=zIV (zh (zM W.pool s.rs s.rb)) (zn (zM W.pool s.rs s.rb)) (zE W s.zeL).time (zM W.pool s.rs s.rb).length
 rwa [zZ4]at this
theorem zSq(C bs o2:Nat)(P Q R:Nat->Prop)(z0 z1 z2 z3 u8:Value)(id m:Int)(W:zB)(s:qi)(w:World)(sA:zEW w P Q R z0 z1 z2 z3 W)(fA:∀j,P j\/Q j\/R j->C+1<=j/\j<w.heap.size)(hC:zCE w C z0 z1 (.int .i64 W.time) (.int .i64 W.next) z2 z3 (.int .i64 id) (.int .i64 m) u8)(hs:(fun w':World=>w'.cell? ⟨bs,o2+2,none⟩=some (.int .i64 s.zeL)/\w'.cell? ⟨bs,o2+3,none⟩=some (.int .i64 s.rs)/\w'.cell? ⟨bs,o2+4,none⟩=some (.int .i64 s.rb)) w)(rA:bs≠C)(hR:zg W.pool)(hT:za W.pool s.rs s.rb)(ht:zDd (zE W s.zeL).time)(hn:W.pn<=20)(fB:zRC W.pn W.zeJ)(hD:zEU W)(hx:(Lit.int .i64 s.zeL).wf=true)(hm:0<=m)(nB:m<=900000) :
  Calls Tryz.prog 50 #[.pointer (some ⟨C,0,none⟩),.pointer (some ⟨bs,o2,none⟩)] w fun e w'=>(∃v,e = .returned v)/\∃y0 y1,zCE w' C y0 y1 (.int .i64 W.time) (.int .i64 W.next) z2 z3 (.int .i64 id) (.int .i64 (m+((zAa W s).length:Int))) u8/\zB6 w' (fun j=>P j\/(w.heap.size<=j/\j<w'.heap.size)) y0 y1 (zT W.pool (zAa W s))/\zJ (fun j=>j=C) w w':=by
 have bA:yO w 0 w.heap.size z0 z1 z2 z3 W:=zBn.at (lo:=0) (hi:=w.heap.size) ⟨P,Q,R,sA,fun k hk=>⟨Nat.zero_le _,(fA k hk).2⟩⟩;obtain⟨l0,oB,l1,pB,l2,bC,l3,cC,rfl,rfl,rfl,rfl⟩:=bA.zeQ;have pA:bs<w.heap.size:=zH hs.1;have rB:=hC.1.lt;have HC:=zC hC;have HP:=zC sA.pool;have iB:=zC (show ∀k,P k->C<k/\k<w.heap.size from fun k hk=>by have:=fA k (Or.inl hk);omega);have oA:=zC (zXI hR hT);have jA:=zC (zQz hR hT);have Ht:=zC ht;have tA:=zC (show ∀w',Below w.heap.size w w'->Calls Tryz.prog 93 #[.agg #[.slice l0 W.pool.n oB,.slice l1 W.pool.hn pB],.agg #[.int .i64 s.rs,.int .i64 s.rb]] w' fun e mA=>∃a c,e = .returned (.slice a (zM W.pool s.rs s.rb).length c)/\zBd mA w'.heap.size (.slice a (zM W.pool s.rs s.rb).length c) (zM W.pool s.rs s.rb)/\Below w'.heap.size w' mA from fun w' lA=>by
  refine(zKq _ _ 0 w.heap.size W.pool s.rs s.rb w' (bA.pool.zeF lA)).mono ?_;rintro e w2 ⟨v,l,rfl,hl,hr,iA⟩;rw[hl.1 ⟨hR,hT⟩]at hr;obtain⟨a,c,rfl,-⟩:=zs hr;exact⟨a,c,rfl,hr,iA⟩)
 have nA:=zC (show ∀w',Below w.heap.size w w'->Calls Tryz.prog 51 #[.pointer (some ⟨C,0,none⟩),.int .i64 s.zeL] w' fun e mA=>(∃a c,e = .returned (zCi (.slice a (zE W s.zeL).dn c) (zE W s.zeL)))/\Below w'.heap.size w' mA from fun w' lA=>by
  refine(zLK C 0 w.heap.size _ _ _ _ _ _ _ W s.zeL w' (bA.zeF lA) (hC.zeF lA) hn fB hD hx).mono ?_;rintro e w2 ⟨a,c,rfl,iA⟩;exact⟨⟨a,c,rfl⟩,iA⟩)
 have gA:=zC (show ∀w',Below w.heap.size w w'->(fun w':World=>w'.cell? ⟨bs,o2+2,none⟩=some (.int .i64 s.zeL)/\w'.cell? ⟨bs,o2+3,none⟩=some (.int .i64 s.rs)/\w'.cell? ⟨bs,o2+4,none⟩=some (.int .i64 s.rb)) w' from fun w' hb=>⟨(hb.cell (p:=⟨bs,o2+2,none⟩) pA).trans hs.1,(hb.cell (p:=⟨bs,o2+3,none⟩) pA).trans hs.2.1,(hb.cell (p:=⟨bs,o2+4,none⟩) pA).trans hs.2.2⟩);have tB:∀(fn:Fn) (first cap:Array Value) (w:World),(Instr.makeFunc fn first cap).run Tryz.prog w = .ok (.func fn first cap) w:=fun _ _ _ _=>rfl
 have cA:Below w.heap.size w w.drew:=(Below.refl _ _).drew;obtain⟨⟨x0,-⟩,⟨x1,-⟩,-⟩:=hC.zeF cA;unfold zAa at jA ⊢;generalize zM W.pool s.rs s.rb=L at oA jA tA ⊢;generalize zE W s.zeL=A at jA nA Ht ⊢;unfold zCi at nA;have sB:=fun (a:Option Addr) (c:Nat) (w:World)=>zRk (.slice a A.dn c) A w
 clear sA fA hC hs hR hT ht hn fB hD hx bA;go_enter Tryz.func50,Tryz.ntmps50;go_wp2_with fail;refine wp_region_held_drew (S:=(fun w':World=>w'.cell? ⟨bs,o2+2,none⟩=some (.int .i64 s.zeL)/\w'.cell? ⟨bs,o2+3,none⟩=some (.int .i64 s.rs)/\w'.cell? ⟨bs,o2+4,none⟩=some (.int .i64 s.rb))) (by kernel_rfl) (gA.out _ cA) (fun hHeld=>?_);generalize w.drew=q0 at hHeld x0 x1 cA ⊢;refine tk 0 (h:=tk 1 (h:=tk 2 (h:=tk 3 (h:=tk 5 (h:=tk 6 (h:=tk 7 (h:=tk 8 (h:=tk 10 (h:=tk 11 (h:=tk 12 (h:=tk 13 (h:=tk 14 (h:=tk 17 (h:=tk 18 (h:=?_)))))))))))))));refine rd [4] (rc (fun K hK=>?_) .nil);go_simp
 (try go_wp2_with fail)
 refine hK.out _ _ (gA.out _ cA) ?_;clear hK K;intro hHeld
 try simp only[Act.put,s1,s2,s3]
 clear x0 x1;refine rd [9] (rc (fun K hK=>?_) .nil);go_simp;go_at_call 93;refine(tA.out _ cA).mono ?_;rintro e w2 ⟨a2,c2,rfl,eB,iA⟩;have kB:=zC eB;have dA:=zA cA iA;clear eB
 (try go_wp2_with fail)
 refine hK.out _ _ (gA.out _ dA) ?_;clear hK K;intro hHeld
 try simp only[Act.put,s1,s2,s3]
 refine rd [15] (rc (fun K hK=>?_) .nil);go_simp;go_at_call 51;refine(nA.out _ dA).mono ?_;rintro e w3 ⟨⟨a3,c3,rfl⟩,bB⟩;have aA:=zA dA bB;have lB:=zC (zBd.zeF kB.out bB)
 (try go_wp2_with fail)
 refine hK.out _ _ (gA.out _ aA) ?_;clear hK K;intro hHeld
 try simp only[Act.put,s1,s2,s3]
 refine tk 16 (h:=?_);refine rd [19] (rc (fun K hK=>?_) .nil);go_simp;go_at_call 92;have vB:=cA.size;have aC:=aA.size;have cB:qn w3 0 w3.heap.size (.slice a2 L.length c2) L.length (zh L) (zn L):=by
  obtain⟨b,ho,hb⟩:=zBd.own lB.out (by have:=oA.out.1;unfold maxLen;omega);exact ho.at (fun h0=>⟨Nat.zero_le _,(hb h0).2.2⟩)
 refine(zWs C 0 w3.heap.size L.length P _ _ _ _ u8 _ W.time W.next id m A.time W.pool (zh L) (zn L) w3 cB oA.out Ht.out jA.out (HC.out.zeF aA) (HP.out.zeF aA) (fun k hk=>by have:=iB.out k hk;omega) hm nB).mono ?_;rintro e wz ⟨vo,y0,y1,rfl,-,vA,aB,kA⟩;have gB:=zC vA;have jB:=zC aB;have mB:=zC (show zJ (fun j=>j=C) w wz from(zJ.zeH aA).trans kA);clear vA aB cB
 (try go_wp2_with fail)
 refine hK.out _ _ ?_ ?_
 ·have h:=gA.out _ aA;have eA:bs<w3.heap.size:=(by omega);exact⟨(kA.cell (o:=o2+2) eA rA).trans h.1,(kA.cell (o:=o2+3) eA rA).trans h.2.1,(kA.cell (o:=o2+4) eA rA).trans h.2.2⟩
 clear hK K hHeld;intro hHeld
 try simp only[Act.put,s1,s2,s3]
 refine wpAnyH_done (by kernel_rfl) ?_ _;go_wp2_with fail;go_end0;exact⟨⟨_,rfl⟩,y0,y1,gB.out,jB.out.mono (fun j h=>h.imp (fun h=>h) (fun h=>⟨by omega,h.2⟩)),mB.out⟩
theorem zTP(s:qi)(a:Option Addr)(c B:Nat)(name:ByteArray)(w:World)(h0:w.cell? ⟨B,0,none⟩=some (.string name)) :
  Calls Tryz.prog 91 #[.agg #[.string s.name,.int .i64 s.origin,.int .i64 s.zeL,.int .i64 s.rs,.int .i64 s.rb,.slice a s.dn c],.pointer (some ⟨B,0,none⟩)] w fun e w'=>zL (s.name=name) e/\Below w.heap.size w w':=by
 have ha:=zD w (.cells #[.string s.name,.int .i64 s.origin,.int .i64 s.zeL,.int .i64 s.rs,.int .i64 s.rb,.slice a s.dn c] 44);have k0:=(ha.cell (zH h0)).trans h0;clear h0;obtain⟨x0,x1,x2,x3,x4,x5⟩:=(zAN.new w (.string s.name) (.int .i64 s.origin) (.int .i64 s.zeL) (.int .i64 s.rs) (.int .i64 s.rb) (.slice a s.dn c) 44).c;by_cases e1:s.name=name
 ·skip;have a1:=zN0 e1;have H:=zC e1;clear e1;go_enter Tryz.func91,Tryz.ntmps91;go_wp2;go_ret;exact⟨zL.yes H.out,ha⟩
 ·skip;have a1:=zN1 e1;have H:=zC e1;clear e1;go_enter Tryz.func91,Tryz.ntmps91;go_wp2;go_ret;exact⟨zL.no H.out,ha⟩
theorem zYJ{n k:Nat}{f:Nat->qi}{name:ByteArray}{e:Ending}(hn:(f k).name=name)(hf:∀j,j<k->(f j).name≠name)(hk:k<n)
  (hr:(∃i:Nat,i<n/\(f i).name=name/\(∀j,j<i->¬(f j).name=name)/\e = .returned (.int .i64 (i:Int)))\/((∀j,j<n->¬(f j).name=name)/\e = .returned (.int .i64 (-1)))):e = .returned (.int .i64 (k:Int)):=by
 rcases hr with⟨i,hi,h1,h2,rfl⟩ | ⟨h1,_⟩
 ·obtain rfl:i=k:=by
   rcases Nat.lt_trichotomy i k with h | h | h
   ·exact absurd h1 (hf i h)
   ·exact h
   ·exact absurd hn (h2 k h)
  rfl
 ·exact absurd hn (h1 k hk)
theorem zO0(C lo hi n k c2:Nat)(a2:Option Addr)(f:Nat->qi)(name:ByteArray)(w:World)(hc:w.cell? ⟨C,4,none⟩=some (.slice a2 n c2))(hS:zCo w lo hi (.slice a2 n c2) n f)(hn:n<=8)(hk:k<n)(bA:(f k).name=name)(aA:∀j,j<k->(f j).name≠name) :
  Calls Tryz.prog 49 #[.pointer (some ⟨C,0,none⟩),.string name] w fun e w'=>(∃b off,a2=some ⟨b,off,none⟩/\e = .returned (.pointer (some ⟨b,off+k*6,none⟩)))/\Below w.heap.size w w':=by
 have Hp:=zC hS;have Hn:=zC bA;have Hf:=zC aA;obtain⟨b,off,vd,rfl,-⟩:=hS.cells hk;clear hS bA aA;have ha:=zD w (.cells #[.string name] 9);have c0:(w.alloc (.cells #[.string name] 9)).cell? ⟨w.heap.size,0,none⟩=some (.string name):=World.cell?_alloc_at _ _ _ _ rfl;have eA:=(ha.cell (zH hc)).trans hc;have C0:=zC c0;have lA:(k:Int)<(n:Int):=by omega
 clear c0 hc;go_enter Tryz.func49,Tryz.ntmps49;go_wp2_with fail;generalize w.alloc (.cells #[.string name] 9)=W1 at ha eA C0 ⊢;have IX:=zC (show ∀w',Below W1.heap.size W1 w'->Calls Tryz.prog 90 #[.slice (some ⟨b,off,none⟩) n c2,.func (.func 91) #[] #[.pointer (some ⟨w.heap.size,0,none⟩)]] w' fun e fA=>e = .returned (.int .i64 (k:Int))/\Below w'.heap.size w' fA from fun w' gA=>by
  refine(zJz 91 #[.pointer (some ⟨w.heap.size,0,none⟩)] (enters_of Tryz.func91 (by kernel_rfl) rfl) (fun i=>(f i).name=name) _ n lo hi f w' ((Hp.out.zeF ha).zeF gA) (by omega) (fun i kA a c fA iA hp=>zTP (f i) a c _ name fA (((zA gA iA).cell (zH C0.out)).trans C0.out))).mono ?_;rintro e w2 ⟨hr,dA⟩;exact⟨zYJ Hn.out Hf.out hk hr,dA⟩)
 go_region_held3 (fun w'=>w'.cell? ⟨C,4,none⟩=some (.slice (some ⟨b,off,none⟩) n c2)) (go_keep)
  (first | (go_at_call 90;refine(IX.out _ (Below.refl _ _).drew).mono ?_;rintro e w2 ⟨rfl,dA⟩;have cA:=qF dA;have jA:=(cA.cell (zH eA)).trans eA))
 go_wp2;go_ret;exact⟨⟨b,off,rfl,rfl⟩,zA ha cA⟩
open Go.Extern.Stop Go.Stop Go.Extern
def zMI(w:World)(b:Nat)(p:Nat->Addr):Prop:=∀k,k<7->w.cell? ⟨b,k*2,none⟩=some (yg (p k))/\w.cell? ⟨b,k*2+1,none⟩=some (.int .i64 (zHf k))
theorem zMI.zeF{w w':World}{b:Nat}{p:Nat->Addr}(h:zMI w b p)(t:Below w.heap.size w w'):zMI w' b p:=
 fun k hk=>⟨(t.cell (zH (h k hk).1)).trans (h k hk).1,(t.cell (zH (h k hk).2)).trans (h k hk).2⟩
theorem zMI.new(p:Nat->Addr)(w:World):zMI (w.alloc (.cells (zZy p) 132)) w.heap.size p:=
 fun k hk=>⟨(zK (heap_alloc_new _ _) (zVy p hk).1).1,(zK (heap_alloc_new _ _) (zVy p hk).2).1⟩
theorem zMa(p:Nat->Addr)(i:Nat)(hi:i<7)(w:World)(h:zF1 w p):Calls Tryz.prog 54 #[yg (p i)] w fun e w'=>e = .returned (.int .i64 (zHf i))/\Below w.heap.size w w':=by
 have HE:=zR h;clear h;have ha:=zD w (.cells (zZy p) 132);have HR:=zR (zMI.new p w);go_enter Tryz.func54,Tryz.ntmps54;go_wp2_with fail;refine(zQt p _ HE.out).mono ?_;rintro e wa ⟨rfl,rfl⟩;go_wp2
 go_loopw [7] (fun i' wr=>∃k:Nat,k<=i/\i' = .int .i64 k/\zMI wr w.heap.size p/\Below w.heap.size w wr) (fun i _=>7 - (intOf i).toNat)
 case atStart=>exact⟨0,Nat.zero_le _,rfl,HR.out,ha⟩
 case round=>
  obtain⟨k,hk,rfl,hR,hb⟩:=hrel;have fA:(k:Int)<7:=(by omega);obtain⟨q0,q1⟩:=hR k (by omega);have eA:=zR hR;clear hR;have hn:=zD wr (.cells #[yg (p k),.int .i64 (zHf k)] 132);have aA:=zA hb hn;have bA:=zR (eA.out.zeF hn);have z0:(wr.alloc (.cells #[yg (p k),.int .i64 (zHf k)] 132)).cell? ⟨wr.heap.size,0,none⟩=some (yg (p k)):=(zK (heap_alloc_new _ _) rfl).1;have z1:(wr.alloc (.cells #[yg (p k),.int .i64 (zHf k)] 132)).cell? ⟨wr.heap.size,1,none⟩=some (.int .i64 (zHf k)):=(zK (heap_alloc_new _ _) rfl).1;go_wp2_with fail;generalize wr.alloc (.cells #[yg (p k),.int .i64 (zHf k)] 132)=W5 at z0 z1 hn aA bA ⊢;clear q0 q1;by_cases he:k=i
  ·subst he;refine(za8 (p k) _).mono ?_;rintro e wz ⟨rfl,rfl⟩;go_wp2;go_ret;exact⟨rfl,aA⟩
  ·obtain⟨ca,ta,cA⟩:=(HE.out.zeF aA).row i hi;obtain⟨cb,tb,dA⟩:=(HE.out.zeF aA).row k (by omega);refine(zYf (p i) (p k) ca cb ta tb _ (HE.out.ne i k hi (by omega) (Ne.symm he)) cA dA).mono ?_;rintro e wz ⟨rfl,rfl⟩;clear cA dA;go_wp2;go_roundw
   case rel=>exact⟨k+1,by omega,by go_num,bA.out,aA⟩
   case measure=>simp[intOf];omega
def zMD(p:Nat->Addr)(o:zAk)(C:Nat)(w:World)(e:Ending)(w':World):Prop:=
 (∃v,e = .returned v)/\Below C w w'/\C<w'.heap.size/\((o.code=0/\∃z0 z1 z2 z3,zCE w' C z0 z1 (.int .i64 o.world.time) (.int .i64 o.world.next) z2 z3 (.int .i64 o.id) (.int .i64 o.many) .nilIface/\zBn w' (C+1) w'.heap.size z0 z1 z2 z3 o.world)\/(∃i,i<7/\o=qD (zHf i)/\∃z0 z1 z2 z3 z4 z5 z6 z7,zCE w' C z0 z1 z2 z3 z4 z5 z6 z7 (yg (p i))))
theorem zZh(p:Nat->Addr)(tv nv qv:Value)(gd:Nat)(eA:Array Value)(nt nn m:Nat)(tx nx:Nat->ByteArray)(g:Nat->Nat)(lb:Nat->Array Value)(ei:Nat->Nat)(Q:Nat->Prop)(o:zAk)(v0 v1 v2 v3:Value)(lo hi:Nat)(W:zB)(w:World)(hE:zF1 w p)(h:yO w lo hi v0 v1 v2 v3 W)(fD:zCs W)(b1:qs W.pool<=1048576)(b2:W.sn<=1048576)(b3:W.pn<=1048576)(b4:zGm W)
  (ht:zB2 w tv nt tx) (hn:zB2 w nv nn nx) (hq:zFk w p qv m g lb ei) (lC:∀i,i<m->ei i<7) (eg:∀i,i<m->Enters Tryz.prog (g i)) (ed:Enters Tryz.prog gd)
  (hQ:∀i,i<m->∀w',Below w.heap.size w w'->zCa W->(∀j,j<i->Q j)->Calls Tryz.prog (g i) (#[zA8 v0 v1 v2 v3 W] ++ lb i) w' fun e iD=>zL (Q i) e/\Below w'.heap.size w' iD)
  (hD:∀C w' z0 z1 z2 z3,w.heap.size<=C->Below w.heap.size w w'->C<w'.heap.size->zCa W->(¬∃i,i<nt/\8000<(tx i).size)->(¬∃i,i<nn/\¬zA0 (nx i))->(∀j,j<m->Q j)->yk w' (C+1) w'.heap.size z0 z1 z2 z3 W->zCE w' C z0 z1 (.int .i64 W.time) (.int .i64 W.next) z2 z3 (.int .i64 0) (.int .i64 0) .nilIface->Calls Tryz.prog gd (#[.pointer (some ⟨C,0,none⟩)] ++ eA) w' (zMD p o C w')) :
  Calls Tryz.prog 22 #[.agg #[tv,nv,qv,.func (.func gd) #[] eA],zA8 v0 v1 v2 v3 W] w fun e w'=>∃r,zLl W (∃i,i<nt/\8000<(tx i).size) (∃i,i<nn/\¬zA0 (nx i)) m Q ei r/\zFn (zKy r o) w e w':=by
 have Hp:=zR h;have HE:=zR hE;have Ht:=zR ht;have Hn:=zR hn;have Hq:=zR hq;have HQ:=zR hQ;have oC:=zR hD;have Hg:=zR eg;have rC:=zR ed;have sC:=zR lC;obtain⟨t1,ta,tc,rfl,-⟩:=ht;obtain⟨n1,na,nc,rfl,-⟩:=hn;obtain⟨m1,qa,qc,rfl,-⟩:=hq;clear h hE hQ eg hD ed lC;have kC:=zD w (.cells #[.slice ta nt tc,.slice na nn nc,.slice qa m qc,.func (.func gd) #[] eA] 62);have pB:=zD (w.alloc (.cells #[.slice ta nt tc,.slice na nn nc,.slice qa m qc,.func (.func gd) #[] eA] 62)) (.cells #[v0,v1,.int .i64 W.time,.int .i64 W.next,v2,v3] 30);have dA:=zD ((w.alloc (.cells #[.slice ta nt tc,.slice na nn nc,.slice qa m qc,.func (.func gd) #[] eA] 62)).alloc (.cells #[v0,v1,.int .i64 W.time,.int .i64 W.next,v2,v3] 30)) (.cells #[.slice none 0 0,.slice none 0 0,.int .i64 0,.int .i64 0,.slice none 0 0,.slice none 0 0,.int .i64 0,.int .i64 0,.int .i64 0] 34);have hb:=zA (zA kC pB) dA;have hd:=((zTB.new w (.slice ta nt tc) (.slice na nn nc) (.slice qa m qc) (.func (.func gd) #[] eA) 62).zeF pB).zeF dA;have hx:=(zAN.new (w.alloc (.cells #[.slice ta nt tc,.slice na nn nc,.slice qa m qc,.func (.func gd) #[] eA] 62)) (v0) (v1) (.int .i64 W.time) (.int .i64 W.next) (v2) (v3) 30).zeF dA;have hr:=zCE.new ((w.alloc (.cells #[.slice ta nt tc,.slice na nn nc,.slice qa m qc,.func (.func gd) #[] eA] 62)).alloc (.cells #[v0,v1,.int .i64 W.time,.int .i64 W.next,v2,v3] 30)) (.slice none 0 0) (.slice none 0 0) (.int .i64 0) (.int .i64 0) (.slice none 0 0) (.slice none 0 0) (.int .i64 0) (.int .i64 0) (.int .i64 0) 34;rw[World.size_alloc]at hx;rw[World.size_alloc,World.size_alloc]at hr;have hz:w.heap.size+3<=(((w.alloc (.cells #[.slice ta nt tc,.slice na nn nc,.slice qa m qc,.func (.func gd) #[] eA] 62)).alloc (.cells #[v0,v1,.int .i64 W.time,.int .i64 W.next,v2,v3] 30)).alloc (.cells #[.slice none 0 0,.slice none 0 0,.int .i64 0,.int .i64 0,.slice none 0 0,.slice none 0 0,.int .i64 0,.int .i64 0,.int .i64 0] 34)).heap.size:=by rw[World.size_alloc,World.size_alloc,World.size_alloc];omega
 have HD:=zR hd;have HX:=zR hx;have HR:=zR hr;clear hd hx hr;have eD:=fun (w:World) (a:Addr)=>run_store Tryz.prog w a (.func (.func gd) #[] eA) .plain rfl
 obtain⟨⟨d0,-⟩,⟨d1,-⟩,⟨d2,-⟩,⟨d3,-⟩⟩:=HD.out;obtain⟨x0,x1,x2,x3,x4,x5⟩:=HX.out.c;go_enter Tryz.func22,Tryz.ntmps22;go_wp2_with fail;clear d0 d1 d2 d3 x0 x1 x2 x3 x4 x5 eD;generalize (((w.alloc (.cells #[.slice ta nt tc,.slice na nn nc,.slice qa m qc,.func (.func gd) #[] eA] 62)).alloc (.cells #[v0,v1,.int .i64 W.time,.int .i64 W.next,v2,v3] 30)).alloc (.cells #[.slice none 0 0,.slice none 0 0,.int .i64 0,.int .i64 0,.slice none 0 0,.slice none 0 0,.int .i64 0,.int .i64 0,.int .i64 0] 34))=W1 at hb HD HX HR hz ⊢;clear kC pB dA;refine(zSe p _ _ _ _ nt nn m tx nx g lb ei Q _ _ _ _ lo hi W W1 (HE.out.zeF hb) (Hp.out.zeF hb) fD (Ht.out.zeF hb) (Hn.out.zeF hb) (Hq.out.zeF hb) Hg.out (fun i hi w' tC=>HQ.out i hi w' (zA hb tC))).mono ?_;rintro e w2 ⟨r,rfl,cB,dA⟩;have cA:=zR cB;have fC:=zA hb dA;have kD:=dA.size;have nC:=zR (HD.out.zeF dA);have pC:=zR (HX.out.zeF dA);have cC:=zR (HR.out.zeF dA);clear cB dA hb HD HX HR;cases r with
 | some i=>
  have rB:i<7:=by
   rcases cA.out with⟨_,e⟩ | ⟨_,_,e⟩ | ⟨_,_,_,k,hk,_,_,e⟩ | ⟨_,_,_,_,e⟩
   ·simp at e;omega
   ·simp at e;omega
   ·have:=sC.out k hk;simp at e;omega
   ·simp at e
  unfold zdE;have gA:=zD w2 (.cells #[.slice none 0 0,.slice none 0 0,.int .i64 0,.int .i64 0,.slice none 0 0,.slice none 0 0,.int .i64 0,.int .i64 0,yg (p i)] 92);have HC:=zR (zCE.new w2 (.slice none 0 0) (.slice none 0 0) (.int .i64 0) (.int .i64 0) (.slice none 0 0) (.slice none 0 0) (.int .i64 0) (.int .i64 0) (yg (p i)) 92);have HR:=zR (cC.out.zeF gA);have nA:=zA fC gA;obtain⟨-,-,-,-,-,-,-,-,⟨c8,-⟩⟩:=HC.out;go_wp2_with fail;clear c8;generalize w2.alloc (.cells #[.slice none 0 0,.slice none 0 0,.int .i64 0,.int .i64 0,.slice none 0 0,.slice none 0 0,.int .i64 0,.int .i64 0,yg (p i)] 92)=W3 at HC HR nA ⊢;generalize w2.heap.size=C at HC ⊢;clear gA;obtain⟨-,-,-,-,-,-,-,-,⟨c8,-⟩⟩:=HC.out;go_wp2_with fail;refine(zMa p i rB _ (HE.out.zeF nA)).mono ?_;rintro e wz ⟨rfl,vA⟩;have tA:=zA nA vA;have pA:=zR (HR.out.zeF vA);clear c8;obtain⟨⟨r0,g0⟩,⟨r1,g1⟩,⟨r2,g2⟩,⟨r3,g3⟩,⟨r4,g4⟩,⟨r5,g5⟩,⟨r6,g6⟩,⟨r7,g7⟩,⟨r8,g8⟩⟩:=pA.out;go_wp2_with fail;have aA:=pA.out.put (.slice none 0 0) (.slice none 0 0) (.int .i64 0) (.int .i64 0) (.slice none 0 0) (.slice none 0 0) (.int .i64 0) (.int .i64 0) (.int .i64 (zHf i));have hT:=zJ.put9 wz (w.heap.size+1+1) (.slice none 0 0) (.slice none 0 0) (.int .i64 0) (.int .i64 0) (.slice none 0 0) (.slice none 0 0) (.int .i64 0) (.int .i64 0) (.int .i64 (zHf i));clear r0 r1 r2 r3 r4 r5 r6 r7 r8 g0 g1 g2 g3 g4 g5 g6 g7 g8;refine bodyPost_ret (v:=.agg #[.slice none 0 0,.slice none 0 0,.int .i64 0,.int .i64 0,.slice none 0 0,.slice none 0 0,.int .i64 0,.int .i64 0,.int .i64 (zHf i)]) (by simp[results,Tryz.results22,go_sem,aA.1.1,aA.2.1.1,aA.2.2.1.1,aA.2.2.2.1.1,aA.2.2.2.2.1.1,aA.2.2.2.2.2.1.1,aA.2.2.2.2.2.2.1.1,aA.2.2.2.2.2.2.2.1.1,aA.2.2.2.2.2.2.2.2.1]) rfl ⟨some i,cA.out,?_⟩;exact⟨_,_,_,_,rfl,zVg,tA.trans (hT.zeF (B:=w.heap.size) tA.size (fun k e=>by omega))⟩
 | none=>
  unfold zdE;have gA:=zD w2 (.cells #[.slice none 0 0,.slice none 0 0,.int .i64 0,.int .i64 0,.slice none 0 0,.slice none 0 0,.int .i64 0,.int .i64 0,.nilIface] 92);have HC:=zR (zCE.new w2 (.slice none 0 0) (.slice none 0 0) (.int .i64 0) (.int .i64 0) (.slice none 0 0) (.slice none 0 0) (.int .i64 0) (.int .i64 0) (.nilIface) 92);have iB:=zR (cC.out.zeF gA);have jB:=zR (pC.out.zeF gA);have gB:=zR (nC.out.zeF gA);have nA:=zA fC gA;have mC:w2.heap.size<(w2.alloc (.cells #[.slice none 0 0,.slice none 0 0,.int .i64 0,.int .i64 0,.slice none 0 0,.slice none 0 0,.int .i64 0,.int .i64 0,.nilIface] 92)).heap.size:=(by rw[World.size_alloc];omega);obtain⟨-,-,-,-,-,-,-,-,⟨c8,-⟩⟩:=HC.out;obtain⟨x0,x1,x2,x3,x4,x5⟩:=jB.out.c;go_wp2_with fail;clear c8 x0 x1 x2 x3 x4 x5;generalize w2.alloc (.cells #[.slice none 0 0,.slice none 0 0,.int .i64 0,.int .i64 0,.slice none 0 0,.slice none 0 0,.int .i64 0,.int .i64 0,.nilIface] 92)=W3 at HC iB jB gB nA mC ⊢;generalize jD:w2.heap.size=C at HC mC ⊢;clear gA;refine(zLn _ _ _ _ lo hi W W3 (Hp.out.zeF nA) b1 b2 b3 b4).mono ?_;rintro e w4 ⟨z0,z1,z2,z3,rfl,ho,oA⟩;obtain⟨l0,iA,l1,jA,l2,kA,l3,lA,rfl,rfl,rfl,rfl⟩:=ho.zeQ;have iC:=zA nA oA;have lD:=oA.size;have fB:=zR (HC.out.zeF oA);have dC:=zR (iB.out.zeF oA);have bC:=zR (gB.out.zeF oA);have Ho:=zR ho;clear ho HC iB jB gB oA;obtain⟨⟨c0,f0⟩,⟨c1,f1⟩,⟨c2,f2⟩,⟨c3,f3⟩,⟨c4,f4⟩,⟨c5,f5⟩,⟨c6,f6⟩,⟨c7,f7⟩,⟨c8,f8⟩⟩:=fB.out;obtain⟨⟨d0,-⟩,⟨d1,-⟩,⟨d2,-⟩,⟨d3,-⟩⟩:=bC.out;have vC:C≠w.heap.size:=(by omega);have aD:w.heap.size≠C:=(by omega);have e0:∀(args:Array Value) (w:World),(callFunc gd args).run Tryz.prog w = .ok (.enter gd args) w:=rC.out;go_wp2_with fail;clear c0 c1 c2 c3 c4 c5 c6 c7 c8 f0 f1 f2 f3 f4 f5 f6 f7 f8 d0 d1 d2 d3 e0;have hT:zJ (fun k=>k=C) w4 ((((((w4.setCell ⟨C,0,none⟩ (.slice l0 W.pool.n iA)).setCell ⟨C,1,none⟩ (.slice l1 W.pool.hn jA)).setCell ⟨C,2,none⟩ (.int .i64 W.time)).setCell ⟨C,3,none⟩ (.int .i64 W.next)).setCell ⟨C,4,none⟩ (.slice l2 W.sn kA)).setCell ⟨C,5,none⟩ (.slice l3 W.pn lA)):=zJ.put6 w4 C (.slice l0 W.pool.n iA) (.slice l1 W.pool.hn jA) (.int .i64 W.time) (.int .i64 W.next) (.slice l2 W.sn kA) (.slice l3 W.pn lA);have lB:zCE ((((((w4.setCell ⟨C,0,none⟩ (.slice l0 W.pool.n iA)).setCell ⟨C,1,none⟩ (.slice l1 W.pool.hn jA)).setCell ⟨C,2,none⟩ (.int .i64 W.time)).setCell ⟨C,3,none⟩ (.int .i64 W.next)).setCell ⟨C,4,none⟩ (.slice l2 W.sn kA)).setCell ⟨C,5,none⟩ (.slice l3 W.pn lA)) C (.slice l0 W.pool.n iA) (.slice l1 W.pool.hn jA) (.int .i64 W.time) (.int .i64 W.next) (.slice l2 W.sn kA) (.slice l3 W.pn lA) (.int .i64 0) (.int .i64 0) (.nilIface):=zCE.six fB.out (.slice l0 W.pool.n iA) (.slice l1 W.pool.hn jA) (.int .i64 W.time) (.int .i64 W.next) (.slice l2 W.sn kA) (.slice l3 W.pn lA);have oB:=dC.out.zeG hT (by omega);have mB:yk ((((((w4.setCell ⟨C,0,none⟩ (.slice l0 W.pool.n iA)).setCell ⟨C,1,none⟩ (.slice l1 W.pool.hn jA)).setCell ⟨C,2,none⟩ (.int .i64 W.time)).setCell ⟨C,3,none⟩ (.int .i64 W.next)).setCell ⟨C,4,none⟩ (.slice l2 W.sn kA)).setCell ⟨C,5,none⟩ (.slice l3 W.pn lA)) W3.heap.size w4.heap.size (.slice l0 W.pool.n iA) (.slice l1 W.pool.hn jA) (.slice l2 W.sn kA) (.slice l3 W.pn lA) W:=Ho.out.put6 C (.slice l0 W.pool.n iA) (.slice l1 W.pool.hn jA) (.int .i64 W.time) (.int .i64 W.next) (.slice l2 W.sn kA) (.slice l3 W.pn lA) (Or.inl (by omega));have kB:=iC.trans (hT.zeF (B:=w.heap.size) iC.size (fun k e=>by omega));have gD:=hT.size;generalize ((((((w4.setCell ⟨C,0,none⟩ (.slice l0 W.pool.n iA)).setCell ⟨C,1,none⟩ (.slice l1 W.pool.hn jA)).setCell ⟨C,2,none⟩ (.int .i64 W.time)).setCell ⟨C,3,none⟩ (.int .i64 W.next)).setCell ⟨C,4,none⟩ (.slice l2 W.sn kA)).setCell ⟨C,5,none⟩ (.slice l3 W.pn lA))=W5 at lB oB mB kB gD ⊢;have eC:=zR oB;clear oB hT Ho fB dC bC;have bB:(¬∃i,i<nt/\8000<(tx i).size)/\zCa W/\(¬∃i,i<nn/\¬zA0 (nx i))/\(∀j,j<m->Q j):=by
   rcases cA.out with⟨_,e⟩ | ⟨_,_,e⟩ | ⟨_,_,_,k,hk,_,_,e⟩ | ⟨h1,h2,h3,h4,e⟩
   ·cases e
   ·cases e
   ·cases e
   ·exact⟨h1,h2,h3,h4⟩
  refine(oC.out C W5 _ _ _ _ (by omega) kB (by omega) bB.2.1 bB.1 bB.2.2.1 bB.2.2.2 (mB.wide (by omega) (by omega)) lB).mono ?_;rintro e w6 ⟨⟨ve,rfl⟩,fA,mD,aB⟩;have jC:zCE w6 (w.heap.size+1+1) (.slice none 0 0) (.slice none 0 0) (.int .i64 0) (.int .i64 0) (.slice none 0 0) (.slice none 0 0) (.int .i64 0) (.int .i64 0) (.int .i64 0):=by
   obtain⟨r0,r1,r2,r3,r4,r5,r6,r7,r8⟩:=eC.out;have bA:w.heap.size+1+1<C:=(by omega);exact⟨r0.under fA bA,r1.under fA bA,r2.under fA bA,r3.under fA bA,r4.under fA bA,r5.under fA bA,r6.under fA bA,r7.under fA bA,r8.under fA bA⟩
  have HR:=zR jC;have eB:Below w.heap.size w w6:=kB.trans (fA.mono (by omega));clear bB lB mB eC jC;rcases aB with⟨mA,z0,z1,z2,z3,sA,nB⟩ | ⟨i,rB,ho,z0,z1,z2,z3,z4,z5,z6,z7,sA⟩;rotate_left
  ·have HC:=zR sA;clear sA;obtain⟨-,-,-,-,-,-,-,-,⟨c8,-⟩⟩:=HC.out;go_wp2_with fail;refine(zMa p i rB _ (HE.out.zeF eB)).mono ?_;rintro e wz ⟨rfl,vA⟩;have tA:=zA eB vA;have pA:=zR (HR.out.zeF vA);clear c8;obtain⟨⟨r0,g0⟩,⟨r1,g1⟩,⟨r2,g2⟩,⟨r3,g3⟩,⟨r4,g4⟩,⟨r5,g5⟩,⟨r6,g6⟩,⟨r7,g7⟩,⟨r8,g8⟩⟩:=pA.out;go_wp2_with fail;have aA:=pA.out.put (.slice none 0 0) (.slice none 0 0) (.int .i64 0) (.int .i64 0) (.slice none 0 0) (.slice none 0 0) (.int .i64 0) (.int .i64 0) (.int .i64 (zHf i));have hT:=zJ.put9 wz (w.heap.size+1+1) (.slice none 0 0) (.slice none 0 0) (.int .i64 0) (.int .i64 0) (.slice none 0 0) (.slice none 0 0) (.int .i64 0) (.int .i64 0) (.int .i64 (zHf i));clear r0 r1 r2 r3 r4 r5 r6 r7 r8 g0 g1 g2 g3 g4 g5 g6 g7 g8;refine bodyPost_ret (v:=.agg #[.slice none 0 0,.slice none 0 0,.int .i64 0,.int .i64 0,.slice none 0 0,.slice none 0 0,.int .i64 0,.int .i64 0,.int .i64 (zHf i)]) (by simp[results,Tryz.results22,go_sem,aA.1.1,aA.2.1.1,aA.2.2.1.1,aA.2.2.2.1.1,aA.2.2.2.2.1.1,aA.2.2.2.2.2.1.1,aA.2.2.2.2.2.2.1.1,aA.2.2.2.2.2.2.2.1.1,aA.2.2.2.2.2.2.2.2.1]) rfl ⟨none,cA.out,?_⟩;show zFn o w _ _;rw[ho];exact⟨_,_,_,_,rfl,zVg,tA.trans (hT.zeF (B:=w.heap.size) tA.size (fun k e=>by omega))⟩
  ·have Ho:=zR nB;obtain⟨n0,sB,n1,tB,n2,vB,n3,aC,rfl,rfl,rfl,rfl⟩:=nB.zeQ;have HC:=zR sA;have rA:=zR mA;clear sA nB mA;obtain⟨c0,c1,c2,c3,c4,c5,c6,c7,c8⟩:=HC.out.c;obtain⟨⟨r0,g0⟩,⟨r1,g1⟩,⟨r2,g2⟩,⟨r3,g3⟩,⟨r4,g4⟩,⟨r5,g5⟩,⟨r6,g6⟩,⟨r7,g7⟩,⟨r8,g8⟩⟩:=HR.out;have bD:C≠w.heap.size+1+1:=(by omega);have cD:w.heap.size+1+1≠C:=(by omega);go_wp2_with fail;have aA:=HR.out.put (.slice n0 o.world.pool.n sB) (.slice n1 o.world.pool.hn tB) (.int .i64 o.world.time) (.int .i64 o.world.next) (.slice n2 o.world.sn vB) (.slice n3 o.world.pn aC) (.int .i64 o.id) (.int .i64 o.many) (.int .i64 0);have hT:=zJ.put9 w6 (w.heap.size+1+1) (.slice n0 o.world.pool.n sB) (.slice n1 o.world.pool.hn tB) (.int .i64 o.world.time) (.int .i64 o.world.next) (.slice n2 o.world.sn vB) (.slice n3 o.world.pn aC) (.int .i64 o.id) (.int .i64 o.many) (.int .i64 0);clear r0 r1 r2 r3 r4 r5 r6 r7 r8 g0 g1 g2 g3 g4 g5 g6 g7 g8 c0 c1 c2 c3 c4 c5 c6 c7 c8;refine bodyPost_ret (v:=.agg #[.slice n0 o.world.pool.n sB,.slice n1 o.world.pool.hn tB,.int .i64 o.world.time,.int .i64 o.world.next,.slice n2 o.world.sn vB,.slice n3 o.world.pn aC,.int .i64 o.id,.int .i64 o.many,.int .i64 0]) (by simp[results,Tryz.results22,go_sem,aA.1.1,aA.2.1.1,aA.2.2.1.1,aA.2.2.2.1.1,aA.2.2.2.2.1.1,aA.2.2.2.2.2.1.1,aA.2.2.2.2.2.2.1.1,aA.2.2.2.2.2.2.2.1.1,aA.2.2.2.2.2.2.2.2.1]) rfl ⟨none,cA.out,?_⟩;show zFn o w _ _;have dD:=hT.size;exact⟨_,_,_,_,by rw[<-rA.out],(Ho.out.zeG hT (fun k e=>by omega)).wide (by omega) dD,eB.trans (hT.zeF (B:=w.heap.size) eB.size (fun k e=>by omega))⟩
theorem zUY{w w':World}{Q:Nat->Prop}{bs off n c:Nat}{kb:Nat->Nat}{kv:Nat->Value}{f:Nat->qi}(hS:zBZ w bs kb kv (.slice (some ⟨bs,off,none⟩) n c) n f)(bA:zE9 kb n f)(aA:∀j,zJd bs kb n f j->Q j){k:Nat}(hk:k<n){s':qi}(hd:s'.dn=0)(eA:s'.name.size<=maxLen)
  (ht:zJ (fun j=>j=bs) w w') (hx:∀j,j<n->j≠k->∀r,r<6->∀u,zY w bs (off+j*6+r) u->zY w' bs (off+j*6+r) u) (hc:∀r,r<6->zY w' bs (off+k*6+r) (zCV (fun _=>s') (fun _=>.slice none 0 0) 0 r)) :
  zD9 w' Q (.slice (some ⟨bs,off,none⟩) n c) n (fun j=>if j=k then s' else f j):=by
 have cA:zAY w' (kb k) (.slice none 0 0) s'.dn s'.ds s'.db:=by
  rw[hd];exact⟨Nat.zero_le _,none,0,rfl,Nat.le_refl _,fun h=>absurd h (Nat.lt_irrefl _)⟩
 refine⟨bs,_,_,hS.edit hk ht hx (s':=s') (nb:=kb k) (nv:=.slice none 0 0) ⟨hc 0 (by omega),hc 1 (by omega),hc 2 (by omega),hc 3 (by omega),hc 4 (by omega),hc 5 (by omega),cA,eA,fun h=>by omega⟩,?_,?_⟩
 ·intro i j hi hj dA h1 h2;show(if i=k then kb k else kb i)≠(if j=k then kb k else kb j);by_cases e1:i=k
  ·simp only[if_pos e1]at h1;omega
  ·by_cases e2:j=k
   ·simp only[if_pos e2]at h2;omega
   ·simp only[if_neg e1]at h1;simp only[if_neg e2]at h2;rw[if_neg e1,if_neg e2];exact bA i j hi hj dA h1 h2
 ·rintro j (⟨h0,rfl⟩ | ⟨i,hi,h0,rfl⟩)
  ·exact aA _ (Or.inl ⟨h0,rfl⟩)
  ·by_cases e:i=k
   ·simp only[if_pos e]at h0;omega
   ·simp only[if_neg e]at h0 ⊢;exact aA _ (Or.inr ⟨i,hi,h0,rfl⟩)
noncomputable def zSf(W:zB)(s:qi):qi:={s with rs:=(zE W s.zeL).rs,rb:=(zE W s.zeL).rb,dn:=0}
noncomputable def zDo(W:zB)(k:Nat):zB:={W with pool:=zT W.pool (zAa W (W.zeK k)),zeK:=fun j=>if j=k then zSf W (W.zeK k)else W.zeK j}
theorem zQE(W:zB)(q:zF)(x:Int):zE {W with pool:=q} x=zE W x:=rfl
theorem zQu(p:Nat->Addr)(C k:Nat)(z0 z1 z2 z3:Value)(W:zB)(name:ByteArray)(w:World)(hI:zCa W)(hT:za W.pool (W.zeK k).rs (W.zeK k).rb)(ht:zDd (zE W (W.zeK k).zeL).time)(hx:(Lit.int .i64 (W.zeK k).zeL).wf=true)(hk:zDK W name k)(pC:C<w.heap.size)
  (ho:yk w (C+1) w.heap.size z0 z1 z2 z3 W) (hC:zCE w C z0 z1 (.int .i64 W.time) (.int .i64 W.next) z2 z3 (.int .i64 0) (.int .i64 0) .nilIface) :
  Calls Tryz.prog 21 #[.pointer (some ⟨C,0,none⟩),.string name] w (zMD p ⟨zDo W k,0,((zAa W (W.zeK k)).length:Int),0⟩ C w):=by
 have h8:=hI.zeM.zeK.1;have oB:=hI.zeM.zeJ.1;have HC:=zC hC;have HI:=zC hI;have HT:=zC hT;have Ht:=zC ht;have Hx:=zC hx;have Hk:=zC hk;have vA:=hk.1;obtain⟨P,Q,R,oA,eA⟩:=ho;have gB:=oA.isIn;obtain⟨eB,kb,kv,hS,rB,tA⟩:=gB.zeK;obtain⟨off,c,rfl,vB⟩:=hS.nth vA;have fB:Q eB:=tA _ (Or.inl ⟨by omega,rfl⟩);have nC:=eA eB (Or.inr (Or.inl fB));obtain⟨bs,tB⟩:∃bs,bs=eB:=⟨_,rfl⟩;obtain⟨o2,aB⟩:∃o2,o2=off+k*6:=⟨_,rfl⟩;have lA:=zC (show ∀w',Below w.heap.size w w'->Calls Tryz.prog 49 #[.pointer (some ⟨C,0,none⟩),.string name] w' fun e mC=>e = .returned (.pointer (some ⟨bs,o2,none⟩))/\Below w'.heap.size w' mC from fun w' sB=>by
  obtain⟨c4,-⟩:=(hC.zeF sB).2.2.2.2.1;refine(zO0 C (C+1) w.heap.size W.sn k c _ W.zeK name w' c4 ((hS.at (lo:=C+1) (hi:=w.heap.size) (fun j hj=>eA j (Or.inr (Or.inl (tA j hj))))).zeF sB) h8 vA hk.2.1 hk.2.2).mono ?_;rintro e w2 ⟨⟨b,lC,e1,rfl⟩,dA⟩;simp only[Option.some.injEq,Addr.mk.injEq,and_true]at e1;obtain⟨rfl,rfl⟩:=e1;exact⟨by rw[tB,aB],dA⟩)
 subst tB;have iA:=zC gB;have cA:=zC eA;have fC:=zC hS;have eC:=zC rB;have cB:=zC tA;have bB:=zC vB;have mB:=zC fB;have iC:=zC aB;clear oA gB eA hS rB tA vB hC hI hT ht hx hk fB;rw[<-aB]at bB;clear aB;go_enter Tryz.func21,Tryz.ntmps21;go_wp2_with fail;refine(lA.out _ (Below.refl _ _)).mono ?_;clear lA;rintro e w2 ⟨rfl,dA⟩;go_wp2_with fail;have rC:=dA.size;have jB:bs≠C:=by omega
 have rA:=bB.out.zeF dA;refine(zSq C bs o2 P Q R _ _ _ _ _ 0 0 W (W.zeK k) w2 (iA.out.zeF dA) (fun j hj=>by have:=cA.out j hj;omega) (HC.out.zeF dA) ⟨rA.c2.1,rA.c3.1,rA.c4.1⟩ jB HI.out.right HT.out Ht.out oB HI.out.zeM.idsWf HI.out.zeM.dist Hx.out (by omega) (by omega)).mono ?_;rintro e w3 ⟨⟨ve,rfl⟩,y0,y1,sA,pB,jA⟩;have sC:=jA.size;rw[Int.zero_add]at sA;have gA:zEW w3 (fun j=>P j\/(w2.heap.size<=j/\j<w3.heap.size)) Q R y0 y1 (.slice (some ⟨bs,off,none⟩) W.sn c) z3 {W with pool:=zT W.pool (zAa W (W.zeK k))}:=
  ⟨pB,(iA.out.zeK.zeG (zJ.zeH (S:=fun _=>False) dA) (fun _ _ h=>h)).zeG jA (fun j hj e=>by have:=cA.out j (Or.inr (Or.inl hj));omega),(iA.out.zeJ.zeG (zJ.zeH (S:=fun _=>False) dA) (fun _ _ h=>h)).zeG jA (fun j hj e=>by have:=cA.out j (Or.inr (Or.inr hj));omega),
   fun j hj hq=>by
    have:=cA.out j (Or.inr (Or.inl hq));rcases hj with h | h
    ·exact iA.out.pq j h hq
    ·omega,
   fun j hj hq=>by
    have:=cA.out j (Or.inr (Or.inr hq));rcases hj with h | h
    ·exact iA.out.pr j h hq
    ·omega,iA.out.qr⟩
 have iB:∀j,(P j\/(w2.heap.size<=j/\j<w3.heap.size))\/Q j\/R j->C+1<=j/\j<w3.heap.size:=by
  rintro j ((h | h) | h | h)
  ·have:=cA.out j (Or.inl h);omega
  ·omega
  ·have:=cA.out j (Or.inr (Or.inl h));omega
  ·have:=cA.out j (Or.inr (Or.inr h));omega
 have nA:yO w3 0 w3.heap.size y0 y1 (.slice (some ⟨bs,off,none⟩) W.sn c) z3 {W with pool:=zT W.pool (zAa W (W.zeK k))}:=zBn.at (lo:=0) (hi:=w3.heap.size) ⟨_,Q,R,gA,fun j hj=>⟨Nat.zero_le _,(iB j hj).2⟩⟩;have lB:=zC (zLK C 0 w3.heap.size _ _ _ _ _ _ _ {W with pool:=zT W.pool (zAa W (W.zeK k))} (W.zeK k).zeL w3 nA sA oB HI.out.zeM.idsWf HI.out.zeM.dist Hx.out);have kB:=rA.zeG jA jB (fun h0 e=>by
  have:=cA.out _ (Or.inr (Or.inl (cB.out _ (Or.inr ⟨k,vA,h0,rfl⟩))));omega)
 obtain⟨q2,-⟩:=kB.c2;have aC:=zC sA;have nB:=zC jA;have aA:=zC gA;have bC:=zC iB;have cC:=zC kB;clear sA pB jA gA iB nA kB rA;go_wp2_with fail;clear q2;refine lB.out.mono ?_;clear lB;rw[zQE];rintro e w4 ⟨a4,c4,rfl,fA⟩;have tC:=fA.size;have bA:=cC.out.zeF fA;have dC:=zC bA;obtain⟨A,hA⟩:∃A,A=zE W (W.zeK k).zeL:=⟨_,rfl⟩;rw[<-hA];unfold zCi;have HA:=zC hA;have oC:=fun (a:Option Addr) (c:Nat) (w:World)=>zTf (.slice a A.dn c) A w
 obtain⟨t3,aD⟩:=bA.c3;obtain⟨t4,bD⟩:=bA.c4;obtain⟨t5,cD⟩:=bA.c5;clear hA bA;go_wp2_with fail;have kA:zJ (fun j=>j=bs) w4 (((w4.setCell ⟨bs,o2+3,none⟩ (.int .i64 A.rs)).setCell ⟨bs,o2+3+1,none⟩ (.int .i64 A.rb)).setCell ⟨bs,o2+5,none⟩ (.slice none 0 0)):=((zJ.put _ bs _ _).trans (zJ.put _ bs _ _)).trans (zJ.put _ bs _ _);have vC:=kA.size;go_end0;have mA:zJ (fun j=>j=C\/j=bs) w (((w4.setCell ⟨bs,o2+3,none⟩ (.int .i64 A.rs)).setCell ⟨bs,o2+3+1,none⟩ (.int .i64 A.rb)).setCell ⟨bs,o2+5,none⟩ (.slice none 0 0)):=((zJ.zeH dA).trans ((nB.out.mono (fun j e=>Or.inl e)).trans (zJ.zeH fA))).trans (kA.mono (fun j e=>Or.inr e));have jC:=(aC.out.zeF fA).zeG kA (fun h=>by omega);refine⟨⟨_,rfl⟩,mA.zeF (B:=C) (by omega) (fun j h=>by omega),by omega,Or.inl ⟨rfl,_,_,_,_,jC,?_⟩⟩;have kC:zBZ w4 bs kb kv (.slice (some ⟨bs,off,none⟩) W.sn c) W.sn W.zeK:=((fC.out.zeF dA).zeG nB.out (fun j hj e=>by have:=cA.out j (Or.inr (Or.inl (cB.out j hj)));omega)).zeF fA;have pA:(W.zeK k).name.size<=maxLen:=bB.out.zeP;have e2:=iC.out;refine⟨_,Q,R,⟨(aA.out.pool.zeF fA).zeG kA (fun j hj e=>aA.out.pq j hj (by rw[e];exact mB.out)),?_,(aA.out.zeJ.zeG (zJ.zeH (S:=fun _=>False) fA) (fun _ _ h=>h)).zeG kA (fun j hj e=>aA.out.qr bs mB.out (by rw[<-e];exact hj)),aA.out.pq,aA.out.pr,aA.out.qr⟩,fun j hj=>by have:=bC.out j hj;omega⟩;refine zUY (s':=zSf W (W.zeK k)) kC eC.out cB.out vA rfl pA kA (fun j hj jB r hr u hc=>((hc.other _ (Or.inr (by omega))).other _ (Or.inr (by omega))).other _ (Or.inr (by omega))) (fun r hr=>?_);rw[<-e2];have bA:=dC.out;unfold zSf;rw[<-HA.out];rcases(by omega:r=0\/r=1\/r=2\/r=3\/r=4\/r=5)with rfl | rfl | rfl | rfl | rfl | rfl
 ·exact((bA.c0.other _ (Or.inr (by omega))).other _ (Or.inr (by omega))).other _ (Or.inr (by omega))
 ·exact((bA.c1.other _ (Or.inr (by omega))).other _ (Or.inr (by omega))).other _ (Or.inr (by omega))
 ·exact((bA.c2.other _ (Or.inr (by omega))).other _ (Or.inr (by omega))).other _ (Or.inr (by omega))
 ·exact((bA.c3.set _).other _ (Or.inr (by omega))).other _ (Or.inr (by omega))
 ·exact((bA.c4.other _ (Or.inr (by omega))).set _).other _ (Or.inr (by omega))
 ·exact((bA.c5.other _ (Or.inr (by omega))).other _ (Or.inr (by omega))).set _
theorem zNn(p:Nat->Addr)(C k B0:Nat)(z0 z1 z2 z3:Value)(W:zB)(name:ByteArray)(w:World)(hI:zCa W)(hT:za W.pool (W.zeK k).rs (W.zeK k).rb)(ht:zDd (zE W (W.zeK k).zeL).time)(hx:(Lit.int .i64 (W.zeK k).zeL).wf=true)(hk:zDK W name k)(aA:C<w.heap.size)(k0:w.cell? ⟨B0,0,none⟩=some (.string name))
  (ho:yk w (C+1) w.heap.size z0 z1 z2 z3 W) (hC:zCE w C z0 z1 (.int .i64 W.time) (.int .i64 W.next) z2 z3 (.int .i64 0) (.int .i64 0) .nilIface) :
  Calls Tryz.prog 20 #[.pointer (some ⟨C,0,none⟩),.pointer (some ⟨B0,0,none⟩)] w (zMD p ⟨zDo W k,0,((zAa W (W.zeK k)).length:Int),0⟩ C w):=by
 have H:=zC (zQu p C k z0 z1 z2 z3 W name w hI hT ht hx hk aA ho hC);clear ho hC hI hT ht hx hk;go_enter Tryz.func20,Tryz.ntmps20;go_wp2_with fail;refine H.out.mono ?_;rintro e w' ⟨⟨v,rfl⟩,hr⟩;have Hr:=zC hr;clear hr;go_wp2_with fail;go_end0;refine⟨⟨_,rfl⟩,?_⟩;obtain⟨h1,h2,h3⟩:=Hr.out;refine⟨h1,h2,?_⟩;rcases h3 with⟨-,h⟩ | h
 ·exact Or.inl ⟨rfl,h⟩
 ·exact Or.inr h
theorem zMN{W:zB}(h:yj W)(x:Int):zDd (zE W x).time:=by
 by_cases hx:∃k,yV W x k
 ·obtain⟨k,hk⟩:=hx;rw[yQ hk];have h1:=(h.2.2.2.2.2 k hk.1).1;have h2:=h.1;unfold zGl at h2;exact⟨by have:=h1.2.2.1;omega,by have:=h1.2.2.2.1;omega⟩
 ·have e:zE W x=zAV:=(by unfold zE;rw[dif_neg hx]);rw[e];exact⟨by decide,by decide⟩
def zRA(W:zB)(name:ByteArray)(w:World)(e:Ending)(w':World):Prop:=∃r o,zLl W (∃i,i<1/\8000<((fun (_:Nat)=>name) i).size) (∃i,i<0/\¬zA0 ((fun _=>⟨#[]⟩) i)) 2 (fun i=>match i with | 0=>qG W name | _=>(zE W (zBy W name).zeL).set=name) (fun i=>match i with | 0=>2 | _=>2) r/\(r=none->∃k,zDK W name k/\o=⟨zDo W k,0,((zAa W (W.zeK k)).length:Int),0⟩)/\zFn (zKy r o) w e w'
def zDb(w:World)(lb:Array Value)(caps:List Value):Prop:=lb.size=caps.length/\∀(k:Nat) (u:Value),caps[k]?=some u->∃B,lb[k]?=some (.pointer (some ⟨B,0,none⟩))/\w.cell? ⟨B,0,none⟩=some u
theorem zDb.zeF{w w':World}{lb:Array Value}{caps:List Value}(h:zDb w lb caps)(t:Below w.heap.size w w'):zDb w' lb caps:=
 ⟨h.1,fun k u hk=>by
  obtain⟨B,h1,h2⟩:=h.2 k u hk;exact⟨B,h1,(t.cell (zH h2)).trans h2⟩⟩
theorem zDb.one{w:World}{B:Nat}{u:Value}(h:w.cell? ⟨B,0,none⟩=some u):zDb w #[.pointer (some ⟨B,0,none⟩)] [u]:=
 ⟨rfl,fun k x hk=>by
  match k,hk with
  | 0,hk=>simp at hk;subst hk;exact⟨B,rfl,h⟩
  | k+1,hk=>simp at hk⟩
theorem zDb.is1{w:World}{lb:Array Value}{u:Value}(h:zDb w lb [u]):∃B,lb=#[.pointer (some ⟨B,0,none⟩)]/\w.cell? ⟨B,0,none⟩=some u:=by
 obtain⟨B,h1,h2⟩:=h.2 0 u rfl;refine⟨B,?_,h2⟩;have hs:=h.1;obtain⟨l⟩:=lb
 match l,hs,h1 with
 | [x],_,h1=>simp at h1;rw[h1]
def QAt(w:World)(p:Nat->Addr)(g i:Nat)(caps:List Value)(v:Value):Prop:=∃lb,v = .agg #[.func (.func g) #[] lb,yg (p i)]/\zDb w lb caps
theorem QAt.zeF{w w':World}{p:Nat->Addr}{g i:Nat}{caps:List Value}{v:Value}(h:QAt w p g i caps v)(t:Below w.heap.size w w'):QAt w' p g i caps v:=by
 obtain⟨lb,hv,hc⟩:=h;exact⟨lb,hv,hc.zeF t⟩
theorem zPq{w:World}{s:ByteArray}{t:TypeId}{f:Nat->ByteArray}(hs:s.size<=maxLen)(h0:f 0=s):zB2 (w.alloc (.cells #[.string s] t)) (.slice (some ⟨w.heap.size,0,none⟩) 1 1) 1 f:=by
 refine⟨by omega,_,_,rfl,fun i hi=>?_,fun _=>⟨_,_,rfl,fun i hi=>?_⟩⟩
 ·obtain rfl:i=0:=(by omega);rw[h0];exact hs
 ·obtain rfl:i=0:=(by omega);rw[h0];exact World.cell?_alloc_at _ _ _ _ rfl
def zHT(w:World)(p:Nat->Addr)(m:Nat)(g ei:Nat->Nat)(caps:Nat->List Value)(v:Value):Prop:=∃lb:Nat->Array Value,zFk w p v m g lb ei/\∀k,k<m->zDb w (lb k) (caps k)
theorem zHT.zeF{w w':World}{p:Nat->Addr}{m:Nat}{g ei:Nat->Nat}{caps:Nat->List Value}{v:Value}(h:zHT w p m g ei caps v)(t:Below w.heap.size w w'):zHT w' p m g ei caps v:=by
 obtain⟨lb,h1,h2⟩:=h;exact⟨lb,h1.zeF t,fun k hk=>(h2 k hk).zeF t⟩
theorem zX2{w:World}{p:Nat->Addr}{g ei:Nat->Nat}{caps:Nat->List Value}{aA bA:Array Value}{t:TypeId}(h0:zDb w aA (caps 0))(h1:zDb w bA (caps 1)):zHT (w.alloc (.cells #[.func (.func (g 0)) #[] aA,yg (p (ei 0)),.func (.func (g 1)) #[] bA,yg (p (ei 1))] t)) p 2 g ei caps (.slice (some ⟨w.heap.size,0,none⟩) 2 2):=by
 have cA:=zD w (.cells #[.func (.func (g 0)) #[] aA,yg (p (ei 0)),.func (.func (g 1)) #[] bA,yg (p (ei 1))] t);refine⟨(fun i=>match i with | 0=>aA | _=>bA),⟨by omega,_,_,rfl,fun _=>⟨_,_,rfl,fun i hi=>?_⟩⟩,fun i hi=>?_⟩
 ·rcases(by omega:i=0\/i=1)with rfl | rfl
  all_goals exact⟨World.cell?_alloc_at _ _ _ _ rfl,World.cell?_alloc_at _ _ _ _ rfl⟩
 ·rcases(by omega:i=0\/i=1)with rfl | rfl
  ·exact h0.zeF cA
  ·exact h1.zeF cA
theorem zTm(v0 v1 v2 v3:Value)(lo hi:Nat)(W:zB)(name:ByteArray)(w:World)(h:yO w lo hi v0 v1 v2 v3 W)(nA:W.sn<=8)(oA:name.size<=maxLen) :
  Calls Tryz.prog 46 #[zA8 v0 v1 v2 v3 W,.string name] w fun e w'=>zL (qG W name) e/\Below w.heap.size w w':=by
 have Hp:=zC h;clear h;have ha:=zD w (.cells #[v0,v1,.int .i64 W.time,.int .i64 W.next,v2,v3] 30);obtain⟨x0,x1,x2,x3,x4,x5⟩:=(zAN.new w (v0) (v1) (.int .i64 W.time) (.int .i64 W.next) (v2) (v3) 30).c;go_enter Tryz.func46,Tryz.ntmps46;go_wp2_with fail;clear x0 x1 x2 x3 x4 x5;generalize w.alloc (.cells #[v0,v1,.int .i64 W.time,.int .i64 W.next,v2,v3] 30)=W0 at ha ⊢;refine(zDA v0 v1 v2 v3 lo hi W W0 (Hp.out.zeF ha) nA).mono ?_;rintro e w1 ⟨vd,rfl,dA,lA,jA⟩;have kA:∀i,i<W.sn->∃a n c,vd i = .slice a n c:=fun i mA=>by
  obtain⟨_,aa,cc,hv,_⟩:=lA i mA;exact⟨aa,_,cc,hv⟩
 obtain⟨s0,i1,i2,i3,i4,sa,sn,sc,iA⟩:=zPn kA name;have fA:=zC iA;have bA:=zC (zSp (W:=W) (vd:=vd));have eA:=zC dA;have cA:=zC (zJ2 oA);have gA:=zA ha jA;clear dA lA kA jA ha iA;obtain⟨M,hM⟩:∃M,M=W0.heap.size+1:=⟨_,rfl⟩;rw[<-hM]at eA ⊢;clear hM;by_cases aA:qG W name
 ·skip;have Hc:=zC (show Maps.has (putD (fun i=>zEH (W.zeK i).name) (fun i=>zHG (vd i) (W.zeK i)) W.sn) (zEH name)=true from(bA.out name).2 aA);have Hn:=zC aA;clear aA;go_wp2_with (first
   | (at_lookup;refine zCD _ rfl _ _ 78 rfl 9 44 zT8 zNt (zGk _) M W.sn _ rfl eA.out _ _ rfl cA.out _ fA.out true Hc.out ?_)
   | go_in)
  go_ret;exact⟨zL.yes Hn.out,zA gA (zD w1 (.cells #[.string s0,.int .i64 i1,.int .i64 i2,.int .i64 i3,.int .i64 i4,.slice sa sn sc] 44))⟩
 ·skip;have Hc:=zC (show Maps.has (putD (fun i=>zEH (W.zeK i).name) (fun i=>zHG (vd i) (W.zeK i)) W.sn) (zEH name)=false from by rw[Bool.eq_false_iff];exact fun h=>aA ((bA.out name).1 h));have Hn:=zC aA;clear aA;go_wp2_with (first
   | (at_lookup;refine zCD _ rfl _ _ 78 rfl 9 44 zT8 zNt (zGk _) M W.sn _ rfl eA.out _ _ rfl cA.out _ fA.out false Hc.out ?_)
   | go_in)
  go_ret;exact⟨zL.no Hn.out,zA gA (zD w1 (.cells #[.string s0,.int .i64 i1,.int .i64 i2,.int .i64 i3,.int .i64 i4,.slice sa sn sc] 44))⟩
theorem zIo(v0 v1 v2 v3:Value)(lo hi:Nat)(W:zB)(B:Nat)(name:ByteArray)(w:World)(h:yO w lo hi v0 v1 v2 v3 W)(dA:W.sn<=8)(eA:name.size<=maxLen)(hc:w.cell? ⟨B,0,none⟩=some (.string name)) :
  Calls Tryz.prog 45 #[zA8 v0 v1 v2 v3 W,.pointer (some ⟨B,0,none⟩)] w fun e w'=>zL (qG W name) e/\Below w.heap.size w w':=by
 have Hp:=zC h;clear h;have ha:=zD w (.cells #[v0,v1,.int .i64 W.time,.int .i64 W.next,v2,v3] 30);have cA:=(ha.cell (zH hc)).trans hc;obtain⟨x0,x1,x2,x3,x4,x5⟩:=(zAN.new w (v0) (v1) (.int .i64 W.time) (.int .i64 W.next) (v2) (v3) 30).c;go_enter Tryz.func45,Tryz.ntmps45;go_wp2_with fail;clear x0 x1 x2 x3 x4 x5 hc cA;generalize w.alloc (.cells #[v0,v1,.int .i64 W.time,.int .i64 W.next,v2,v3] 30)=W0 at ha ⊢;refine(zTm v0 v1 v2 v3 lo hi W name W0 (Hp.out.zeF ha) dA eA).mono ?_;rintro e w1 ⟨⟨t,rfl,ht⟩,bA⟩;have aA:=zA ha bA;by_cases hf:qG W name
 ·obtain rfl:t=true:=ht.2 hf;have HF:=zC hf;clear ht hf;go_wp2;go_ret;exact⟨zL.yes HF.out,aA⟩
 ·obtain rfl:t=false:=qj ht hf;have HF:=zC hf;clear ht hf;go_wp2;go_ret;exact⟨zL.no HF.out,aA⟩
theorem zKL(p:Nat->Addr)(s0:ByteArray)(w:World)(hE:zF1 w p) :
  Calls Tryz.prog 18 #[.string s0] w fun e w'=>∃B0:Nat,e = .returned (.agg #[.func (.func 45) #[] #[.pointer (some ⟨B0,0,none⟩)],yg (p 2)])/\w'.cell? ⟨B0,0,none⟩=some (.string s0)/\Below w.heap.size w w':=by
 have bA:=zD w (.cells #[.string s0] 9);have fA:=zD (w.alloc (.cells #[.string s0] 9)) (.cells #[.nilFunc,.nilIface] 55);have hb:=zA (bA) fA;have c0:(w.alloc (.cells #[.string s0] 9)).cell? ⟨w.heap.size,0,none⟩=some (.string s0):=World.cell?_alloc_at _ _ _ _ rfl;have hg:((w.alloc (.cells #[.string s0] 9)).alloc (.cells #[.nilFunc,.nilIface] 55)).cell? ⟨0,0,none⟩=some (yg (p 2)):=(hE.zeF hb).cell 2 (by omega);have cA:=zD (w.alloc (.cells #[.string s0] 9)) (.cells #[.func (.func 45) #[] #[.pointer (some ⟨w.heap.size,0,none⟩)],yg (p 2)] 55);have eA:=zA (bA) cA;have dA:=zC ((cA.cell (zH c0)).trans c0);clear c0;go_enter Tryz.func18,Tryz.ntmps18;have gA:=fun (ww:World) (a:Addr)=>run_store Tryz.prog ww a (.func (.func 45) #[] #[.pointer (some ⟨w.heap.size,0,none⟩)]) .plain rfl
 go_wp2_with fail;have aA:=zAT.new (w.alloc (.cells #[.string s0] 9)) (.func (.func 45) #[] #[.pointer (some ⟨w.heap.size,0,none⟩)]) (yg (p 2)) 55;rw[World.size_alloc]at aA;refine bodyPost_ret (v:=.agg #[.func (.func 45) #[] #[.pointer (some ⟨w.heap.size,0,none⟩)],yg (p 2)]) (by simp[results,Tryz.results18,go_sem,aA.1.1,aA.2.1]) rfl ⟨_,rfl,dA.out,eA⟩
open Go.Maps
theorem zaJ{w:World}{W:zB}{M:Nat}{vd:Nat->Value}(h:zDV w W M W.sn vd){x:ByteArray}(hx:x.size<=maxLen){v:Value}(bA:(putD (fun i=>zEH (W.zeK i).name) (fun i=>zHG (vd i) (W.zeK i)) W.sn).atKey (zEH x) (.held (.agg #[.string ⟨#[]⟩,.int .i64 0,.int .i64 0,.int .i64 0,.int .i64 0,.slice none 0 0])) = .held v) :
  (Instr.lookup 78 (.map (some M)) (.string x) false).run Tryz.prog w = .ok v w:=by
 obtain⟨v',ps,aA,hv⟩:=World.ownsMap.lookup h zT8 zNt (zGk w) (zD2 _) (zJ2 hx);have e1:=zGY hv;rw[bA]at e1;have e2:=DataW.held.inj e1;rw[e2];exact aA
theorem zO8(v:Value)(s:qi)(w:World):(Instr.field 44 (zHG v s) 2).run Tryz.prog w = .ok (.int .i64 s.zeL) w:=by kernel_rfl
theorem zaF{W:zB}(h:zCs W)(x:ByteArray):(Lit.int .i64 (zBy W x).zeL).wf=true:=by
 by_cases hx:∃k,zDK W x k
 ·obtain⟨k,hk⟩:=hx;rw[zKK hk];have:=h (W.pn+k) (by have:=hk.1;unfold memN;omega);rw[qN]at this;exact this
 ·have e:zBy W x=zCj:=(by unfold zBy;rw[dif_neg hx]);rw[e];decide
theorem zEc.setsDist{W:zB}(h:zEc W):zKX W:=fun i hi j hj e=>by
 have hr:∀{a b:Nat},a<b->b<W.sn->zBm (W.zeK a).name (W.zeK b).name:=by
  intro a b aA hb
  induction b with
  | zero=>omega
  | succ b ih=>
   have h1:=(h.zeK.2 (b+1) hb).2;have h2:zGR W.zeK (b+1)=(W.zeK b).name:=(by unfold zGR;simp);rw[h2]at h1;by_cases e:a=b
   ·subst e;exact h1
   ·exact zLZ (ih (by omega) (by omega)) h1
 exact zKH (hr hj hi) e
end Go.Proofs.YtjganmlaooofoaaGreatDoor

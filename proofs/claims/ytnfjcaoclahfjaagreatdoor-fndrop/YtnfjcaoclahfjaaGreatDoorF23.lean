/- A part of the proof. -/
import Derived.Test.YtnfjcaoclahfjaaGreatDoorF22
import Derived.Test.YtnfjcaoclahfjaaGreatDoorF21
set_option linter.unusedVariables false
set_option maxRecDepth 20000
set_option maxHeartbeats 4000000
namespace Go.Proofs.YtnfjcaoclahfjaaGreatDoor
open Go.RowKit
theorem Ul(C G PB gb lo hi n:Nat)(P:Nat->Prop)(z0 z1 z2 z3 v:Value)(H:Option Addr)(I:Nat)(m:Int)(W:A4)(g:AT)(f h:Nat->Int)(w:World)(kA:BM w 0 w.heap.size z0 z1 z2 z3 W)(aA:W.pn<=20)(J:GL W.pn W.A0)(u:EC W)(hx:(Lit.int .i64 g.A5).wf=true)(ht:F2 (AB W g.A5).time)(hC:BR w C z0 z1 (.int .i64 W.time) (.int .i64 W.next) z2 z3 (.int .i64 0) (.int .i64 m) .nilIface)(hP:Cg w P z0 z1 W.pool)(iA:∀k,P k->C<k/\k<w.heap.size)
 (U:(fun w':World=>w'.cell? ⟨G,3,none⟩=some (.int .i64 g.A5)/\w'.cell? ⟨G,7,none⟩=some (.slice H g.dn I)/\w'.cell? ⟨PB,0,none⟩=some (.pointer (some ⟨C,0,none⟩))) w) (hG:G≠C/\PB≠C) (dA:0<g.dn->gb≠C/\gb≠G/\gb≠PB/\gb<w.heap.size/\¬P gb) (hd:Bm w gb (.slice H g.dn I) g.dn g.ds g.db) (hR:C3 w 40 2 (.slice H g.dn I) g.dn) (tC:g.dn<=1048576) (hv:Ay w lo hi v n f h) (R:C1 n f h) (hH:CK W.pool (BE f h (AB W g.A5).time n)) (hm:0<=m) (oB:m<=900000) :
 Calls Tryz.prog 49 #[v,.pointer (some ⟨G,0,none⟩),.pointer (some ⟨PB,0,none⟩)] w fun e w'=>∃a c nb y0 y1 F,e = .returned (.slice a (g.dn+(BS f h (AB W g.A5).time n).length) c)/\Bm w' nb (.slice a (g.dn+(BS f h (AB W g.A5).time n).length) c) ((B3 g.dn g.ds g.db) ++ (BS f h (AB W g.A5).time n)).length (AI ((B3 g.dn g.ds g.db) ++ (BS f h (AB W g.A5).time n))) (AK ((B3 g.dn g.ds g.db) ++ (BS f h (AB W g.A5).time n)))/\w.heap.size<=F/\F<=w'.heap.size/\(0<g.dn+(BS f h (AB W g.A5).time n).length->(0<g.dn/\nb=gb)\/(F<=nb/\nb<w'.heap.size))/\BR w' C y0 y1 (.int .i64 W.time) (.int .i64 W.next) z2 z3 (.int .i64 0) (.int .i64 (m+((BE f h (AB W g.A5).time n).length:Int))) .nilIface/\Cg w' (fun j=>P j\/(w.heap.size<=j/\j<F)) y0 y1 (Ak W.pool (BE f h (AB W g.A5).time n))/\AC (fun j=>j=C\/(0<g.dn/\j=gb)) w w'/\Bm w' gb (.slice H g.dn I) g.dn g.ds g.db:=by
 have HC:=A3 hC;have HP:=A3 hP;have eB:=A3 iA;have HD:=A3 hd;have fB:=A3 hR;have HV:=A3 hv;have bB:=A3 R;have HH:=A3 hH;have Ht:=A3 ht;have vC:=R.1;have nC:=hC.1.lt;obtain⟨cA,iB⟩:=hG;have eA:G<w.heap.size:=AM U.1;have gA:PB<w.heap.size:=AM U.2.2;have i:=A3 dA;have z:=A3 (show ∀w',Below w.heap.size w w'->(fun w':World=>w'.cell? ⟨G,3,none⟩=some (.int .i64 g.A5)/\w'.cell? ⟨G,7,none⟩=some (.slice H g.dn I)/\w'.cell? ⟨PB,0,none⟩=some (.pointer (some ⟨C,0,none⟩))) w' from fun w' hb=>⟨(hb.cell (p:=⟨G,3,none⟩) eA).trans U.1,(hb.cell (p:=⟨G,7,none⟩) eA).trans U.2.1,(hb.cell (p:=⟨PB,0,none⟩) gA).trans U.2.2⟩);have y:=A3 (show ∀w',Below w.heap.size w w'->Calls Tryz.prog 48 #[.pointer (some ⟨C,0,none⟩),.int .i64 g.A5] w' fun e rB=>(∃a c,e = .returned (BX (.slice a (AB W g.A5).dn c) (AB W g.A5)))/\Below w'.heap.size w' rB from fun w' lA=>by
  refine(zBS C 0 w.heap.size _ _ _ _ _ _ _ W g.A5 w' (kA.A1 lA) (hC.A1 lA) aA J u hx).mono ?_;rintro e w2 ⟨a,c,rfl,kB⟩;exact⟨⟨a,c,rfl⟩,kB⟩)
 obtain⟨-,av,cv,rfl,-,-⟩:=id hv;have bD:∀(fn:Fn) (first cap:Array Value) (w:World),(Instr.makeFunc fn first cap).run Tryz.prog w = .ok (.func fn first cap) w:=fun _ _ _ _=>rfl
 have D:Below w.heap.size w w.drew:=(Below.refl _ _).drew;generalize AB W g.A5=A at y HH Ht ⊢;unfold BX at y;have nB:=fun (a:Option Addr) (c:Nat) (w:World)=>zBZ (.slice a A.dn c) A w
 clear kA aA J u hx ht hC hP iA U dA hd hR hv R hH;go_enter Tryz.func49,Tryz.ntmps49;go_upto_region 1 with fail;refine wp_region_held_drew (S:=(fun w':World=>w'.cell? ⟨G,3,none⟩=some (.int .i64 g.A5)/\w'.cell? ⟨G,7,none⟩=some (.slice H g.dn I)/\w'.cell? ⟨PB,0,none⟩=some (.pointer (some ⟨C,0,none⟩)))) (by kernel_rfl) (z.out _ D) (fun hHeld=>?_);generalize w.drew=q0 at hHeld D ⊢;refine tk 0 (h:=tk 1 (h:=tk 2 (h:=tk 3 (h:=tk 4 (h:=tk 5 (h:=tk 8 (h:=tk 9 (h:=?_))))))));refine rd [6] (rc (fun K hK=>?_) .nil);go_simp;go_at_call 48;refine(y.out _ D).mono ?_;rintro e w6 ⟨⟨a6,c6,rfl⟩,lB⟩;have b:=A8 D lB
 (try go_wp2_with fail)
 refine hK.out _ _ (z.out _ b) ?_;clear hK K;intro hHeld
 try simp only[Act.put,s1,s2,s3]
 refine tk 7 (h:=?_);refine rd [10] (rc (fun K hK=>?_) .nil);go_simp;go_at_call 50;have dD:=b.size;refine(zH C lo hi n P _ _ _ _ .nilIface _ W.time W.next 0 m A.time W.pool f h w6 (HV.out.A1 b) bB.out Ht.out HH.out (HC.out.A1 b) (HP.out.A1 b) (fun k hk=>by have:=eB.out k hk;omega) hm oB).mono ?_;rintro e w7 ⟨v7,y0,y1,rfl,E,bA,fA,q⟩;obtain⟨a7,c7,rfl,-⟩:=C6 E;have r:(fun w':World=>w'.cell? ⟨G,3,none⟩=some (.int .i64 g.A5)/\w'.cell? ⟨G,7,none⟩=some (.slice H g.dn I)/\w'.cell? ⟨PB,0,none⟩=some (.pointer (some ⟨C,0,none⟩))) w7:=by
  have hk:=z.out _ b;exact⟨(q.cell (o:=3) (show G<w6.heap.size by omega) cA).trans hk.1,(q.cell (o:=7) (show G<w6.heap.size by omega) cA).trans hk.2.1,(q.cell (o:=0) (show PB<w6.heap.size by omega) iB).trans hk.2.2⟩
 have sA:=A3 bA;have cB:=A3 fA;have l:AC (fun j=>j=C) w w7:=(AC.CX b).trans q;have eD:=q.size;have Q:=HD.out.AD l (fun T=>(i.out T).1);have O:=fB.out.turnedL (Below.refl _ _) l (fun T=>by
  obtain⟨_,a,c,hv,_,hx⟩:=HD.out;obtain⟨off,ha,_⟩:=hx T;exact⟨gb,by rw[hv,ha];rfl,(i.out T).1⟩)
 obtain⟨L,N⟩:∃L,L=BS f h A.time n:=⟨_,rfl⟩;have pC:L.length<=n:=by rw[N];exact U6 f h A.time n
 rw[<-N]at E;have t:Ay w7 0 w7.heap.size (.slice a7 L.length c7) L.length (AI L) (AK L):=by
  obtain⟨bb,ho,mB⟩:=B6.own E (by unfold maxLen;omega);exact ho.at (fun T=>⟨Nat.zero_le _,(mB T).2.2⟩)
 obtain⟨ra,fD,w8,nb,x,M,s,nA⟩:=zBK (lo:=0) (hi:=w7.heap.size) Q O t (by omega) 41;have tA:=A3 (zCO Q O t (by omega) _ x);have jA:(fun w':World=>w'.cell? ⟨G,3,none⟩=some (.int .i64 g.A5)/\w'.cell? ⟨G,7,none⟩=some (.slice H g.dn I)/\w'.cell? ⟨PB,0,none⟩=some (.pointer (some ⟨C,0,none⟩))) w8:=⟨(s.cell (o:=3) (show G<w7.heap.size by omega) (fun d=>(i.out d.1).2.1 d.2.symm)).trans r.1,(s.cell (o:=7) (show G<w7.heap.size by omega) (fun d=>(i.out d.1).2.1 d.2.symm)).trans r.2.1,(s.cell (o:=0) (show PB<w7.heap.size by omega) (fun d=>(i.out d.1).2.2.1 d.2.symm)).trans r.2.2⟩;have Y:=A3 x;have X:=A3 M;have B:=A3 s;have aB:=A3 nA;have Z:=A3 l;have gB:=A3 jA;clear bA fA E x M s nA Q O jA l t
 (try go_wp2_with fail)
 refine hK.out _ _ r ?_;clear hK K hHeld r q;intro hHeld
 try simp only[Act.put,s1,s2,s3]
 simp only[<-N];have vA:=A3 N;clear N;refine rd [11] (rc (fun K hK=>?_) .nil);refine zD2 rfl (.tmp 6) (.tmp 15) 41 rfl _ _ _ rfl rfl Y.out ?_
 (try go_wp2_with fail)
 refine hK.out _ _ (gB.out) ?_;clear hK K;intro hHeld
 try simp only[Act.put,s1,s2,s3]
 refine tk 12 (h:=?_);refine wpAnyH_done (by kernel_rfl) ?_ _;clear hHeld nB y z;go_wp2_with fail;go_ret;have pB:=B.out.size;have N:=vA.out;subst N;refine⟨_,_,nb,y0,y1,w7.heap.size,rfl,X.out,by omega,pB,aB.out,sA.out.AD B.out (fun d=>(i.out d.1).1 d.2.symm),?_,(Z.out.mono (fun j e=>Or.inl e)).trans (B.out.mono (fun j e=>Or.inr e)),tA.out⟩;refine(cB.out.AD B.out (fun j V d=>?_)).mono (fun j V=>V.imp id (fun d=>⟨by omega,d.2⟩));have hg:=i.out d.1;rcases V with V | V
 ·exact hg.2.2.2.2 (d.2▸V)
 ·omega
def GU:List Value:=[.int .i64 0,.string ⟨#[]⟩,.string ⟨#[]⟩,.int .i64 0,.int .i64 0,.int .i64 0,.int .i64 0,.slice none 0 0]
theorem zAP(w:World)(ty:TypeId)(b o c:Nat)(e:∀j,j<8->(w.cell? ⟨b,o+j,none⟩).isSome=true)(f:∀j,j<8->w.frozen? ⟨b,o+j,none⟩=false) :
 (Builtin.clear_ #[28] ty #[.slice (some ⟨b,o,none⟩) 1 c]).run Tryz.prog w = .ok (.tuple #[]) (w.setCells b o GU):=by
 have g:Tryz.prog.underlying 28=some (.slice 43):=by kernel_rfl
 have a:=run_storeCells_cells (P:=Tryz.prog) b o GU 0 w (by simpa[GU]using e) (by simpa[GU]using f) (by intro v hv;simp only[GU,List.mem_cons,List.not_mem_nil,or_false]at hv;rcases hv with rfl | rfl | rfl | rfl | rfl | rfl | rfl | rfl<;>rfl);simp only[Nat.add_zero]at a;have d:(Builtin.zeroCells (Value.agg #[.int .i64 0,.string ⟨#[]⟩,.string ⟨#[]⟩,.int .i64 0,.int .i64 0,.int .i64 0,.int .i64 0,.slice none 0 0]).cells 1).toList=GU:=by kernel_rfl
 simp[Builtin.clear_,run_underlying g,d,a]
theorem YR(s:AT)(a:Option Addr)(c B:Nat)(x:Int)(w:World)(d:w.cell? ⟨B,0,none⟩=some (.int .i64 x)) :
 Calls Tryz.prog 53 #[.agg #[.int .i64 s.id,.string s.name,.string s.set,.int .i64 s.A5,.int .i64 s.time,.int .i64 s.rs,.int .i64 s.rb,.slice a s.dn c],.pointer (some ⟨B,0,none⟩)] w fun e w'=>AJ (s.id=x) e/\Below w.heap.size w w':=by
 have f:=A9 w (.cells #[.int .i64 s.id,.string s.name,.string s.set,.int .i64 s.A5,.int .i64 s.time,.int .i64 s.rs,.int .i64 s.rb,.slice a s.dn c] 43);have h:=(f.cell (AM d)).trans d;clear d;obtain⟨⟨⟨i,-⟩,⟨j,-⟩,⟨k,-⟩,⟨l,-⟩⟩,⟨m,-⟩,⟨n,-⟩,⟨o,-⟩,⟨p,-⟩⟩:=CG.new w (.int .i64 s.id) (.string s.name) (.string s.set) (.int .i64 s.A5) (.int .i64 s.time) (.int .i64 s.rs) (.int .i64 s.rb) (.slice a s.dn c) 43;by_cases b:s.id=x
 ·have g:(s.id == x)=true:=beq_iff_eq.2 b;have H:=A3 b;clear b;go_enter Tryz.func53,Tryz.ntmps53;go_wp2;go_ret;exact⟨AJ.yes H.out,f⟩
 ·have g:(s.id == x)=false:=beq_eq_false_iff_ne.2 b;have H:=A3 b;clear b;go_enter Tryz.func53,Tryz.ntmps53;go_wp2;go_ret;exact⟨AJ.no H.out,f⟩
theorem zBT(lo hi d off n c k B:Nat)(kv:Nat->Value)(f:Nat->AT)(name:Int)(w:World)(C:∀i,i<n->∀r,r<8->AF w d (off+i*8+r) (EB f kv i r))(Q:∀i,i<n->∃a c,kv i = .slice a (f i).dn c)(P:D8 w lo hi (.slice (some ⟨d,off,none⟩) n c) n f)(hk:k<n)(hn:n<=20)(pB:n<=c)(s:(f k).id=name)(F:∀i,i<n->i≠k->(f i).id≠name)(V:w.cell? ⟨B,0,none⟩=some (.int .i64 name))(eA:B≠d) :
 Calls Tryz.prog 52 #[.slice (some ⟨d,off,none⟩) n c,.func (.func 53) #[] #[.pointer (some ⟨B,0,none⟩)]] w fun e w'=>e = .returned (.slice (some ⟨d,off,none⟩) (n - 1) c)/\AC (fun j=>j=d) w w'/\∀i,i<n - 1->∀r,r<8->AF w' d (off+i*8+r) (EB (del f k) (del kv k) i r):=by
 have Y:=A3 Q;have oB:d<w.heap.size:=(C k hk 0 (by omega)).lt;have X:=A3 C;have HN:=A3 s;have HU:=A3 F;have HB:=A3 V;have J:=A3 (show Calls Tryz.prog 105 #[.slice (some ⟨d,off,none⟩) n c,.func (.func 53) #[] #[.pointer (some ⟨B,0,none⟩)]] w fun e w'=>e = .returned (.int .i64 (k:Int))/\Below w.heap.size w w' by
  refine(zCZ 53 #[.pointer (some ⟨B,0,none⟩)] (enters_of Tryz.func53 (by kernel_rfl) rfl) (fun i=>(f i).id=name) _ n lo hi f w P (by omega) (fun i D a c w' gA _=>YR (f i) a c B name w' ((gA.cell (AM V)).trans V))).mono ?_;rintro e v ⟨p,u⟩;rcases p with⟨i,D,h1,h2,rfl⟩ | ⟨h1,rfl⟩
  ·refine⟨?_,u⟩;by_cases e:i=k
   ·rw[e]
   ·exact absurd h1 (F i D e)
  ·exact absurd s (h1 k hk))
 clear P s F C V Q;go_enter Tryz.func52,Tryz.ntmps52;go_wp2_with fail;refine J.out.mono ?_;rintro e w1 ⟨rfl,A⟩;clear J;have bC:=A.size;have k2:¬(k:Int) = -1:=by omega
 have k0:((k:Int) == -1)=false:=by simp[k2]
 have k1:decide ((k:Int) = -1)=false:=by simp[k2]
 have aC:IntKind.i64.wrap ((k:Int)+1)=((k+1:Nat):Int):=by first | (rw[wrap_small (by omega) (by omega)];rfl) | (rw[wrap_small _ (by omega) (by omega)];rfl)
 go_wp2_with fail
 go_loopw [5,6] (fun a b wr=>∃j:Nat,k+1<=j/\j<=n/\a = .int .i64 ((j - 1:Nat):Int)/\b = .int .i64 (j:Int)/\AC (fun i=>i=d) w wr/\∀m,m<n->∀r,r<8->AF wr d (off+m*8+r) (EB f kv (EG k j m) r)) (fun _ b _=>n - (intOf b).toNat)
 case atStart=>
  refine⟨k+1,Nat.le_refl _,hk,rfl,rfl,AC.CX A,fun m R r p=>?_⟩;have e:EG k (k+1) m=m:=by
   unfold EG;split
   ·rfl
   ·rw[if_neg (by omega)]
  rw[e];exact(X.out m R r p).A1 A
 case round=>
  obtain⟨j,sB,tB,rfl,rfl,hT,x⟩:=hrel;have Z:=A3 hT;have U:=A3 x;have cC:=hT.size;clear hT x;have N:wr.cell? ⟨B,0,none⟩=some (.int .i64 name):=(Z.out.cell (o:=0) (AM HB.out) eA).trans HB.out;by_cases E:j<n
  ·have lA:(j:Int)<(n:Int):=(by omega);obtain⟨G,H,T⟩:=Y.out j E;have em:EG k j j=j:=(by unfold EG;rw[if_neg (by omega),if_neg (by omega)]);have l:∀r,r<8->AF wr d (off+j*8+r) (EB f kv j r):=fun r p=>by
    have:=U.out j E r p
    rwa [em]at this
   have q0:wr.cell? ⟨d,off+j*8,none⟩=some (.int .i64 (f j).id):=(l 0 (by omega)).1;have q1:wr.cell? ⟨d,off+j*8+1,none⟩=some (.string (f j).name):=(l 1 (by omega)).1;have q2:wr.cell? ⟨d,off+j*8+2,none⟩=some (.string (f j).set):=(l 2 (by omega)).1;have q3:wr.cell? ⟨d,off+j*8+3,none⟩=some (.int .i64 (f j).A5):=(l 3 (by omega)).1;have q4:wr.cell? ⟨d,off+j*8+4,none⟩=some (.int .i64 (f j).time):=(l 4 (by omega)).1;have q5:wr.cell? ⟨d,off+j*8+5,none⟩=some (.int .i64 (f j).rs):=(l 5 (by omega)).1;have q6:wr.cell? ⟨d,off+j*8+6,none⟩=some (.int .i64 (f j).rb):=(l 6 (by omega)).1;have q7:wr.cell? ⟨d,off+j*8+7,none⟩=some (kv j):=(l 7 (by omega)).1;rw[T]at q7;have eB:=A3 l;clear l;have y:=A9 wr (.cells #[.int .i64 (f j).id,.string (f j).name,.string (f j).set,.int .i64 (f j).A5,.int .i64 (f j).time,.int .i64 (f j).rs,.int .i64 (f j).rb,.slice G (f j).dn H] 43);have HX:=A3 (CG.new wr (.int .i64 (f j).id) (.string (f j).name) (.string (f j).set) (.int .i64 (f j).A5) (.int .i64 (f j).time) (.int .i64 (f j).rs) (.int .i64 (f j).rb) (.slice G (f j).dn H) 43);obtain⟨⟨⟨x0,-⟩,⟨x1,-⟩,⟨x2,-⟩,⟨x3,-⟩⟩,⟨x4,-⟩,⟨x5,-⟩,⟨x6,-⟩,⟨x7,-⟩⟩:=HX.out;go_wp2_with fail;clear q0 q1 q2 q3 q4 q5 q6 q7 x0 x1 x2 x3 x4 x5 x6 x7;have M:=(y.cell (AM N)).trans N;have z:=A3 (show ∀m,m<n->∀r,r<8->AF (wr.alloc (.cells #[.int .i64 (f j).id,.string (f j).name,.string (f j).set,.int .i64 (f j).A5,.int .i64 (f j).time,.int .i64 (f j).rs,.int .i64 (f j).rb,.slice G (f j).dn H] 43)) d (off+m*8+r) (EB f kv (EG k j m) r)from fun m R r p=>(U.out m R r p).A1 y);have K:=A3 (show AC (fun i=>i=d) w (wr.alloc (.cells #[.int .i64 (f j).id,.string (f j).name,.string (f j).set,.int .i64 (f j).A5,.int .i64 (f j).time,.int .i64 (f j).rs,.int .i64 (f j).rb,.slice G (f j).dn H] 43))from Z.out.trans (AC.CX y));generalize (wr.alloc (.cells #[.int .i64 (f j).id,.string (f j).name,.string (f j).set,.int .i64 (f j).A5,.int .i64 (f j).time,.int .i64 (f j).rs,.int .i64 (f j).rb,.slice G (f j).dn H] 43))=wa at y HX M z K ⊢;refine(YR (f j) G H B name wa M).mono ?_;rintro e v ⟨⟨t,rfl,ht⟩,u⟩;obtain rfl:t=false:=Bb ht (HU.out j E (by omega));clear ht;obtain⟨⟨⟨x0,-⟩,⟨x1,-⟩,⟨x2,-⟩,⟨x3,-⟩⟩,⟨x4,-⟩,⟨x5,-⟩,⟨x6,-⟩,⟨x7,-⟩⟩:=HX.out.A1 u;have D:((j - 1:Nat):Int)<(n:Int):=(by omega);have g:∀r,r<8->AF v d (off+(j - 1)*8+r) (EB f kv (EG k j (j - 1)) r):=fun r p=>(z.out (j - 1) (by omega) r p).A1 u
   obtain⟨t0,lC⟩:AF v d (off+(j - 1)*8) _:=g 0 (by omega);obtain⟨t1,mC⟩:AF v d (off+(j - 1)*8+1) _:=g 1 (by omega);obtain⟨t2,nC⟩:AF v d (off+(j - 1)*8+2) _:=g 2 (by omega);obtain⟨t3,oC⟩:AF v d (off+(j - 1)*8+3) _:=g 3 (by omega);obtain⟨t4,pC⟩:AF v d (off+(j - 1)*8+4) _:=g 4 (by omega);obtain⟨t5,rC⟩:AF v d (off+(j - 1)*8+5) _:=g 5 (by omega);obtain⟨t6,sC⟩:AF v d (off+(j - 1)*8+6) _:=g 6 (by omega);obtain⟨t7,tC⟩:AF v d (off+(j - 1)*8+7) _:=g 7 (by omega);have W:=A3 g;clear g;go_wp2_with fail;have S:AC (fun i=>i=d) v ((((((((v.setCell ⟨d,off+(j - 1)*8,none⟩ (.int .i64 (f j).id)).setCell ⟨d,off+(j - 1)*8+1,none⟩ (.string (f j).name)).setCell ⟨d,off+(j - 1)*8+2,none⟩ (.string (f j).set)).setCell ⟨d,off+(j - 1)*8+3,none⟩ (.int .i64 (f j).A5)).setCell ⟨d,off+(j - 1)*8+4,none⟩ (.int .i64 (f j).time)).setCell ⟨d,off+(j - 1)*8+5,none⟩ (.int .i64 (f j).rs)).setCell ⟨d,off+(j - 1)*8+6,none⟩ (.int .i64 (f j).rb)).setCell ⟨d,off+(j - 1)*8+7,none⟩ (.slice G (f j).dn H)):=(((((((AC.put _ d _ _).trans (AC.put _ d _ _)).trans (AC.put _ d _ _)).trans (AC.put _ d _ _)).trans (AC.put _ d _ _)).trans (AC.put _ d _ _)).trans (AC.put _ d _ _)).trans (AC.put _ d _ _);have e1:((j - 1:Nat):Int)+1=((j+1 - 1:Nat):Int):=(by omega);have e2:(j:Int)+1=((j+1:Nat):Int):=(by omega);refine⟨⟨j+1,by omega,by omega,by rw[e1],by rw[e2],(K.out.trans (AC.CX u)).trans S,fun m R r p=>?_⟩,by simp[intOf];omega⟩;have g:=W.out;by_cases cA:m=j - 1
   ·subst cA;have e3:EG k (j+1) (j - 1)=j:=by
     unfold EG;rw[if_neg (by omega),if_pos (by omega)];omega
    rw[e3];rcases(by omega:r=0\/r=1\/r=2\/r=3\/r=4\/r=5\/r=6\/r=7)with rfl | rfl | rfl | rfl | rfl | rfl | rfl | rfl
    ·exact(((((((((g 0 (by omega)).set _).other _ (Or.inr (by omega))).other _ (Or.inr (by omega))).other _ (Or.inr (by omega))).other _ (Or.inr (by omega))).other _ (Or.inr (by omega))).other _ (Or.inr (by omega))).other _ (Or.inr (by omega)))
    ·exact(((((((((g 1 (by omega)).other _ (Or.inr (by omega))).set _).other _ (Or.inr (by omega))).other _ (Or.inr (by omega))).other _ (Or.inr (by omega))).other _ (Or.inr (by omega))).other _ (Or.inr (by omega))).other _ (Or.inr (by omega)))
    ·exact(((((((((g 2 (by omega)).other _ (Or.inr (by omega))).other _ (Or.inr (by omega))).set _).other _ (Or.inr (by omega))).other _ (Or.inr (by omega))).other _ (Or.inr (by omega))).other _ (Or.inr (by omega))).other _ (Or.inr (by omega)))
    ·exact(((((((((g 3 (by omega)).other _ (Or.inr (by omega))).other _ (Or.inr (by omega))).other _ (Or.inr (by omega))).set _).other _ (Or.inr (by omega))).other _ (Or.inr (by omega))).other _ (Or.inr (by omega))).other _ (Or.inr (by omega)))
    ·exact(((((((((g 4 (by omega)).other _ (Or.inr (by omega))).other _ (Or.inr (by omega))).other _ (Or.inr (by omega))).other _ (Or.inr (by omega))).set _).other _ (Or.inr (by omega))).other _ (Or.inr (by omega))).other _ (Or.inr (by omega)))
    ·exact(((((((((g 5 (by omega)).other _ (Or.inr (by omega))).other _ (Or.inr (by omega))).other _ (Or.inr (by omega))).other _ (Or.inr (by omega))).other _ (Or.inr (by omega))).set _).other _ (Or.inr (by omega))).other _ (Or.inr (by omega)))
    ·exact(((((((((g 6 (by omega)).other _ (Or.inr (by omega))).other _ (Or.inr (by omega))).other _ (Or.inr (by omega))).other _ (Or.inr (by omega))).other _ (Or.inr (by omega))).other _ (Or.inr (by omega))).set _).other _ (Or.inr (by omega)))
    ·show AF _ d _ (kv j);rw[T];exact(((((((((g 7 (by omega)).other _ (Or.inr (by omega))).other _ (Or.inr (by omega))).other _ (Or.inr (by omega))).other _ (Or.inr (by omega))).other _ (Or.inr (by omega))).other _ (Or.inr (by omega))).other _ (Or.inr (by omega))).set _)
   ·have e3:EG k (j+1) m=EG k j m:=by
     unfold EG;split
     ·rfl
     ·by_cases h:m+1<j
      ·rw[if_pos h,if_pos (by omega)]
      ·rw[if_neg h,if_neg (by omega)]
    rw[e3];have h:=(z.out m R r p).A1 u;exact((((((((h.other _ (Or.inr (by omega))).other _ (Or.inr (by omega))).other _ (Or.inr (by omega))).other _ (Or.inr (by omega))).other _ (Or.inr (by omega))).other _ (Or.inr (by omega))).other _ (Or.inr (by omega))).other _ (Or.inr (by omega)))
  ·obtain rfl:j=n:=(by omega);have jB:(0:Int)<=((j - 1:Nat):Int):=(by omega);have kB:((j - 1:Nat):Int)<=(j:Int):=(by omega);have lB:((j - 1:Nat):Int)<=(c:Int):=(by omega);have mB:j - 1<=c:=(by omega);have nB:j - 1<=j:=(by omega);have rB:¬c=j - 1:=(by omega);have vB:j - (j - 1)=1:=(by omega);have q:∀r,r<8->AF wr d (off+(j - 1)*8+r) (EB f kv (EG k j (j - 1)) r):=fun r p=>U.out (j - 1) (by omega) r p
   have iA:=fun ty=>zAP wr ty d (off+(j - 1)*8) (c - (j - 1)) (fun r p=>by rw[(q r p).1];rfl) (fun r p=>(q r p).2)
   have O:=TX (b:=d) GU (off+(j - 1)*8) wr;have I:=A3 (show ∀i,i<j - 1->∀r,r<8->AF (wr.setCells d (off+(j - 1)*8) GU) d (off+i*8+r) (EB (del f k) (del kv k) i r)from fun i hi r p=>by
    have h:=YN GU (off+(j - 1)*8) wr (U.out i (by omega) r p) (by omega);have e:EB (del f k) (del kv k) i r=EB f kv (EG k j i) r:=by
     unfold EB del EG;by_cases e:i<k
     ·simp only[if_pos e]
     ·simp only[if_neg e,if_pos (show i+1<j by omega)]
    rw[e];exact h)
   have L:=A3 (Z.out.trans O);clear q O;generalize wr.setCells d (off+(j - 1)*8) GU=wz at iA I L;go_wp2_with fail;go_ret;exact⟨rfl,L.out,I.out⟩
variable{w:World}{f:Nat->AT}{kv:Nat->Value}
theorem zDn{bs o nb:Nat}{i:Nat}(h:EU w bs o nb (kv i) (f i)):∀r,r<8->AF w bs (o+r) (EB f kv i r)
 | 0,_=>h.c0
 | 1,_=>h.c1
 | 2,_=>h.c2
 | 3,_=>h.c3
 | 4,_=>h.c4
 | 5,_=>h.c5
 | 6,_=>h.c6
 | 7,_=>h.c7
 | n+8,h=>absurd h (by omega)
theorem Fo.nthE{bs n off c:Nat}{kb:Nat->Nat}(h:Fo w bs kb kv (.slice (some ⟨bs,off,none⟩) n c) n f){k:Nat}(d:k<n):EU w bs (off+k*8) (kb k) (kv k) (f k):=by
 obtain⟨_,a,c',hv,_,g⟩:=h;simp only[Value.slice.injEq,true_and]at hv;obtain⟨b,e,hs⟩:=g (by omega);rw[<-hv.1]at e;simp only[Option.some.injEq,Addr.mk.injEq,and_true,true_and]at e;rw[e];exact hs k d
def SdR(bn:Nat)(kb:Nat->Nat)(k n:Nat)(f:Nat->AT)(j:Nat):Prop:=j=bn\/∃i,i<n/\i≠k/\0<(f i).dn/\j=kb i
def SdE(w wr:World)(C PB IB k bn off cn:Nat)(z2:Value)(W:A4)(x:Int)(pl:A7)(m:Int)(fT:Nat->Ac)(fS:Nat->AT):Prop:=∃(y0 y1:Value) (P Q:Nat->Prop) (kb:Nat->Nat) (kv:Nat->Value),BR wr C y0 y1 (.int .i64 W.time) (.int .i64 W.next) z2 (.slice (some ⟨bn,off,none⟩) W.pn cn) (.int .i64 0) (.int .i64 m) .nilIface/\(wr.cell? ⟨PB,0,none⟩=some (.pointer (some ⟨C,0,none⟩))/\wr.cell? ⟨IB,0,none⟩=some (.int .i64 x))/\AC (fun j=>C<=j) w wr/\Cg wr P y0 y1 pl/\Du wr Q z2 W.sn fT/\(∀i,i<W.pn->EU wr bn (off+i*8) (kb i) (kv i) (fS i))/\(∀i j,i<W.pn->j<W.pn->i≠k->j≠k->i≠j->0<(fS i).dn->0<(fS j).dn->kb i≠kb j)/\(∀j,P j->¬Q j/\¬SdR bn kb k W.pn fS j)/\(∀j,Q j->¬SdR bn kb k W.pn fS j)/\∀j,P j\/Q j\/SdR bn kb k W.pn fS j->C<j/\j<wr.heap.size
theorem SdE.A1{wr w':World}{C PB IB k bn off cn:Nat}{z2:Value}{W:A4}{x:Int}{pl:A7}{m:Int}{fT:Nat->Ac}{fS:Nat->AT}(h:SdE w wr C PB IB k bn off cn z2 W x pl m fT fS)(t:Below wr.heap.size wr w'):SdE w w' C PB IB k bn off cn z2 W x pl m fT fS:=by
 obtain⟨y0,y1,P,Q,kb,kv,d,b,e,f,g,l,n,o,p,a⟩:=h;exact⟨y0,y1,P,Q,kb,kv,d.A1 t,⟨(t.cell (AM b.1)).trans b.1,(t.cell (AM b.2)).trans b.2⟩,e.trans (AC.CX t),f.A1 t,g.A1 t,fun i hi=>(l i hi).A1 t,n,o,p,fun j c=>⟨(a j c).1,Nat.lt_of_lt_of_le (a j c).2 t.size⟩⟩
section
variable {w wq w7 : World} {C PB IB k bn off cn nb mid : Nat} {z0 z1 z2 y0 y1 nv : Value} {W : A4} {x m : Int} {P Q R : Nat -> Prop} {kb : Nat -> Nat} {kv : Nat -> Value} {pl : A7}
structure SdA (w:World) (C k bn off cn:Nat) (W:A4) (P Q R:Nat->Prop) (kb:Nat->Nat) (kv:Nat->Value):Prop where
 rows:Fo w bn kb kv (.slice (some ⟨bn,off,none⟩) W.pn cn) W.pn W.A0
 ap:MM kb W.pn W.A0
 inR:∀j,Ic bn kb W.pn W.A0 j->R j
 pq:∀j,P j->¬Q j
 pr:∀j,P j->¬R j
 qr:∀j,Q j->¬R j
 lt:∀j,P j\/Q j\/R j->C+1<=j/\j<w.heap.size
 here:k<W.pn
structure SdN (w wq w7:World) (C PB IB k bn off cn nb mid:Nat) (y0 y1 z2 nv:Value) (W:A4) (x m:Int) (P:Nat->Prop) (kb:Nat->Nat) (kv:Nat->Value) (pl:A7) (l:List (Int×Int)):Prop where
 bq:Below w.heap.size w wq
 box:BR w7 C y0 y1 (.int .i64 W.time) (.int .i64 W.next) z2 (.slice (some ⟨bn,off,none⟩) W.pn cn) (.int .i64 0) (.int .i64 m) .nilIface
 cPB:w7.cell? ⟨PB,0,none⟩=some (.pointer (some ⟨C,0,none⟩))
 cIB:w7.cell? ⟨IB,0,none⟩=some (.int .i64 x)
 old:w.heap.size<=PB/\w.heap.size<=IB
 pool:Cg w7 (fun j=>P j\/(wq.heap.size<=j/\j<mid)) y0 y1 pl
 turn:AC (fun j=>j=C\/(0<(W.A0 k).dn/\j=kb k)) wq w7
 m1:wq.heap.size<=mid
 m2:mid<=w7.heap.size
 new:Bm w7 nb nv l.length (AI l) (AK l)
 nb:0<l.length->(0<(W.A0 k).dn/\nb=kb k)\/(mid<=nb/\nb<w7.heap.size)
 keep:Bm w7 (kb k) (kv k) (W.A0 k).dn (W.A0 k).ds (W.A0 k).db
theorem SdA.inB(h:SdA w C k bn off cn W P Q R kb kv):R bn:=h.inR _ (Or.inl ⟨by have:=h.here;omega,rfl⟩)
variable{i:Nat}
theorem SdA.inK(h:SdA w C k bn off cn W P Q R kb kv)(hi:i<W.pn)(a:0<(W.A0 i).dn):R (kb i)/\kb i≠bn:=⟨h.inR _ (Or.inr ⟨i,hi,a,rfl⟩),(h.rows.nthE hi).BY a⟩
variable{l:List (Int×Int)}
theorem SdA.BI{y0 y1 z2:Value}(h:SdA w C k bn off cn W P Q R kb kv)(n:SdN w wq w7 C PB IB k bn off cn nb mid y0 y1 z2 nv W x m P kb kv pl l)(hi:i<W.pn):EU w7 bn (off+i*8) (kb i) (kv i) (W.A0 i):=by
 have d:=h.lt _ (Or.inr (Or.inr h.inB));have a:¬(bn=C\/(0<(W.A0 k).dn/\bn=kb k)):=fun e=>by
  rcases e with e | ⟨e0,e⟩
  ·omega
  ·exact(h.inK h.here e0).2 e.symm
 by_cases e:i=k
 ·have hs:=(h.rows.nthE hi).A1 n.bq;subst e;exact⟨hs.c0.AD n.turn a,hs.c1.AD n.turn a,hs.c2.AD n.turn a,hs.c3.AD n.turn a,hs.c4.AD n.turn a,hs.c5.AD n.turn a,hs.c6.AD n.turn a,hs.c7.AD n.turn a,n.keep,hs.Bo,hs.BY⟩
 ·refine((h.rows.nthE hi).A1 n.bq).AD n.turn a (fun c b=>?_);have:=h.lt _ (Or.inr (Or.inr (h.inK hi c).1));rcases b with b | ⟨e0,b⟩
  ·omega
  ·exact h.ap i k hi h.here e c e0 b
variable{ub:Nat->Nat}{uv:Nat->Value}
theorem SdA.set{y0 y1 z2 v2:Value}(h:SdA w C k bn off cn W P Q R kb kv)(n:SdN w wq w7 C PB IB k bn off cn nb mid y0 y1 z2 nv W x m P kb kv pl l){sb:Nat}(hs:Dw w sb ub uv v2 W.sn W.A2)(b:∀j,GM sb ub W.sn W.A2 j->Q j):Dw w7 sb ub uv v2 W.sn W.A2:=
 (hs.A1 n.bq).AD n.turn (fun j a e=>by
  have:=h.lt _ (Or.inr (Or.inl (b j a)));rcases e with e | ⟨e0,e⟩
  ·omega
  ·exact h.qr j (b j a) (by rw[e];exact(h.inK h.here e0).1))
theorem SdN.turnC{y0 y1 z2:Value}(h:SdA w C k bn off cn W P Q R kb kv)(n:SdN w wq w7 C PB IB k bn off cn nb mid y0 y1 z2 nv W x m P kb kv pl l):AC (fun j=>C<=j) w w7:=(AC.CX n.bq).trans (n.turn.mono (fun j e=>by
 rcases e with e | ⟨e0,e⟩
 ·omega
 ·have:=h.lt _ (Or.inr (Or.inr (h.inK h.here e0).1));omega))
theorem zFT(h:SdA w C k bn off cn W P Q R kb kv)(n:SdN w wq w7 C PB IB k bn off cn nb mid y0 y1 z2 nv W x m P kb kv pl (sdD W (W.A0 k) (W.A0 i).dn (W.A0 i).ds (W.A0 i).db))(Z:Du w Q z2 W.sn W.A2)(hi:i<W.pn)(eA:i≠k) :
 SdE w ((w7.setCell ⟨bn,off+i*8+3,none⟩ (.int .i64 (W.A0 k).A5)).setCell ⟨bn,off+i*8+7,none⟩ nv) C PB IB k bn off cn z2 W x pl m W.A2 (E7 W k i):=by
 obtain⟨D,N⟩:∃D,D=sdD W (W.A0 k) (W.A0 i).dn (W.A0 i).ds (W.A0 i).db:=⟨_,rfl⟩;have aA:=h.lt _ (Or.inr (Or.inr h.inB));have gA:=n.bq.size;have fA:=n.turn.size;have cA:=n.m1;have dA:=n.m2;have O:=n.old;have d:AC (fun j=>j=bn) w7 ((w7.setCell ⟨bn,off+i*8+3,none⟩ (.int .i64 (W.A0 k).A5)).setCell ⟨bn,off+i*8+7,none⟩ nv):=(AC.put _ bn _ _).trans (AC.put _ bn _ _);have iA:=d.size;have t:=n.new;have l:=n.nb;rw[<-N]at t l;have s:0<D.length->nb≠bn:=fun f=>by
  rcases l f with⟨e0,e⟩ | e
  ·rw[e];exact(h.inK h.here e0).2
  ·omega
 have L:E7 W k i i = {W.A0 i with A5:=(W.A0 k).A5,dn:=D.length,ds:=AI D,db:=AK D}:=by unfold E7 Dj;rw[if_pos rfl,N]
 have K:∀j,j≠i->E7 W k i j=W.A0 j:=fun j c=>if_neg c
 have q:∀j,j<W.pn->0<(E7 W k i j).dn->j≠k->((if j=i then nb else kb j)=nb/\j=i/\0<D.length)\/((if j=i then nb else kb j)=kb j/\j≠i/\R (kb j)/\kb j≠bn/\0<(W.A0 j).dn):=fun j c f bA=>by
  by_cases e:j=i
  ·subst e;rw[L]at f;exact Or.inl ⟨if_pos rfl,rfl,f⟩
  ·rw[K j e]at f;exact Or.inr ⟨if_neg e,e,(h.inK c f).1,(h.inK c f).2,f⟩
 have G:∀j,SdR bn (fun j=>if j=i then nb else kb j) k W.pn (E7 W k i) j->R j\/(mid<=j/\j<w7.heap.size):=fun j c=>by
  rcases c with e | ⟨a,z,p,f,e⟩
  ·rw[e];exact Or.inl h.inB
  ·rcases q a z f p with⟨r,-,y⟩ | ⟨r,-,y,-⟩
   ·rw[show j=nb from e.trans r];rcases l y with⟨e0,o⟩ | o
    ·rw[o];exact Or.inl (h.inK h.here e0).1
    ·exact Or.inr o
   ·rw[show j=kb a from e.trans r];exact Or.inl y
 refine⟨y0,y1,_,Q,(fun j=>if j=i then nb else kb j),(fun j=>if j=i then nv else kv j),n.box.AD d (by omega),⟨(d.cell (AM n.cPB) (by omega)).trans n.cPB,(d.cell (AM n.cIB) (by omega)).trans n.cIB⟩,(n.turnC h).trans (d.mono (fun j e=>by omega)),n.pool.AD d (fun j c e=>?_),?_,fun j c=>?_,fun a b z A p u H y M=>?_,fun j c=>⟨fun S=>?_,fun g=>?_⟩,fun j c g=>?_,fun j c=>?_⟩
 ·subst e;rcases c with c | c
  ·exact h.pr _ c h.inB
  ·omega
 ·obtain⟨sb,ub,uv,X,Y,F⟩:=Z;exact⟨sb,ub,uv,(h.set n X F).AD d (fun j c e=>h.qr j (F j c) (by rw[e];exact h.inB)),Y,F⟩
 ·have hs:=h.BI n c;by_cases e:j=i
  ·subst e;simp only[if_true];rw[L];exact⟨((hs.c0.other _ (Or.inr (by omega))).other _ (Or.inr (by omega))),((hs.c1.other _ (Or.inr (by omega))).other _ (Or.inr (by omega))),((hs.c2.other _ (Or.inr (by omega))).other _ (Or.inr (by omega))),((hs.c3.set _).other _ (Or.inr (by omega))),((hs.c4.other _ (Or.inr (by omega))).other _ (Or.inr (by omega))),((hs.c5.other _ (Or.inr (by omega))).other _ (Or.inr (by omega))),((hs.c6.other _ (Or.inr (by omega))).other _ (Or.inr (by omega))),((hs.c7.other _ (Or.inr (by omega))).set _),t.AD d (fun f e=>s f e),hs.Bo,s⟩
  ·simp only[if_neg e];rw[K j e];exact⟨(hs.c0.other _ (Or.inr (by omega))).other _ (Or.inr (by omega)),(hs.c1.other _ (Or.inr (by omega))).other _ (Or.inr (by omega)),(hs.c2.other _ (Or.inr (by omega))).other _ (Or.inr (by omega)),(hs.c3.other _ (Or.inr (by omega))).other _ (Or.inr (by omega)),(hs.c4.other _ (Or.inr (by omega))).other _ (Or.inr (by omega)),(hs.c5.other _ (Or.inr (by omega))).other _ (Or.inr (by omega)),(hs.c6.other _ (Or.inr (by omega))).other _ (Or.inr (by omega)),(hs.c7.other _ (Or.inr (by omega))).other _ (Or.inr (by omega)),hs.dead.AD d (fun f e=>hs.BY f e),hs.Bo,hs.BY⟩
 ·rcases q a z y p with⟨r,i1,l1⟩ | ⟨r,i1,r1,-,J⟩
  ·rcases q b A M u with⟨o,I,T⟩ | ⟨o,I,U,-,B⟩
   ·omega
   ·show(if a=i then nb else kb a)≠(if b=i then nb else kb b);rw[r,o];rcases l l1 with⟨e0,v⟩ | v
    ·rw[v];exact fun E=>h.ap k b h.here A (fun V=>u V.symm) e0 B E
    ·have:=h.lt _ (Or.inr (Or.inr U));omega
  ·rcases q b A M u with⟨o,I,T⟩ | ⟨o,I,U,-,B⟩
   ·show(if a=i then nb else kb a)≠(if b=i then nb else kb b);rw[r,o];rcases l T with⟨e0,v⟩ | v
    ·rw[v];exact fun E=>h.ap a k z h.here p J e0 E
    ·have:=h.lt _ (Or.inr (Or.inr r1));omega
   ·show(if a=i then nb else kb a)≠(if b=i then nb else kb b);rw[r,o];exact h.ap a b z A H J B
 ·rcases c with c | c
  ·exact h.pq j c S
  ·have:=h.lt j (Or.inr (Or.inl S));omega
 ·rcases G j g with g | g
  ·rcases c with c | c
   ·exact h.pr j c g
   ·have:=h.lt j (Or.inr (Or.inr g));omega
  ·rcases c with c | c
   ·have:=h.lt j (Or.inl c);omega
   ·omega
 ·rcases G j g with g | g
  ·exact h.qr j c g
  ·have:=h.lt j (Or.inr (Or.inl c));omega
 ·rcases c with(c | c) | c | c
  ·have:=h.lt j (Or.inl c);omega
  ·omega
  ·have:=h.lt j (Or.inr (Or.inl c));omega
  ·rcases G j c with g | g
   ·have:=h.lt j (Or.inr (Or.inr g));omega
   ·omega
theorem zGy{sb so sc:Nat}(h:SdA w C k bn off cn W P Q R kb kv)(n:SdN w wq w7 C PB IB k bn off cn nb mid y0 y1 (.slice (some ⟨sb,so,none⟩) W.sn sc) nv W x m P kb kv pl (sdD W (W.A0 k) (W.A2 i).dn (W.A2 i).ds (W.A2 i).db))(O:Dw w sb ub uv (.slice (some ⟨sb,so,none⟩) W.sn sc) W.sn W.A2)(E:MD ub W.sn W.A2)(l:∀j,GM sb ub W.sn W.A2 j->Q j)(hi:i<W.sn) :
 SdE w ((w7.setCell ⟨sb,so+i*6+2,none⟩ (.int .i64 (W.A0 k).A5)).setCell ⟨sb,so+i*6+5,none⟩ nv) C PB IB k bn off cn (.slice (some ⟨sb,so,none⟩) W.sn sc) W x pl m (Fs W k i) W.A0:=by
 obtain⟨D,I⟩:∃D,D=sdD W (W.A0 k) (W.A2 i).dn (W.A2 i).ds (W.A2 i).db:=⟨_,rfl⟩;have g:Q sb:=l _ (Or.inl ⟨by omega,rfl⟩);have Y:=h.lt _ (Or.inr (Or.inl g));have T:=h.lt _ (Or.inr (Or.inr h.inB));have H:bn≠sb:=fun e=>h.qr sb g (by rw[<-e];exact h.inB)
 have cA:=n.bq.size;have bA:=n.turn.size;have V:=n.m1;have X:=n.m2;have J:=n.old;have d:AC (fun j=>j=sb) w7 ((w7.setCell ⟨sb,so+i*6+2,none⟩ (.int .i64 (W.A0 k).A5)).setCell ⟨sb,so+i*6+5,none⟩ nv):=(AC.put _ sb _ _).trans (AC.put _ sb _ _);have dA:=d.size;have s:=n.new;have t:=n.nb;rw[<-I]at s t;have L:Fs W k i=fun j=>if j=i then {W.A2 i with A5:=(W.A0 k).A5,dn:=D.length,ds:=AI D,db:=AK D}else W.A2 j:=by unfold Fs E8;rw[I]
 have q:0<D.length->nb≠sb:=fun f=>by
  rcases t f with⟨e0,e⟩ | e
  ·rw[e];exact fun p=>h.qr sb g (by rw[<-p];exact(h.inK h.here e0).1)
  ·omega
 have z:=h.set n O l;have hs:E9 w7 sb (so+i*6) (ub i) (uv i) (W.A2 i):=by
  obtain⟨K,c',ev,hx⟩:=z.nth hi;simp only[Value.slice.injEq,Option.some.injEq,Addr.mk.injEq,and_true,true_and]at ev;obtain⟨rfl,rfl⟩:=ev;exact hx
 have o:∀j,SdR bn kb k W.pn W.A0 j->R j:=fun j c=>by
  rcases c with e | ⟨a,A,-,f,e⟩
  ·rw[e];exact h.inB
  ·rw[e];exact(h.inK A f).1
 refine⟨y0,y1,_,(fun j=>Q j\/(0<(W.A0 k).dn/\j=kb k)\/(mid<=j/\j<w7.heap.size)),kb,kv,n.box.AD d (by omega),⟨(d.cell (AM n.cPB) (by omega)).trans n.cPB,(d.cell (AM n.cIB) (by omega)).trans n.cIB⟩,(n.turnC h).trans (d.mono (fun j e=>by omega)),n.pool.AD d (fun j c e=>?_),?_,fun j c=>?_,fun a b A S _ _ F M N=>h.ap a b A S F M N,fun j c=>⟨fun v=>?_,fun y=>?_⟩,fun j c y=>?_,fun j c=>?_⟩
 ·subst e;rcases c with c | c
  ·exact h.pq _ c g
  ·omega
 ·rw[L];refine zAS z E (fun j c=>Or.inl (l j c)) hi (nb:=nb) (nv:=nv) (d.mono (fun j e=>Or.inl e)) (fun j c U r y u Z=>(Z.other _ (Or.inr (by omega))).other _ (Or.inr (by omega))) ⟨((hs.c0.other _ (Or.inr (by omega))).other _ (Or.inr (by omega))),((hs.c1.other _ (Or.inr (by omega))).other _ (Or.inr (by omega))),((hs.c2.set _).other _ (Or.inr (by omega))),((hs.c3.other _ (Or.inr (by omega))).other _ (Or.inr (by omega))),((hs.c4.other _ (Or.inr (by omega))).other _ (Or.inr (by omega))),((hs.c5.other _ (Or.inr (by omega))).set _),s.AD d (fun f e=>q f e),hs.Bo,q⟩ (fun f=>?_);rcases t f with⟨e0,e⟩ | e
  ·exact⟨Or.inr (fun j c p=>h.qr j (l j c) (by rw[p,e];exact(h.inK h.here e0).1)),Or.inr (Or.inl ⟨e0,e⟩)⟩
  ·exact⟨Or.inr (fun j c p=>by have:=h.lt j (Or.inr (Or.inl (l j c)));omega),Or.inr (Or.inr e)⟩
 ·exact(h.BI n c).AD d H (fun f e=>h.qr sb g (by rw[<-e];exact(h.inK c f).1))
 ·rcases c with c | c
  ·rcases v with v | ⟨e0,e⟩ | e
   ·exact h.pq j c v
   ·exact h.pr j c (by rw[e];exact(h.inK h.here e0).1)
   ·have:=h.lt j (Or.inl c);omega
  ·rcases v with v | ⟨e0,e⟩ | e
   ·have:=h.lt j (Or.inr (Or.inl v));omega
   ·have:=h.lt _ (Or.inr (Or.inr (h.inK h.here e0).1));omega
   ·omega
 ·have B:=o j y;rcases c with c | c
  ·exact h.pr j c B
  ·have:=h.lt j (Or.inr (Or.inr B));omega
 ·rcases c with c | ⟨e0,e⟩ | e
  ·exact h.qr j c (o j y)
  ·rcases y with p | ⟨a,A,G,f,p⟩
   ·exact(h.inK h.here e0).2 (e.symm.trans p)
   ·exact h.ap a k A h.here G f e0 (p.symm.trans e)
  ·have:=h.lt j (Or.inr (Or.inr (o j y)));omega
 ·rcases c with(c | c) | (c | ⟨e0,e⟩ | e) | c
  ·have:=h.lt j (Or.inl c);omega
  ·omega
  ·have:=h.lt j (Or.inr (Or.inl c));omega
  ·have:=h.lt _ (Or.inr (Or.inr (h.inK h.here e0).1));omega
  ·omega
  ·have:=h.lt j (Or.inr (Or.inr (o j c)));omega
end
variable{W:A4}
theorem zAg(h:Ct W)(x:Int):F2 (AB W x).time:=by
 by_cases c:∃k,BB W x k
 ·obtain⟨k,b⟩:=c;rw[Cn b];have a:=(h.2.2.2.2.2 k b.1).1;have d:=h.1;unfold JV at d;exact⟨by have:=a.2.2.1;omega,by have:=a.2.2.2.1;omega⟩
 ·have e:AB W x=CQ:=(by unfold AB;rw[dif_neg c]);rw[e];exact⟨by decide,by decide⟩
def zCy(W:A4)(sid:Int)(w:World)(e:Ending)(w':World):Prop:=∃r o,Gq W (∃i,i<0/\8000<((fun (_:Nat)=>(⟨#[]⟩:ByteArray)) i).size) (∃i,i<0/\¬Bp ((fun _=>⟨#[]⟩) i)) 2 (fun i=>match i with | 0=>BG W sid | _=>D4 W sid=1) (fun i=>match i with | 0=>2 | _=>5) r/\(r=none->∃k,BB W sid k/\((∃i,EO W sid i/\o=⟨Gj W k i,0,((Cz W k i).length:Int),0⟩)\/∃i,EP W sid i/\o=⟨Gk W k i,0,((D2 W k i).length:Int),0⟩))/\KL (Gi r o) w e w'
theorem zFX(a:Ab W)(t:Int):(∀i,i<W.pn->C1 (W.A0 i).dn (W.A0 i).ds (W.A0 i).db/\CK W.pool (BE (W.A0 i).ds (W.A0 i).db t (W.A0 i).dn))/\∀i,i<W.sn->C1 (W.A2 i).dn (W.A2 i).ds (W.A2 i).db/\CK W.pool (BE (W.A2 i).ds (W.A2 i).db t (W.A2 i).dn):=by
 refine⟨fun i hi=>?_,fun i hi=>?_⟩
 ·have:=M4 a (i:=i) (by unfold memN;omega) t;rw[B9 hi]at this;exact this
 ·have:=M4 a (i:=W.pn+i) (by unfold memN;omega) t;rw[By]at this;exact this
theorem zIB{a:Int}(k:Nat)(h:D4 W a=1):∃o:BQ,((∃i,EO W a i/\o=⟨Gj W k i,0,((Cz W k i).length:Int),0⟩)\/∃i,EP W a i/\o=⟨Gk W k i,0,((D2 W k i).length:Int),0⟩):=by
 rcases PO h with⟨i,hi⟩ | ⟨i,hi⟩
 ·exact⟨_,Or.inl ⟨i,hi,rfl⟩⟩
 ·exact⟨_,Or.inr ⟨i,hi,rfl⟩⟩
open Go.Extern.Stop Go.Stop Go.Extern
def JF(w:World)(b:Nat)(p:Nat->Addr):Prop:=∀k,k<7->w.cell? ⟨b,k*2,none⟩=some (Aq (p k))/\w.cell? ⟨b,k*2+1,none⟩=some (.int .i64 (Dq k))
theorem JF.A1{w':World}{b:Nat}{p:Nat->Addr}(h:JF w b p)(t:Below w.heap.size w w'):JF w' b p:=
 fun k a=>⟨(t.cell (AM (h k a).1)).trans (h k a).1,(t.cell (AM (h k a).2)).trans (h k a).2⟩
theorem JF.new(p:Nat->Addr)(w:World):JF (w.alloc (.cells (MY p) 159)) w.heap.size p:=
 fun k a=>⟨(At (heap_alloc_new _ _) (Si p a).1).1,(At (heap_alloc_new _ _) (Si p a).2).1⟩
theorem Xj(p:Nat->Addr)(i:Nat)(hi:i<7)(w:World)(h:Do w p):Calls Tryz.prog 56 #[Aq (p i)] w fun e w'=>e = .returned (.int .i64 (Dq i))/\Below w.heap.size w w':=by
 have f:=AU h;clear h;have q:=A9 w (.cells (MY p) 159);have m:=AU (JF.new p w);go_enter Tryz.func56,Tryz.ntmps56;go_wp2_with fail;refine(zBv p _ f.out).mono ?_;rintro e z ⟨rfl,rfl⟩;go_wp2
 go_loopw [7] (fun t wr=>∃k:Nat,k<=i/\t = .int .i64 k/\JF wr w.heap.size p/\Below w.heap.size w wr) (fun i _=>7 - (intOf i).toNat)
 case atStart=>exact⟨0,Nat.zero_le _,rfl,m.out,q⟩
 case round=>
  obtain⟨k,y,rfl,g,r⟩:=hrel;have s:(k:Int)<7:=(by omega);obtain⟨u,q1⟩:=g k (by omega);have j:=AU g;clear g;have hn:=A9 wr (.cells #[Aq (p k),.int .i64 (Dq k)] 159);have a:=A8 r hn;have b:=AU (j.out.A1 hn);have z0:(wr.alloc (.cells #[Aq (p k),.int .i64 (Dq k)] 159)).cell? ⟨wr.heap.size,0,none⟩=some (Aq (p k)):=(At (heap_alloc_new _ _) rfl).1;have z1:(wr.alloc (.cells #[Aq (p k),.int .i64 (Dq k)] 159)).cell? ⟨wr.heap.size,1,none⟩=some (.int .i64 (Dq k)):=(At (heap_alloc_new _ _) rfl).1;go_wp2_with fail;generalize wr.alloc (.cells #[Aq (p k),.int .i64 (Dq k)] 159)=W5 at z0 z1 hn a b ⊢;clear u q1;by_cases l:k=i
  ·subst l;refine(zGe (p k) _).mono ?_;rintro e x ⟨rfl,rfl⟩;go_wp2;go_ret;exact⟨rfl,a⟩
  ·obtain⟨n,v,c⟩:=(f.out.A1 a).row i hi;obtain⟨o,tb,d⟩:=(f.out.A1 a).row k (by omega);refine(zEW (p i) (p k) n o v tb _ (f.out.ne i k hi (by omega) (Ne.symm l)) c d).mono ?_;rintro e x ⟨rfl,rfl⟩;clear c d;go_wp2;go_roundw
   case rel=>exact⟨k+1,by omega,by go_num,b.out,a⟩
   case measure=>simp[intOf];omega
end Go.Proofs.YtnfjcaoclahfjaaGreatDoor

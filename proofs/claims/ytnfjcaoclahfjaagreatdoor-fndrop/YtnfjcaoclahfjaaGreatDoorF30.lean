/- A part of the proof. -/
import Derived.Test.YtnfjcaoclahfjaaGreatDoorF29
set_option linter.unusedVariables false
set_option maxRecDepth 20000
set_option maxHeartbeats 4000000
namespace Go.Proofs.YtnfjcaoclahfjaaGreatDoor
noncomputable section
open Go.RowKit
set_option linter.unusedSimpArgs false
set_option maxRecDepth 20000
set_option maxHeartbeats 1600000
variable{a b:Nat}
theorem Rs(h:a+b<=1000000000):IntKind.i64.wrap ((a:Int)+(b:Int))=(a:Int)+(b:Int):=by
 unfold IntKind.wrap;simp[IntKind.signed,IntKind.bits];omega
theorem zIu(h:a<=1000000000)(c:b<=1000000000):IntKind.i64.wrap ((a:Int) - (b:Int))=(a:Int) - (b:Int):=by
 unfold IntKind.wrap;simp[IntKind.signed,IntKind.bits];omega
theorem tnS:((a:Int) - (b:Int)).toNat=a - b:=by omega
attribute [-go_sem] BV
attribute [go_sem] Qu N4 N5
def KB(W:A4)(k:Nat)(now old:List (Int×Int))(j s:Nat):Bool:=dB (Zl W k now old j s)
def Ys:AH:=AR (fun W:A4=>[woT W]) (fun W=>IQ W) (fun W=>bR (IZ W))
theorem zO(W:A4):Ys [woT W]=some (IQ W,bR (IZ W)):=Aa (fun l=>BW (nth l 0)) (fun _=>rfl) W
theorem zBN:Ag Tryz.prog 65 Ys:=by
 refine Au Ai (GOk.cons Ks (AA Tryz.func26 rfl rfl) (GOk.cons Ix (AA Tryz.func33 rfl rfl) (GOk.cons O7 (AA Tryz.func118 rfl rfl) GOk.nil))) Ah Tryz.func65 rfl Tryz.ntmps65 Tryz.results65 12 ?_;intro W u;replace u:IQ W:=u;have K:W.sn<=8:=u.AP.2.2.1;have H:W.pn<=20:=u.AP.2.2.2.1;have hn:W.pool.n<=200:=u.right.1;refine⟨by simp,?_⟩;simp[go_sem];refine⟨by omega,?_⟩;refine B2 (fun k:Nat=>⟨[(1,true,.m false [.p 1 0]),(3,true,.m false [.h 61]),(4,true,.i k)],[(61,.row 1 W.pool.n (D5 (KB W k [] [] 0))),(1,.var ((woL W).map Tr.cv))]⟩) (fun k=>memN W - k) (fun k=>k<=memN W/\Pn W k) 0 ?_ ⟨Nat.zero_le _,fun i hi=>by omega⟩ ?_
 ·simp[go_sem];refine Vs fun i j _ D=>?_
  cases (show j=0 by omega);have:KB W 0 [] [] 0 i=false:=by
   rw[KB,P2];rintro(⟨i,hi,_⟩ | ⟨q,M,_⟩)<;>omega
  simp[this]
 rintro k ⟨L,G⟩;have J:memN W=W.pn+W.sn:=rfl;by_cases E:k<memN W;rotate_left
 ·have z:¬(k:Int)<(W.pn:Int)+(W.sn:Int):=(by omega);simp[go_sem,Rs (show W.pn+W.sn<=1000000000 by omega),z];cases (show k=memN W by omega);exact G
 have z:(k:Int)<(W.pn:Int)+(W.sn:Int):=by omega
 have f:An W.pool (A6 W k).rs (A6 W k).rb:=u.trees.tree k E;have g:=KK u.A0 (A6 W k).A5;have x:=Kg u.ids (A6 W k).A5;by_cases hs:k<W.pn
 case' pos=>
  have e:A6 W k=Js (W.A0 k):=B9 hs;rw[e]at f g x;replace f:An W.pool (W.A0 k).rs (W.A0 k).rb:=f;replace g:An W.pool (AB W (W.A0 k).A5).rs (AB W (W.A0 k).A5).rb:=g;replace x:El W (W.A0 k).A5=AB W (W.A0 k).A5:=x;obtain⟨a,b⟩:∃l,l=AE W.pool (W.A0 k).rs (W.A0 k).rb:=⟨_,rfl⟩;obtain⟨c,d⟩:∃l,l=AE W.pool (AB W (W.A0 k).A5).rs (AB W (W.A0 k).A5).rb:=⟨_,rfl⟩;have o:a=treeM W (A6 W k):=(by rw[e];exact b);have r:c=oldM W (A6 W k):=(by rw[e];exact d);simp[go_sem,Rs (show W.pn+W.sn<=1000000000 by omega),z,hs,Jm,I6,u.pn,u.right,x,g,f,<-b,<-d]
 case' neg=>
  have e:A6 W k=MW W.time (W.A2 (k - W.pn)):=by
   have:=By W (k - W.pn)
   rwa [show W.pn+(k - W.pn)=k by omega]at this
  rw[e]at f g x;replace f:An W.pool (W.A2 (k - W.pn)).rs (W.A2 (k - W.pn)).rb:=f;replace g:An W.pool (AB W (W.A2 (k - W.pn)).A5).rs (AB W (W.A2 (k - W.pn)).A5).rb:=g;replace x:El W (W.A2 (k - W.pn)).A5=AB W (W.A2 (k - W.pn)).A5:=x;obtain⟨a,b⟩:∃l,l=AE W.pool (W.A2 (k - W.pn)).rs (W.A2 (k - W.pn)).rb:=⟨_,rfl⟩;obtain⟨c,d⟩:∃l,l=AE W.pool (AB W (W.A2 (k - W.pn)).A5).rs (AB W (W.A2 (k - W.pn)).A5).rb:=⟨_,rfl⟩;have o:a=treeM W (A6 W k):=(by rw[e];exact b);have r:c=oldM W (A6 W k):=(by rw[e];exact d);simp[go_sem,Rs (show W.pn+W.sn<=1000000000 by omega),zIu (show k<=1000000000 by omega) (show W.pn<=1000000000 by omega),tnS,z,hs,Jm,I6,u.pn,u.right,x,g,f,<-b,<-d];refine⟨⟨by omega,by omega⟩,?_⟩
 all_goals
  have N:a.length<=100:=(by rw[b];exact Nat.le_trans (D7 ..) (by omega));have lo:c.length<=100:=(by rw[d];exact Nat.le_trans (D7 ..) (by omega));have y:∀j,j<a.length->∃s:Nat,AI a j=(s:Int)/\s<W.pool.n:=fun j D=>by
   rw[b];exact Q6 u.right f (by rw[<-b];exact D)
  clear b d f g x e z hs;refine B2 (fun j:Nat=>⟨[(11,true,.i j),(10,true,.m false [.h 63]),(9,true,.m false [.h 62]),(1,true,.m false [.p 1 0]),(3,true,.m false [.h 61]),(4,true,.i k)],[(63,.row 2 a.length (ptL a)),(62,.row 2 c.length (ptL c)),(61,.row 1 W.pool.n (D5 (KB W k a c j))),(1,.var ((woL W).map Tr.cv))]⟩) (fun j=>a.length - j) (fun j=>j<=a.length/\Kc W k a c j) 0 ?_ ⟨Nat.zero_le _,fun i hi=>absurd hi (Nat.not_lt_zero _)⟩ ?_
  ·simp[go_sem];have I:Fb W k [] [] 0 (KB W k [] [] 0):=fun s=>Ew
   exact Jf fun i _=>Bool.eq_iff_iff.2 ((zAQ I a c i).trans Ew.symm)
  rintro j ⟨D,v⟩;have A:Fb W k a c j (KB W k a c j):=fun s=>Ew
  have F:c.length<=1000000:=(by omega);simp[go_sem,NA,Aj (show j<=1000000000 by omega),Aj (show k<=1000000000 by omega),Rq,F];refine⟨fun t=>⟨t,fun w=>⟨j+1,⟨t,zFO v w⟩,by omega,rfl,?_⟩,fun w=>?_⟩,fun t=>?_⟩
  ·exact Jf fun i _=>Bool.eq_iff_iff.2 ((zDe A w i).trans Ew.symm)
  ·obtain⟨s,hs,C⟩:=y j t;rw[hs];refine⟨t,⟨by omega,by omega⟩,by simpa using C,fun B=>?_,fun B=>⟨t,⟨by omega,by omega⟩,by simpa using C,j+1,⟨t,?_⟩,by omega,rfl,?_⟩⟩
   ·rw[Int.toNat_natCast]at B;exact zAR u.trees E o r A t hs w B
   ·rw[Int.toNat_natCast]at B;exact zFL v A hs B
   ·rw[Int.toNat_natCast];exact Vt fun i _=>Bool.eq_iff_iff.2 (Ew.trans (zDd A hs w i).symm)
  ·cases (show j=a.length by omega);refine⟨k+1,⟨E,zAi G o r v⟩,by omega,rfl,Jf fun i _=>?_⟩;exact Bool.eq_iff_iff.2 ((zDg A o r i).trans Ew.symm)
set_option maxRecDepth 20000
set_option maxHeartbeats 3200000
attribute [go_sem] BV
attribute [-go_sem] BV
structure SmallW (W:A4):Prop where
 n:W.pool.n<=1000000
 hn:W.pool.hn<=1000000
 sn:W.sn<=1000000
 pn:W.pn<=1000000
 sd:∀i,i<W.sn->(W.A2 i).dn<=1000000
 pd:∀i,i<W.pn->(W.A0 i).dn<=1000000
variable{W:A4}{k:Nat}
theorem zHj(h:k<W.pn):DV W k↔ES (W.A0 k).dn (W.A0 k).ds (W.A0 k).db (BN (AE W.pool (AB W (W.A0 k).A5).rs (AB W (W.A0 k).A5).rb) (AE W.pool (W.A0 k).rs (W.A0 k).rb)):=by
 unfold DV;rw[B9 h];exact Iff.rfl
theorem zHk:DV W (W.pn+k)↔ES (W.A2 k).dn (W.A2 k).ds (W.A2 k).db (BN (AE W.pool (AB W (W.A2 k).A5).rs (AB W (W.A2 k).A5).rb) (AE W.pool (W.A2 k).rs (W.A2 k).rb)):=by
 unfold DV;rw[By];exact Iff.rfl
def mWR:AH:=AR (fun W:A4=>[woT W]) (fun W=>SmallW W) (fun W=>bR (Ab W))
theorem Bu(W:A4):mWR [woT W]=some (SmallW W,bR (Ab W)):=Aa (fun l=>BW (nth l 0)) (fun _=>rfl) W
theorem FH:Ag Tryz.prog 20 mWR:=by
 refine Au Ai (GOk.cons OS (AA Tryz.func62 rfl rfl) (GOk.cons Oh (AA Tryz.func57 rfl rfl) (GOk.cons zBO (AA Tryz.func58 rfl rfl) (GOk.cons zC3 (AA Tryz.func59 rfl rfl) (GOk.cons Y0 (AA Tryz.func60 rfl rfl) (GOk.cons zA4 (AA Tryz.func61 rfl rfl) (GOk.cons Y1 (AA Tryz.func32 rfl rfl) (GOk.cons M5 (AA Tryz.func63 rfl rfl) (GOk.cons zA3 (AA Tryz.func64 rfl rfl) (GOk.cons zBN (AA Tryz.func65 rfl rfl) GOk.nil)))))))))) Ah Tryz.func20 rfl Tryz.ntmps20 Tryz.results20 8 ?_;intro W d;replace d:SmallW W:=d;refine⟨by simp,?_⟩;simp[go_sem,OE,yK,zAA,d.n,d.hn,d.sn,d.pn];refine⟨fun h b=>?_,fun o q z=>?_⟩
 ·rcases h with(h | h) | ⟨x,E,h⟩
  ·exact h b.right
  ·exact h b.AP
  ·exact h (b.lines x E)
 have D:W.sn<=8:=q.2.2.1;have w:W.pn<=20:=q.2.2.2.1;refine B2 (fun k:Nat=>⟨[(1,true,.m false [.p 1 0]),(3,true,.i k)],[(1,.var ((woL W).map Tr.cv))]⟩) (fun k=>W.pn - k) (fun k=>k<=W.pn/\∀i,i<k->An W.pool (W.A0 i).rs (W.A0 i).rb) 0 (by simp[go_sem]) (by simp) ?_;rintro k ⟨u,g⟩;simp[go_sem,Aj (show k<=1000000000 by omega),PD,o];refine⟨fun a=>⟨a,by kernel_rfl,fun h b=>h (b.A0 k a),fun h=>⟨k+1,⟨by omega,Bf a g h⟩,by omega,rfl⟩⟩,fun a=>?_⟩;cases (show k=W.pn by omega);have f:EJ W:=⟨o,q,g⟩;refine B2 (fun k:Nat=>⟨[(1,true,.m false [.p 1 0]),(4,true,.i k)],[(1,.var ((woL W).map Tr.cv))]⟩) (fun k=>W.sn - k) (fun k=>k<=W.sn/\∀i,i<k->An W.pool (W.A2 i).rs (W.A2 i).rb/\DV W (W.pn+i)) 0 (by simp[go_sem]) (by simp) ?_;rintro k ⟨u,c⟩;simp[go_sem,Aj (show k<=1000000000 by omega),PD,Tp,o,f,<-zHk];refine⟨fun a=>⟨a,fun _=>a,fun h=>⟨h,d.sd k a⟩,by kernel_rfl,fun h b=>?_,fun r t=>⟨k+1,⟨by omega,Bf a c ⟨r,t⟩⟩,by omega,rfl⟩⟩,fun a=>?_⟩
 ·exact h.elim (fun h=>h (b.A2 k a).1) (fun h=>h (b.A2 k a).2)
 cases (show k=W.sn by omega);have e:IQ W:=⟨f,fun i hi=>(c i hi).1⟩;refine B2 (fun k:Nat=>⟨[(1,true,.m false [.p 1 0]),(5,true,.i k)],[(1,.var ((woL W).map Tr.cv))]⟩) (fun k=>W.pn - k) (fun k=>k<=W.pn/\∀i,i<k->DV W i) 0 (by simp[go_sem]) (by simp) ?_;rintro k ⟨u,j⟩;by_cases a:k<W.pn
 ·have A:=g k a;have B:=d.pd k a;simp[go_sem,Aj (show k<=1000000000 by omega),Tp,f,a,A,B,<-zHj a];refine⟨by kernel_rfl,fun h b=>h (b.dead k a),fun h=>⟨k+1,⟨by omega,Bf a j h⟩,by omega,rfl⟩⟩
 simp[go_sem,Aj (show k<=1000000000 by omega),a,VY,e,e.reach];cases (show k=W.pn by omega);refine B2 (fun k:Nat=>⟨[(1,true,.m false [.p 1 0]),(6,true,.m false [.h 61]),(7,true,.i k)],[(61,.row 1 W.pool.n (D5 (Ij W))),(1,.var ((woL W).map Tr.cv))]⟩) (fun k=>W.pool.n - k) (fun k=>k<=W.pool.n/\∀i,i<k->(JR W i↔(¬Am (W.pool.s i)/\¬Has W.pool.hn W.pool.h i))) 0 (by simp[go_sem]) (by simp) ?_;rintro k ⟨u,l⟩;have v:W.pool.n<=200:=o.1;simp[go_sem,Aj (show k<=1000000000 by omega),Lq,KO,zQ,zO,e,f,d.hn];have C:Ij W k=(!dB (Am (W.pool.s k)) && !dB (Has W.pool.hn W.pool.h (k:Int)))↔(JR W k↔(¬Am (W.pool.s k)/\¬Has W.pool.hn W.pool.h k)):=by
  unfold Ij;by_cases r:JR W k<;>by_cases t:Am (W.pool.s k)<;>by_cases y:Has W.pool.hn W.pool.h (k:Int)<;>simp[dB,r,t,y]
 rw[C];refine⟨fun a=>⟨a,by kernel_rfl,fun h b=>h (b.reach k a),fun h=>⟨k+1,⟨by omega,Bf a l h⟩,by omega,rfl⟩⟩,fun a=>⟨e.A2,fun h=>?_,fun b=>⟨b.born,b.BY⟩⟩⟩;cases (show k=W.pool.n by omega);exact⟨o,q,z,g,c,j,l,h.1,h.2⟩
set_option maxRecDepth 20000
set_option maxHeartbeats 3200000
attribute [go_sem] BV
attribute [-go_sem] BV
abbrev seO(s:Ac):Bool×List Tr:=(true,[.v (.string s.name),.v (.int .i64 s.origin),.v (.int .i64 s.A5),.v (.int .i64 s.rs),.v (.int .i64 s.rb),.s .o 2 s.dn (ptrsT s.ds s.db)])
abbrev snO(s:AT):Bool×List Tr:=(true,[.v (.int .i64 s.id),.v (.string s.name),.v (.string s.set),.v (.int .i64 s.A5),.v (.int .i64 s.time),.v (.int .i64 s.rs),.v (.int .i64 s.rb),.s .o 2 s.dn (ptrsT s.ds s.db)])
open Classical in
def Er(W:A4)(x:ByteArray):Ac:=if x.size<=8000/\CJ W x/\Ab W then W.A2 (BD W.sn fun k=>(W.A2 k).name=x).toNat else Te
open Classical in
def Ey(W:A4)(x:Int):AT:=if BG W x/\Ab W then W.A0 (BD W.pn fun k=>(W.A0 k).id=x).toNat else CQ
def ZE:AH:=AR (fun q:A4×ByteArray=>[woT q.1,sT q.2]) (fun q=>SmallW q.1) (fun q=>[seO (Er q.1 q.2)])
theorem yN(W:A4)(x:ByteArray):ZE [woT W,sT x]=some (SmallW W,[seO (Er W x)]):=Aa (fun l=>(BW (nth l 0),CL (nth l 1 0))) (fun _=>rfl) (W,x)
theorem zDE:Ag Tryz.prog 34 ZE:=by
 refine Au Ai (GOk.cons ID (AA Tryz.func79 rfl rfl) (GOk.cons FH (AA Tryz.func20 rfl rfl) GOk.nil)) Ah Tryz.func34 rfl Tryz.ntmps34 Tryz.results34 7 ?_;rintro⟨W,x⟩ a;replace a:SmallW W:=a;refine⟨by simp,?_⟩;simp[go_sem,CI,Bu,a,a.sn,Dk,CW,I0,GQ,Kk];refine⟨fun h=>?_,fun l b f=>?_⟩
 ·rw[show Er W x=Te from if_neg fun e=>h.elim (fun h=>h.elim (fun h=>by have:=e.1;omega) (fun h=>h e.2.1)) (fun h=>h e.2.2)];exact⟨rfl,rfl,rfl,rfl,rfl,rfl⟩
 ·rw[show Er W x=_ from if_pos ⟨by omega,b,f⟩];obtain⟨k,c,i,j,d⟩ | ⟨-,g⟩:=GA W.sn fun k=>(W.A2 k).name=x
  ·have m:=a.sd k c;rw[d,Int.toNat_natCast];exact⟨⟨b,by omega⟩,by omega,rfl,rfl,rfl,rfl,rfl,TrE.refl _⟩
  ·have:=CW.2 b;omega
def SM:AH:=AR (fun q:A4×Int=>[woT q.1,iT q.2]) (fun q=>SmallW q.1) (fun q=>[snO (Ey q.1 q.2)])
theorem zAE(W:A4)(x:Int):SM [woT W,iT x]=some (SmallW W,[snO (Ey W x)]):=Aa (fun l=>(BW (nth l 0),AO (nth l 1 0))) (fun _=>rfl) (W,x)
theorem zU:Ag Tryz.prog 36 SM:=by
 refine Au Ai (GOk.cons IG (AA Tryz.func23 rfl rfl) (GOk.cons FH (AA Tryz.func20 rfl rfl) GOk.nil)) Ah Tryz.func36 rfl Tryz.ntmps36 Tryz.results36 7 ?_;rintro⟨W,x⟩ a;replace a:SmallW W:=a;refine⟨by simp,?_⟩;simp[go_sem,Dy,Bu,a,a.pn,Gx,FX,I0,GQ,Kk];refine⟨fun h=>?_,fun b f=>?_⟩
 ·rw[show Ey W x=CQ from if_neg fun e=>h.elim (fun h=>h e.1) (fun h=>h e.2)];exact⟨rfl,rfl,rfl,rfl,rfl,rfl,rfl,rfl⟩
 ·rw[show Ey W x=_ from if_pos ⟨b,f⟩];obtain⟨k,c,i,j,d⟩ | ⟨-,g⟩:=GA W.pn fun k=>(W.A0 k).id=x
  ·have l:=a.pd k c;rw[d,Int.toNat_natCast];exact⟨⟨b,by omega⟩,by omega,rfl,rfl,rfl,rfl,rfl,rfl,rfl,TrE.refl _⟩
  ·have:=FX.2 b;omega
variable{x:Int}
theorem zl(h:BG W x):(BD W.pn fun k=>(W.A0 k).id=x)<W.pn/\AB W x=W.A0 (BD W.pn fun k=>(W.A0 k).id=x).toNat:=by
 rcases GA W.pn fun k=>(W.A0 k).id=x with⟨k,a,c,d,b⟩ | ⟨a,b⟩
 ·rw[b,Int.toNat_natCast];exact⟨by omega,Cn ⟨a,c,d⟩⟩
 ·obtain⟨k,f,e⟩:=h;exact absurd e (a k f)
theorem So{l:List (Int×Int)}(h:k<l.length):l.take (k+1)=l.take k ++ [(AI l k,AK l k)]:=by
 rw[List.take_succ_eq_append_getElem h];unfold AI AK;rw[List.getD_eq_getElem?_getD,List.getElem?_eq_getElem h];rfl
set_option linter.unusedSimpArgs false
set_option maxRecDepth 20000
set_option maxHeartbeats 3200000
attribute [go_sem] BV
attribute [-go_sem] BV
attribute [go_sem] Qu N4 N5
variable{n:Nat}
theorem zE{A:Nat->Nat->Tr}:(Tr.s .o 8 n (Ae (Ae A 0 fun p q=>(snapsE .b W.A0 p q).nt) k fun p q=>(snapsE .b W.A0 (k+1+p) q).nt)).lend = .s .b 8 n (snapsE .b (CP W k).A0):=by
 rw[<-XF (fl:=.o) (k:=8) (fl':=.b)];congr 1;have e:∀i q,(snapsE .b W.A0 i q).nt=snapsE .b W.A0 i q:=fun i q=>by
  unfold snapsE;split<;>rfl
 have a:snapsE .b (CP W k).A0=fun i q=>snapsE .b W.A0 (if i<k then i else i+1) q:=by
  funext i q;have:(CP W k).A0 i=W.A0 (if i<k then i else i+1):=by
   show(if i<k then W.A0 i else W.A0 (i+1))=_;split<;>rfl
  unfold snapsE;rw[this]
 rw[a];congr 1;funext i q;simp only[Ae,e];by_cases h:i<k
 ·simp[h]
 ·simp[h,show k+1+(i - k)=i+1 by omega]
def Yr:AH:=AR (fun q:A4×Int=>[woT q.1,iT q.2]) (fun q=>SmallW q.1) (fun q=>[iT (FE q.1 q.2:Nat)])
theorem zN(W:A4)(x:Int):Yr [woT W,iT x]=some (SmallW W,[iT (FE W x:Nat)]):=Aa (fun l=>(BW (nth l 0),AO (nth l 1 0))) (fun _=>rfl) (W,x)
theorem zDy:Ag Tryz.prog 9 Yr:=by
 refine Au Ai (GOk.cons IG (AA Tryz.func23 rfl rfl) (GOk.cons FH (AA Tryz.func20 rfl rfl) (GOk.cons Ix (AA Tryz.func33 rfl rfl) (GOk.cons Y1 (AA Tryz.func32 rfl rfl) GOk.nil)))) Ah Tryz.func9 rfl Tryz.ntmps9 Tryz.results9 12 ?_;rintro⟨W,x⟩ t;replace t:SmallW W:=t;have G:=t.pn;refine⟨by simp,?_⟩;have N:¬BG W x->FE W x=0:=fun r=>zCP fun k z g=>r ⟨k,z,g⟩
 by_cases r:BG W x;rotate_left
 ·simp[go_sem,Dy,Bu,t,G,Gx,FX,r,N]
 by_cases c:Ab W;rotate_left
 ·simp[go_sem,Dy,Bu,t,G,Gx,FX,r,c,RN c]
 have E:=FX.2 r;obtain⟨k,z⟩:∃k:Nat,(BD W.pn fun k=>(W.A0 k).id=x)=k:=⟨_,(Int.toNat_of_nonneg E).symm⟩;have hn:=zl r;rw[z,Int.toNat_natCast]at hn;obtain⟨f,O⟩:=hn;replace f:k<W.pn:=by omega
 have F:¬(k:Int)<0:=by omega
 have S:=Aj (show k<=1000000000 by omega);have hn:k+(W.pn - (k+1))=W.pn - 1:=by omega
 have y:=Lj c.right c.AP c.A0 (fun i hi=>(c.A2 i hi).1);have P:KG (CP W k):=⟨zD0 y f,c.AP.2.2.1,Nat.le_trans (Nat.sub_le _ _) c.AP.2.2.2.1⟩;have R:P9 [(true,[.s .b 3 W.pool.n (Ao .b W.pool.s),.s .b 1 W.pool.hn (B5 W.pool.h),.v (.int .i64 W.time),.v (.int .i64 W.next),.s .b 6 W.sn (setsE .b W.A2),.s .b 8 (W.pn - 1) (snapsE .b (CP W k).A0)])]=some (KG (CP W k),[(false,[.s .o 1 W.pool.n (D5 (Ij (CP W k)))])]):=VY (CP W k);simp[go_sem,Dy,Bu,I6,t,G,z,F,c,c.right,f,S,hn,zE,R,P];have T:(W.A0 k).id=x:=by
  obtain⟨q,H,L,-,M⟩ | ⟨H,-⟩:=GA W.pn fun k=>(W.A0 k).id=x
  ·rw[z]at M;rw[show k=q by omega];exact L
  ·obtain⟨q,h,e⟩:=r;exact absurd e (H q h)
 obtain⟨l,u⟩:∃l,l=AE W.pool (W.A0 k).rs (W.A0 k).rb:=⟨_,rfl⟩;have V:l.length<=100:=by have:=D7 W.pool (W.A0 k).rs (W.A0 k).rb;rw[u];omega
 have J:=c.A0 k f;rw[<-u];obtain⟨C,d⟩:∃C:Nat->Nat,∀j,C j=Df (JU W x) (l.take j):=⟨_,fun _=>rfl⟩;have w:∀j,C j<=j:=fun j=>by have:=Vw (JU W x) (l.take j);rw[List.length_take]at this;rw[d];omega
 have B:C 0=0:=by have:=w 0;omega
 obtain⟨D,I⟩:∃D,Ij (CP W k)=D:=⟨_,rfl⟩;rw[I];refine⟨by omega,by omega,⟨by omega,by omega⟩,by omega,by kernel_rfl,J,by kernel_rfl,?_⟩;refine B2 (fun j:Nat=>⟨[(10,true,.i j),(8,true,.i (C j)),(9,true,.m false [.h 62]),(7,true,.m false [.h 61])],[(62,.row 2 l.length (ptL l)),(61,.row 1 W.pool.n (D5 D))]⟩) (fun j=>l.length - j) (fun j=>j<=l.length) 0 (by simp[go_sem,B]) (Nat.zero_le _) ?_;intro j U;have Q:=w j;by_cases a:j<l.length
 ·obtain⟨s,p,A⟩:=Q6 c.right J (j:=j) (by rw[<-u];exact a);rw[<-u]at p;have K:D s=true↔JU W x (AI l j,AK l j):=by
   rw[<-I,p];refine Ew.trans (zAr y ((FA W).2 c).AP.dist f T ?_);rw[<-u,<-p];exact FG.1 ⟨j,a,rfl,rfl⟩
  cases hds:D s
  ·simp[go_sem,Aj (show j<=1000000000 by omega),Aj (show C j<=1000000000 by omega),a,p,A,hds];refine⟨j+1,by omega,by omega,rfl,?_⟩;rw[d (j+1),So a,Xh (fun h=>by rw[K.2 h]at hds;cases hds),<-d];rfl
  ·simp[go_sem,Aj (show j<=1000000000 by omega),Aj (show C j<=1000000000 by omega),a,p,A,hds];refine⟨j+1,by omega,by omega,rfl,?_⟩;rw[d (j+1),So a,V4 (K.1 hds),<-d]
 ·simp[go_sem,a];obtain rfl:j=l.length:=(by omega);rw[d,List.take_length,Oi c,O,u]
set_option maxRecDepth 20000
set_option maxHeartbeats 3200000
structure Ar where
 bn:Nat
 bf:Nat->Int
 pos:Nat
 mix:Int
 size:Int
def GR(h:Nat->Int):Nat->Nat->Tr:=fun i _=>.v (.int .u8 (h i))
variable{h:Nat->Int}
theorem ME{i j:Nat}:GR h i j = .v (.int .u8 (h i)):=rfl
abbrev srV(s:Ar):List Tr:=[.s .z 1 s.bn (GR s.bf),.v (.int .i64 s.pos),.v (.int .u64 s.mix),.v (.int .i64 s.size)]
def G0(f:Nat->Tr):Ar:=⟨DI (f 0),fun i=>match Bk (f 0) i 0 with | .v (.int _ x)=>x | _=>0,(AO (f 1)).toNat,match f 2 with | .v (.int _ x)=>x | _=>0,AO (f 3)⟩
def MX(a b:Int):Int:=IntKind.u64.wrap ((BitVec.ofInt IntKind.u64.bits a ^^^ BitVec.ofInt IntKind.u64.bits b).toNat)
def SD(a b:Int):Int:=IntKind.u64.wrap (a*2 ^ (min b.toNat IntKind.u64.bits))
def MZ(a b:Int):Int:=a.fdiv (2 ^ (min b.toNat IntKind.u64.bits))
variable{a b:Int}
theorem Mw:Br .xor .u64 a .u64 b=some (True,.int .u64 (MX a b)):=rfl
theorem Mu:Br .shl .u64 a .u64 b=some (0<=b,.int .u64 (SD a b)):=rfl
theorem Mv:Br .shr .u64 a .u64 b=some (0<=b,.int .u64 (MZ a b)):=rfl
theorem NH:Br .add .u64 a .u64 b=some (True,.int .u64 (IntKind.u64.wrap (a+b))):=rfl
theorem NI:Br .mul .u64 a .u64 b=some (True,.int .u64 (IntKind.u64.wrap (a*b))):=rfl
theorem NJ:Br .rem .u64 a .u64 b=some (b≠0,.int .u64 (a.tmod b)):=rfl
theorem Mp:Br .add .i64 a .i64 b=some (True,.int .i64 (IntKind.i64.wrap (a+b))):=rfl
variable{k:IntKind}
theorem Mt:Br .lss k a k b=some (True,.bool (decide (a<b))):=by simp[Br]
theorem Ms:Br .leq k a k b=some (True,.bool (decide (a<=b))):=by simp[Br]
theorem Mr:Br .gtr k a k b=some (True,.bool (decide (a>b))):=by simp[Br]
theorem Mq:Br .eql k a k b=some (True,.bool (a == b)):=by simp[Br]
theorem CB:(Tr.s .z 1 n (GR h)).kept:=⟨by simp,fun _ _ _ _=>trivial⟩
theorem qd(a:0<=x)(b:x<=1000000000000000000):IntKind.u64.wrap x=x:=by
 simp[IntKind.wrap,IntKind.bits];omega
def S8(m:Int):Int:=MX m (SD m 13)
def S9(m:Int):Int:=MX m (MZ m 7)
def SA(m:Int):Int:=MX m (SD m 17)
def Jt(m:Int):Int:=SA (S9 (S8 m))
def nS(s:Ar)(most:Int):Ar:=if most<=1 then s else {s with pos:=if s.pos<s.bn then s.pos+1 else s.pos,mix:=Jt s.mix}
def nV(s:Ar)(most:Int):Int:=if most<=1 then 0 else IntKind.i64.wrap ((IntKind.u64.wrap ((if s.pos<s.bn then s.bf s.pos else 0)+MZ (Jt s.mix) 20)).tmod most)
structure Az (s:Ar):Prop where
 bn:s.bn<=2000000
 pos:s.pos<=s.bn
 byte:∀i,i<s.bn->0<=s.bf i/\s.bf i<256
 size:0<=s.size/\s.size<=12
theorem Bn{s:Ar}(h:Az s)(m:Int):Az (nS s m):=by
 unfold nS;split
 ·exact h
 ·refine⟨h.bn,?_,h.byte,h.size⟩;have:=h.pos;dsimp only;split<;>omega
attribute [-go_sem] Br
attribute [local go_sem] Mw Mu Mv NH NI NJ Mp Mt Ms Mr Mq ME
def mN:AH:=AR (fun q:Ar×Int=>(true,srV q.1) :: [iT q.2]) (fun q=>Az q.1/\q.2<=1000000000000000000) (fun q=>[(true,srV (nS q.1 q.2)),iT (nV q.1 q.2)])
theorem Cp(s:Ar)(m:Int):mN ((true,srV s) :: [iT m])=some (Az s/\m<=1000000000000000000,[(true,srV (nS s m)),iT (nV s m)]):=Aa (fun l=>(G0 (nth l 0),AO (nth l 1 0))) (fun _=>rfl) (s,m)
theorem Gn:Ck Tryz.prog 40 mN:=by
 refine EZ Ai GOk.nil Ah Tryz.func40 rfl Tryz.ntmps40 Tryz.results40 6 ?_;rintro⟨s,m⟩ hs;obtain⟨hs,f⟩:Az s/\m<=1000000000000000000:=hs;have e:=hs.bn;have g:=hs.pos;refine⟨by simp,?_⟩;simp[go_sem,Aj (show s.pos<=1000000000 by omega)];refine⟨fun h=>?_,fun h=>?_⟩
 ·rw[show nS s m=s from if_pos h];exact⟨⟨⟨TrE.refl _,CB⟩,rfl,rfl,rfl⟩,(if_pos h).symm⟩
 have c:¬m<=1:=by omega
 have d:IntKind.u64.wrap m=m:=qd (by omega) (by omega);have b:m≠0:=by omega
 rw[d];rw[show nS s m=_ from if_neg c,show nV s m=_ from if_neg c];refine⟨by kernel_rfl,fun a=>⟨a,by kernel_rfl,by kernel_rfl,by kernel_rfl,by kernel_rfl,b,⟨⟨TrE.refl _,CB⟩,?_,rfl,rfl⟩,?_⟩,fun a=>⟨by kernel_rfl,by kernel_rfl,by kernel_rfl,b,⟨⟨TrE.refl _,CB⟩,?_,rfl,rfl⟩,?_⟩⟩
 ·simp[a]
 ·simp[a,Jt,S8,S9,SA,qd (hs.byte _ a).1 (by have:=(hs.byte _ a).2;omega)]
 ·simp[Nat.not_lt.2 a]
 ·simp[Nat.not_lt.2 a,Jt,S8,S9,SA]
set_option maxRecDepth 20000
set_option maxHeartbeats 3200000
theorem zC1(x:Int):0<=IntKind.u64.wrap x:=by
 simp[IntKind.wrap,IntKind.bits,IntKind.signed];omega
theorem I8(h:-1000000000000000000<=x)(a:x<=1000000000000000000):IntKind.i64.wrap x=x:=by
 simp[IntKind.wrap,IntKind.bits,IntKind.signed];omega
theorem G4(s:Ar){m:Int}(h:1<m)(c:m<=1000000000000000000):0<=nV s m/\nV s m<m:=by
 unfold nV;rw[if_neg (by omega)];have a:=Int.tmod_nonneg m (zC1 ((if s.pos<s.bn then s.bf s.pos else 0)+MZ (Jt s.mix) 20));have b:=Int.tmod_lt_of_pos (IntKind.u64.wrap ((if s.pos<s.bn then s.bf s.pos else 0)+MZ (Jt s.mix) 20)) (show 0<m by omega);rw[I8 (by omega) (by omega)];exact⟨a,b⟩
theorem Gt(s:Ar){m:Int}(a:m<=1000000000000000000):0<=nV s m/\(nV s m<m\/nV s m=0):=by
 by_cases h:1<m
 ·exact⟨(G4 s h a).1,.inl (G4 s h a).2⟩
 ·have:nV s m=0:=if_pos (by omega);omega
attribute [go_sem] Br
attribute [-go_sem] Br
def qy:AH:=AR (fun q:Ar×Int=>(true,srV q.1) :: [iT q.2]) (fun q=>Az q.1/\q.2<=1000000000000000000) (fun q=>(true,srV (nS q.1 q.2)) :: bR (nV q.1 q.2=0))
theorem Dn(s:Ar)(m:Int):qy ((true,srV s) :: [iT m])=some (Az s/\m<=1000000000000000000,(true,srV (nS s m)) :: bR (nV s m=0)):=Aa (fun l=>(G0 (nth l 0),AO (nth l 1 0))) (fun _=>rfl) (s,m)
theorem N2:Ck Tryz.prog 42 qy:=by
 refine EZ Ai (GOk.ptr Gn (AA Tryz.func40 rfl rfl) GOk.nil) Ah Tryz.func42 rfl Tryz.ntmps42 Tryz.results42 5 ?_;rintro⟨s,m⟩ hs;obtain⟨hs,a⟩:Az s/\m<=1000000000000000000:=hs;refine⟨by simp,?_⟩;simp[go_sem,Cp,hs,a,CB]
def qt:AH:=AR (fun q:Int×Int=>[iT q.1,iT q.2]) (fun _=>True) (fun q=>[iT (max q.1 q.2)])
theorem zGi(a b:Int):qt [iT a,iT b]=some (True,[iT (max a b)]):=Aa (fun l=>(AO (nth l 0 0),AO (nth l 1 0))) (fun _=>rfl) (a,b)
theorem zA:Ag Tryz.prog 86 qt:=by
 refine Au Ai GOk.nil Ah Tryz.func86 rfl Tryz.ntmps86 Tryz.results86 5 ?_;rintro⟨a,b⟩ -;refine⟨by simp,?_⟩;simp[go_sem];omega
abbrev sT'(d:ByteArray):Bool×List Tr:=(false,[.v (.string d)])
def ZX:List Int:=[0,1,-1,2,1000,1001,2147483648,2147483647,-2147483648,4611686018427387904,9223372036854775807,-9223372036854775808,1000000,1000001]
def LB(s:Ar):Int:=ZX.getD (nV s 14).toNat 0
def Zg:AH:=AR (fun s:Ar=>[(true,srV s)]) (fun s=>Az s) (fun s=>[(true,srV (nS s 14)),iT (LB s)])
theorem Lp(s:Ar):Zg [(true,srV s)]=some (Az s,[(true,srV (nS s 14)),iT (LB s)]):=Aa (fun l=>G0 (nth l 0)) (fun _=>rfl) s
theorem TF:Ck Tryz.prog 99 Zg:=by
 refine EZ (A:=fun _=>[]) Ai (GOk.ptr Gn (AA Tryz.func40 rfl rfl) GOk.nil) Ah Tryz.func99 rfl Tryz.ntmps99 Tryz.results99 3 ?_;rintro s hs;replace hs:Az s:=hs;have hv:=G4 s (m:=14) (by omega) (by omega);refine⟨by simp,?_⟩;rcases(show nV s 14=0\/nV s 14=1\/nV s 14=2\/nV s 14=3\/nV s 14=4\/nV s 14=5\/nV s 14=6\/nV s 14=7\/nV s 14=8\/nV s 14=9\/nV s 14=10\/nV s 14=11\/nV s 14=12\/nV s 14=13 by omega)with h | h | h | h | h | h | h | h | h | h | h | h | h | h<;>simp[go_sem,Cp,hs,h,LB,ZX,CB]
def FO(s:Ar):Ar:=if nV s 20=0 then nS (nS (nS s 20) 14) 4 else nS (nS s 20) 7
def IH(s:Ar):Int:=if nV s 20=0 then [-1,63,64,LB (nS s 20)].getD (nV (nS (nS s 20) 14) 4).toNat 0 else [0,1,2,7,8,9,63].getD (nV (nS s 20) 7).toNat 0
theorem PQ{s:Ar}(h:Az s):Az (FO s):=by
 unfold FO;split
 ·exact Bn (Bn (Bn h _) _) _
 ·exact Bn (Bn h _) _
def qw:AH:=AR (fun s:Ar=>[(true,srV s)]) (fun s=>Az s) (fun s=>[(true,srV (FO s)),iT (IH s)])
theorem zGj(s:Ar):qw [(true,srV s)]=some (Az s,[(true,srV (FO s)),iT (IH s)]):=Aa (fun l=>G0 (nth l 0)) (fun _=>rfl) s
theorem zAq:Ck Tryz.prog 89 qw:=by
 refine EZ (A:=fun _=>[]) Ai (GOk.ptr Gn (AA Tryz.func40 rfl rfl) (GOk.ptr N2 (AA Tryz.func42 rfl rfl) (GOk.ptr TF (AA Tryz.func99 rfl rfl) GOk.nil))) Ah Tryz.func89 rfl Tryz.ntmps89 Tryz.results89 3 ?_;rintro s hs;replace hs:Az s:=hs;have a:=Bn hs 20;have c:=Bn a 14;refine⟨by simp,?_⟩;by_cases b:nV s 20=0
 ·have hv:=G4 (nS (nS s 20) 14) (m:=4) (by omega) (by omega);rcases(show nV (nS (nS s 20) 14) 4=0\/nV (nS (nS s 20) 14) 4=1\/nV (nS (nS s 20) 14) 4=2\/nV (nS (nS s 20) 14) 4=3 by omega)with h | h | h | h<;>simp[go_sem,Cp,Dn,Lp,hs,a,c,b,h,FO,IH,CB]
 ·have hv:=G4 (nS s 20) (m:=7) (by omega) (by omega);rcases(show nV (nS s 20) 7=0\/nV (nS s 20) 7=1\/nV (nS s 20) 7=2\/nV (nS s 20) 7=3\/nV (nS s 20) 7=4\/nV (nS s 20) 7=5\/nV (nS s 20) 7=6 by omega)with h | h | h | h | h | h | h<;>simp[go_sem,Cp,Dn,Lp,hs,a,c,b,h,FO,IH,CB]
def L4:AH:=AR (fun q:Ar×Nat×(Nat->Nat->Tr)=>(true,srV q.1) :: [(false,[.s .b 1 q.2.1 q.2.2])]) (fun q=>Az q.1/\(0<q.2.1/\q.2.1<=1000000)/\∀i,i<q.2.1->∃t,q.2.2 i 0 = .v (.string t)) (fun q=>[(true,srV (nS q.1 q.2.1)),sT' (CL (q.2.2 (nV q.1 q.2.1).toNat 0))])
theorem zEi(s:Ar)(n:Nat)(F:Nat->Nat->Tr):L4 ((true,srV s) :: [(false,[.s .b 1 n F])])=some (Az s/\(0<n/\n<=1000000)/\∀i,i<n->∃t,F i 0 = .v (.string t),[(true,srV (nS s n)),sT' (CL (F (nV s n).toNat 0))]):=Aa (fun l=>(G0 (nth l 0),DI (nth l 1 0),Bk (nth l 1 0))) (fun _=>rfl) (s,n,F)
theorem Sg:Ck Tryz.prog 91 L4:=by
 refine EZ Ai (GOk.ptr Gn (AA Tryz.func40 rfl rfl) GOk.nil) Ah Tryz.func91 rfl Tryz.ntmps91 Tryz.results91 5 ?_;rintro⟨s,n,F⟩ hs;obtain⟨hs,⟨hn,a⟩,hF⟩:Az s/\(0<n/\n<=1000000)/\∀i,i<n->∃t,F i 0 = .v (.string t):=hs;have hv:=Gt s (m:=n) (by omega);obtain⟨t,b⟩:=hF (nV s n).toNat (by omega);refine⟨by simp,?_⟩;simp[go_sem,Cp,hs,b,CB,CL];omega
set_option maxRecDepth 20000
set_option maxHeartbeats 3200000
theorem zHq:Br .quo .i64 a .i64 b=some (b≠0,.int .i64 (IntKind.i64.wrap (a.tdiv b))):=rfl
def FS(l:List ByteArray):Nat->Nat->Tr:=fun p q=>(l.map fun t=>Tr.v (.string t))[p+q]?.getD (.v (.bool false))
theorem Tj{l:List ByteArray}{i:Nat}(h:i<l.length):FS l i 0 = .v (.string (l.getD i ⟨#[]⟩)):=by
 unfold FS;simp[h]
variable{fl:Fl}
theorem VV(l:List ByteArray):(Tr.s fl 1 n (FS l)).lend = .s .b 1 n (FS l):=by
 show Tr.s .b 1 n (fun p q=>(FS l p q).lend)=_;congr 1;funext p q;unfold FS;rw[List.getElem?_map];cases l[p+q]?<;>rfl
variable{a b c:ByteArray}
theorem Nf:(Tr.s fl 1 3 fun p q=>([.v (.string a),.v (.string b),.v (.string c)]:List Tr)[p+q]?.getD (.v (.bool false))).lend = .s .b 1 3 (FS [a,b,c]):=VV [a,b,c]
theorem NK{d e:ByteArray}:(Tr.s fl 1 5 fun p q=>([.v (.string a),.v (.string b),.v (.string c),.v (.string d),.v (.string e)]:List Tr)[p+q]?.getD (.v (.bool false))).lend = .s .b 1 5 (FS [a,b,c,d,e]):=VV [a,b,c,d,e]
theorem XJ(s:Ar)(l:List ByteArray)(h:0<l.length/\l.length<=1000000):L4 ((true,srV s) :: [(false,[.s .b 1 l.length (FS l)])])=some (Az s,[(true,srV (nS s l.length)),sT' (l.getD (nV s l.length).toNat ⟨#[]⟩)]):=by
 have hv:=Gt s (m:=l.length) (by omega);rw[zEi,Tj (by omega)];have e:(Az s/\(0<l.length/\l.length<=1000000)/\∀i,i<l.length->∃t,FS l i 0 = .v (.string t))=Az s:=by
  refine propext ⟨fun h=>h.1,fun hs=>⟨hs,h,fun i hi=>⟨_,Tj hi⟩⟩⟩
 rw[e];rfl
theorem yL(s:Ar)(a b c:ByteArray):L4 ((true,srV s) :: [(false,[.s .b 1 3 (FS [a,b,c])])])=some (Az s,[(true,srV (nS s 3)),sT' ([a,b,c].getD (nV s 3).toNat ⟨#[]⟩)]):=XJ s [a,b,c] ⟨by simp,by simp⟩
theorem yM(s:Ar)(a b c d e:ByteArray):L4 ((true,srV s) :: [(false,[.s .b 1 5 (FS [a,b,c,d,e])])])=some (Az s,[(true,srV (nS s 5)),sT' ([a,b,c,d,e].getD (nV s 5).toNat ⟨#[]⟩)]):=XJ s [a,b,c,d,e] ⟨by simp,by simp⟩
attribute [go_sem] Br
attribute [local go_sem] Nf NK
attribute [-go_sem] Br
attribute [local go_sem] zHq
def qT:List ByteArray:=[⟨#[97]⟩,⟨#[97]⟩,⟨#[98]⟩,⟨#[99]⟩,⟨#[100]⟩]
def L5(s:Ar):ByteArray:=qT.getD (nV s 5).toNat ⟨#[]⟩
def ZA:AH:=AR (fun s:Ar=>[(true,srV s)]) (fun s=>Az s) (fun s=>[(true,srV (nS s 5)),sT' (L5 s)])
theorem yJ(s:Ar):ZA [(true,srV s)]=some (Az s,[(true,srV (nS s 5)),sT' (L5 s)]):=Aa (fun l=>G0 (nth l 0)) (fun _=>rfl) s
theorem zA5:Ck Tryz.prog 87 ZA:=by
 refine EZ (A:=fun _=>[]) Ai (GOk.ptr Sg (AA Tryz.func91 rfl rfl) GOk.nil) Ah Tryz.func87 rfl Tryz.ntmps87 Tryz.results87 3 ?_;rintro s hs;replace hs:Az s:=hs;refine⟨by simp,?_⟩;simp[go_sem,yM,hs,L5,qT,CB]
def Rl(a b:Int):Nat->Nat->Tr:=AZ (AZ (fun _ q=>Tr.v ([Value.int IntKind.u8 0][q]?.getD (Value.bool false))) 0 0 [.v (.int .u8 (IntKind.u8.wrap a))]) 15 0 [.v (.int .u8 (IntKind.u8.wrap (IntKind.i64.wrap (97+b))))]
theorem zEC(a b:Int)(p:Nat):∃x,Rl a b p 0 = .v (.int .u8 x):=by
 unfold Rl AZ;by_cases c:p=15
 ·exact⟨IntKind.u8.wrap (IntKind.i64.wrap (97+b)),by simp[c]⟩
 ·by_cases d:p=0
  ·exact⟨IntKind.u8.wrap a,by simp[d]⟩
  ·exact⟨0,by simp[c,d]⟩
def My(s:Ar):Ar:=nS (nS s 256) 3
def Mz(s:Ar):ByteArray:=Mi 16 (Rl (nV s 256) (nV (nS s 256) 3))
def Zd:AH:=AR (fun s:Ar=>[(true,srV s)]) (fun s=>Az s) (fun s=>[(true,srV (My s)),sT' (Mz s)])
theorem zE1(s:Ar):Zd [(true,srV s)]=some (Az s,[(true,srV (My s)),sT' (Mz s)]):=Aa (fun l=>G0 (nth l 0)) (fun _=>rfl) s
theorem zw:Ck Tryz.prog 98 Zd:=by
 refine EZ (A:=fun _=>[]) Ai (GOk.ptr Gn (AA Tryz.func40 rfl rfl) GOk.nil) Ah Tryz.func98 rfl Tryz.ntmps98 Tryz.results98 4 ?_;rintro s hs;replace hs:Az s:=hs;have a:=Bn hs 256;refine⟨by simp,?_⟩;simp[go_sem,Cp,hs,a,CB];exact⟨fun p _=>zEC _ _ p,⟨TrE.refl _,rfl,rfl,rfl⟩,rfl⟩
def Mb(f:Nat->Int):Nat->Int
 | 0=>88172645463325252
 | k+1=>IntKind.u64.wrap (MX (Mb f k) (IntKind.u64.wrap (f k))*1099511628211)
def JN(n:Nat)(f:Nat->Int):Ar:=⟨n,f,0,Mb f (min n 64),min ((n / 20:Nat):Int) 12⟩
def SN:AH:=AR (fun q:Nat×(Nat->Int)=>[(false,[.s .z 1 q.1 (GR q.2)])]) (fun q=>q.1<=2000000) (fun q=>[(true,srV (JN q.1 q.2))])
theorem zAF(n:Nat)(f:Nat->Int):SN [(false,[.s .z 1 n (GR f)])]=some (n<=2000000,[(true,srV (JN n f))]):=Aa (fun l=>(DI (nth l 0 0),fun i=>match Bk (nth l 0 0) i 0 with | .v (.int _ x)=>x | _=>0)) (fun _=>rfl) (n,f)
theorem zCH:NF Tryz.prog 12 SN:=by
 refine zDq Ai GOk.nil Ah Tryz.func12 rfl Tryz.ntmps12 Tryz.results12 5 ?_;rintro⟨n,f⟩ hn;replace hn:n<=2000000:=hn;refine⟨by simp,?_⟩;simp[go_sem];refine B2 (fun k:Nat=>⟨[(4,true,.i k),(3,true,.m false [.p 7 0]),(0,true,.m false [.s .z 1 n (GR f)])],[(7,.var [.s .z 1 n (GR f),.v i0,.v (.int .u64 (Mb f k)),.v i0])]⟩) (fun k=>n - k) (fun k=>k<=n/\k<=64) 0 (by simp[go_sem,Mb]) (by simp) ?_;rintro k ⟨e,c⟩;simp[go_sem,Aj (show k<=1000000000 by omega)];refine⟨fun a d=>⟨a,by kernel_rfl,k+1,by omega,by omega,rfl,rfl⟩,fun h=>?_⟩;have b:min n 64=k:=by omega
 rw[I8 (x:=(n:Int) / 20) (by omega) (by omega)];refine⟨fun a=>⟨⟨TrE.refl _,CB⟩,rfl,by rw[<-b];rfl,?_⟩,fun a=>⟨⟨TrE.refl _,CB⟩,rfl,by rw[<-b];rfl,?_⟩⟩
 ·show(12:Int)=min ((n / 20:Nat):Int) 12;omega
 ·show(n:Int) / 20=min ((n / 20:Nat):Int) 12;omega
theorem Qe{f:Nat->Int}(h:n<=2000000)(a:∀i,i<n->0<=f i/\f i<256):Az (JN n f):=⟨h,Nat.zero_le _,a,by show 0<=min ((n / 20:Nat):Int) 12/\min ((n / 20:Nat):Int) 12<=12;omega⟩
set_option maxRecDepth 20000
set_option maxHeartbeats 3200000
attribute [go_sem] Br
attribute [go_sem] BV
attribute [-go_sem] BV
def DH(W:A4)(x:Int):Nat->Nat
 | 0=>0
 | k+1=>DH W x k+(if (W.A2 k).A5=x then 1 else 0)
def Da(W:A4)(x:Int):Nat->Nat
 | 0=>0
 | k+1=>Da W x k+(if (W.A0 k).A5=x then 1 else 0)
theorem SZ(W:A4)(x:Int):∀k,DH W x k<=k
 | 0=>Nat.le_refl _
 | k+1=>by have:=SZ W x k;rw[DH];split<;>omega
theorem SY(W:A4)(x:Int):∀k,Da W x k<=k
 | 0=>Nat.le_refl _
 | k+1=>by have:=SY W x k;rw[Da];split<;>omega
def ZD:AH:=AR (fun q:A4×Int=>[woT q.1,iT q.2]) (fun q=>q.1.sn<=1000000/\q.1.pn<=1000000) (fun q=>[iT ((DH q.1 q.2 q.1.sn+Da q.1 q.2 q.1.pn:Nat):Int)])
theorem VX(W:A4)(x:Int):ZD [woT W,iT x]=some (W.sn<=1000000/\W.pn<=1000000,[iT ((DH W x W.sn+Da W x W.pn:Nat):Int)]):=Aa (fun l=>(BW (nth l 0),AO (nth l 1 0))) (fun _=>rfl) (W,x)
theorem zBP:Ag Tryz.prog 24 ZD:=by
 refine Au Ai GOk.nil Ah Tryz.func24 rfl Tryz.ntmps24 Tryz.results24 8 ?_;rintro⟨W,x⟩ ⟨hn,b⟩;replace hn:W.sn<=1000000:=hn;replace b:W.pn<=1000000:=b;refine⟨by simp,?_⟩;simp[go_sem];refine B2 (fun k:Nat=>⟨[(2,true,.m false [.p 2 0]),(1,true,.i x),(5,true,.i (DH W x k)),(6,true,.i k)],[(2,.var ((woL W).map Tr.cv))]⟩) (fun k=>W.sn - k) (fun k=>k<=W.sn) 0 (by simp[go_sem,DH]) (by simp) ?_;intro k e;have f:=SZ W x k;simp[go_sem,Aj (show k<=1000000000 by omega),Aj (show DH W x k<=1000000000 by omega)];refine⟨fun a=>⟨a,fun h=>⟨k+1,by omega,by omega,by rw[DH,if_pos h];rfl,rfl⟩,fun h=>⟨k+1,by omega,by omega,by rw[DH,if_neg h];rfl,rfl⟩⟩,fun a=>?_⟩;cases (show k=W.sn by omega);refine B2 (fun k:Nat=>⟨[(2,true,.m false [.p 2 0]),(1,true,.i x),(5,true,.i (DH W x W.sn+Da W x k)),(7,true,.i k)],[(2,.var ((woL W).map Tr.cv))]⟩) (fun k=>W.pn - k) (fun k=>k<=W.pn) 0 (by simp[go_sem,Da]) (by simp) ?_;intro k e;have d:=SY W x k;have c:=Aj (show DH W x W.sn+Da W x k<=1000000000 by omega);simp only[Int.natCast_add]at c;simp[go_sem,Aj (show k<=1000000000 by omega),c];refine⟨fun a=>⟨a,fun h=>⟨k+1,by omega,by omega,by rw[Da,if_pos h];omega,rfl⟩,fun h=>⟨k+1,by omega,by omega,by rw[Da,if_neg h];rfl,rfl⟩⟩,fun a=>?_⟩;cases (show k=W.pn by omega);rfl
end
end Go.Proofs.YtnfjcaoclahfjaaGreatDoor

/- A part of the proof. -/
import Derived.Test.YtehdoekmnicdiaaGreatDoorF15
import Derived.ProofKit
set_option linter.unusedVariables false
set_option maxRecDepth 20000
set_option maxHeartbeats 4000000
namespace Go.Proofs.YtehdoekmnicdiaaGreatDoor
noncomputable section
open Go.RowKit Go.Maps
theorem Aa{P:Prop}(h:P):Hid P:=h
variable{w:World}{n k:Nat}
theorem BI.cellsD{lo hi:Nat}{a:Option Addr}{c:Nat}{f g:Nat->Int}(h:BI w lo hi (.slice a n c) n f g)(e:k<n):∃b off,a=some ⟨b,off,none⟩/\w.cell? ⟨b,off+k*2,none⟩=some (.int .i64 (f k))/\w.cell? ⟨b,off+k*2+1,none⟩=some (.int .i64 (g k)):=by
 obtain⟨_,l,m,hv,_,j⟩:=h;simp only[Value.slice.injEq,true_and]at hv;obtain⟨rfl,rfl⟩:=hv;obtain⟨b,off,i,_,_,d⟩:=j (by omega);exact⟨b,off,i,(d k e).1,(d k e).2⟩
theorem zCJ(x y:Int)(w:World):Calls Tryz.prog 181 #[.agg #[.int .i64 x,.int .i64 y]] w fun e w'=>AL (FP x y) e/\Below w.heap.size w w':=by
 have a:=AC w (.cells #[.int .i64 x,.int .i64 y] 38);by_cases f:0<=x
 ·by_cases i:x<200
  ·by_cases b:DM y
   ·have H:=Aa (show FP x y from⟨f,by omega,b.1,b.2⟩);have d:=Aa b;clear b;go_enter Tryz.func181,Tryz.ntmps181;go_wp2_with (first | (go_at_call 115;refine(FD y _).mono ?_;rintro e g ⟨⟨t,rfl,c⟩,rfl⟩;obtain rfl:t=true:=c.2 d.out;clear c) | fail);go_wp2;go_ret;exact⟨AL.yes H.out,a⟩
   ·have H:=Aa (show ¬FP x y from fun h=>b ⟨h.2.2.1,h.2.2.2⟩);have d:=Aa b;clear b;go_enter Tryz.func181,Tryz.ntmps181;go_wp2_with (first | (go_at_call 115;refine(FD y _).mono ?_;rintro e g ⟨⟨t,rfl,c⟩,rfl⟩;obtain rfl:t=false:=BR c d.out;clear c) | fail);go_wp2;go_ret;exact⟨AL.no H.out,a⟩
  ·go_enter Tryz.func181,Tryz.ntmps181;go_wp2;go_ret;exact⟨AL.no fun h=>by have:=h.2.1;omega,a⟩
 ·go_enter Tryz.func181,Tryz.ntmps181;go_wp2;go_ret;exact⟨AL.no fun h=>by have:=h.1;omega,a⟩
theorem SQ:Keyed Tryz.prog 2:=int_keyed (q:=.i64) (by kernel_rfl)
theorem Mg:Tryz.prog.underlying 214=some (.map 2 2):=by kernel_rfl
theorem PB:Tryz.prog.underlying 2=some (.int .i64):=by kernel_rfl
theorem zIq(w:World):(zeroValue 2).run Tryz.prog w = .ok (.int .i64 0) w:=by kernel_rfl
variable{x:Int}
theorem QD(a:0<=x)(b:x<=1000000):(Lit.int .i64 x).wf=true:=WalkArith.wf_i64 (by omega)
def S5(w:World)(B n:Nat)(D:DataW Unit):Prop:=w.ownsMap Tryz.prog 2 (plainElem Tryz.prog 2) B n D
theorem ZG(v:Value)(n lo hi:Nat)(f g:Nat->Int)(w:World)(z:BI w lo hi v n f g)(hn:n<=200)(t:∀i,i<n->FP (f i) (g i)) :
 Calls Tryz.prog 182 #[v] w fun e w'=>e = .returned (.map (some w.heap.size))/\S5 w' w.heap.size n (seenD f g n)/\Below w.heap.size w w':=by
 have B:=Aa z;have h:=Aa t;obtain⟨F,a,c,rfl,G,_⟩:=id z;clear z t;have D:=@run_makeMap Tryz.prog;go_enter Tryz.func182,Tryz.ntmps182;go_wp2
 go_loopw [9] (fun i wr=>∃k:Nat,k<=n/\i = .int .i64 k/\S5 wr w.heap.size k (seenD f g k)/\Below w.heap.size w wr) (fun i _=>n - (intOf i).toNat)
 case atStart=>exact⟨0,Nat.zero_le _,rfl,World.ownsMap_made _ _ _ _,(Below.refl _ _).alloc (Nat.le_refl _) _⟩
 case round=>
  obtain⟨k,E,rfl,p,s⟩:=hrel;have m:=Aa p;clear p;by_cases d:k<n
  ·have A:(k:Int)<(n:Int):=(by omega);obtain⟨b,off,rfl,H,q1⟩:=(B.out.A0 s).cellsD d;have o:keyOf Tryz.prog 2 (.int .i64 (f k))=some (Cj (f k)):=keyOf_int_mk PB (QD (h.out k d).1 (by have:=(h.out k d).2.1;omega));have u:=QD (x:=g k) (by have:=(h.out k d).2.2.1;omega) (h.out k d).2.2.2;have r:=Aa o;have y:=Aa u;clear o u;go_wp2_with (first
    | (at_mapUpdate;refine wpList_mapUpdate_own _ rfl _ _ _ 214 rfl 2 2 SQ Mg _ w.heap.size k _ rfl (m.out.alloc _) (by unfold maxLen;omega) _ _ _ rfl rfl r.out _ [] (plainElem_int PB y.out) ?_;intro I q l)
    | go_in)
   go_roundw
   case rel=>exact⟨k+1,by omega,by go_num,q,(s.alloc s.size _).grown l (by rw[World.size_alloc];have:=s.size;omega) (fun j C=>by cases C;exact Nat.le_refl _)⟩
   case measure=>simp[intOf];omega
  ·obtain rfl:k=n:=(by omega);go_wp2;go_ret;exact⟨rfl,m.out,s⟩
theorem JA(v:Value)(n lo hi:Nat)(f g:Nat->Int)(w:World)(A:BI w lo hi v n f g) :
 Calls Tryz.prog 153 #[v] w fun e w'=>AL (Cc n f g) e/\Below w.heap.size w w':=by
 have D:=Aa A;obtain⟨L,a,c,rfl,P,_⟩:=id A;clear A;unfold maxLen at L;by_cases hn:n<=200
 ·have B:¬(200:Int)<(n:Int):=(by omega);go_enter Tryz.func153,Tryz.ntmps153;go_wp2
  go_loopw [10] (fun i wr=>∃k:Nat,k<=n/\i = .int .i64 k/\(∀i,i<k->FP (f i) (g i))/\Below w.heap.size w wr) (fun i _=>n - (intOf i).toNat)
  case atStart=>exact⟨0,Nat.zero_le _,rfl,fun j J=>absurd J (Nat.not_lt_zero _),Below.refl _ _⟩
  case round=>
   obtain⟨k,O,rfl,p,u⟩:=hrel;have l:=Aa p;clear p;by_cases q:k<n
   ·have E:(k:Int)<(n:Int):=(by omega);obtain⟨b,off,rfl,M,q1⟩:=(D.out.A0 u).cellsD q;have r:=A7 u (AC wr (.cells #[.int .i64 (f k),.int .i64 (g k)] 38));go_wp2_with fail;refine(zCJ (f k) (g k) _).mono ?_;rintro e N ⟨⟨t,rfl,x⟩,m⟩;have o:=A7 r m;clear m r M q1;by_cases d:FP (f k) (g k)
    ·have y:=Aa d;obtain rfl:t=true:=x.2 d;clear x d;go_wp2;go_roundw
     case rel=>exact⟨k+1,by omega,by go_num,Bu q l.out y.out,o⟩
     case measure=>simp[intOf];omega
    ·have y:=Aa d;obtain rfl:t=false:=BR x d;clear x d;go_wp2;go_ret;exact⟨AL.no fun h=>y.out (h.2.1 k q),o⟩
   ·obtain rfl:k=n:=(by omega);go_wp2_with fail;refine(ZG _ k lo hi f g _ (D.out.A0 u) hn l.out).mono ?_;rintro e N ⟨rfl,F,m⟩;have o:=A7 u m;have H:=Aa F;have C:=R4 f g k;clear F m;obtain⟨K,s⟩:=C;have z:=Aa s;clear s;go_wp2_with (first
     | (at_len;refine wpList_len_own _ rfl _ 214 rfl 2 2 Mg _ wr.heap.size k _ rfl H.out ?_)
     | go_in)
    go_ret;refine⟨⟨_,rfl,?_⟩,o⟩;have I:=z.out;have G:=l.out;simp only[beq_iff_eq,Int.natCast_inj];exact I.trans ⟨fun h=>⟨hn,G,h⟩,fun h=>h.2.2⟩
 ·have B:(200:Int)<(n:Int):=(by omega);go_enter Tryz.func153,Tryz.ntmps153;go_wp2;go_ret;exact⟨AL.no fun h=>hn h.1,Below.refl _ _⟩
def Jc(n a b:Int):Prop:=a<=n/\n<=b
structure Dd where
 A6:Int
 time:Int
 rs:Int
 rb:Int
 dn:Nat
 ds:Nat->Int
 db:Nat->Int
def Me(s:Ae):Dd:=⟨s.A6,s.time,s.rs,s.rb,s.dn,s.ds,s.db⟩
def LA(t:Int)(s:Ad):Dd:=⟨s.A6,t,s.rs,s.rb,s.dn,s.ds,s.db⟩
def A8(W:A4)(i:Nat):Dd:=if i<W.pn then Me (W.A2 i)else LA W.time (W.A1 (i - W.pn))
def memN(W:A4):Nat:=W.pn+W.sn
variable{W:A4}{i:Nat}
theorem Co(h:i<W.pn):A8 W i=Me (W.A2 i):=if_pos h
theorem Cp(W:A4)(i:Nat):A8 W (W.pn+i)=LA W.time (W.A1 i):=by
 unfold A8;rw[if_neg (by omega),show W.pn+i - W.pn=i by omega]
def DH:Ae:=⟨0,ByteArray.empty,ByteArray.empty,0,0,0,0,0,fun _=>0,fun _=>0⟩
open Classical in
def AI(W:A4)(x:Int):Ae:=if h:∃k,Be W x k then W.A2 h.choose else DH
theorem Dv(h:Be W x k):AI W x=W.A2 k:=by
 unfold AI;rw[dif_pos ⟨k,h⟩,Be.uniq (Exists.choose_spec (⟨k,h⟩:∃k,Be W x k)) h]
theorem RI(h:∀k,k<W.pn->(W.A2 k).id≠x):AI W x=DH:=by
 unfold AI;rw[dif_neg];rintro⟨k,a⟩;exact h k a.1 a.2.1
theorem R6{W:A4}{x:Int}:∀{n:Nat},n<=W.pn->(∃k,k<n/\(W.A2 k).id=x)->∃k,Be W x k
 | 0,_,⟨k,hk,_⟩=>absurd hk (Nat.not_lt_zero _)
 | n+1,hn,⟨k,hk,e⟩=>by
  by_cases h:∃j,j<n/\(W.A2 j).id=x
  ·exact R6 (by omega) h
  ·have:k=n:=by
    by_cases a:k<n
    ·exact absurd ⟨k,a,e⟩ h
    ·omega
   subst this;exact⟨k,by omega,e,fun j c b=>h ⟨j,c,b⟩⟩
def treeM(W:A4)(m:Dd):List (Int×Int):=AF W.pool m.rs m.rb
def oldM(W:A4)(m:Dd):List (Int×Int):=AF W.pool (AI W m.A6).rs (AI W m.A6).rb
def BX(l m:List (Int×Int)):List (Int×Int):=l.filter (fun x=>decide (x∉m))
def Cl(l m:List (Int×Int)):List (Int×Int):=l.filter (fun x=>decide (x∈m))
def E5(l:List (Int×Int))(t:Int):List (Int×Int):=l.filter (fun x=>decide (t<x.2))
def CC(W:A4)(m:Dd):List (Int×Int):=BX (treeM W m) (oldM W m)
def Cd(W:A4)(m:Dd):List (Int×Int):=E5 (treeM W m) (AI W m.A6).time
def Dy(n:Nat)(f g:Nat->Int)(l:List (Int×Int)):Prop:=FO n f g l.length (AK l) (AM l)
def Fy(now old:List (Int×Int))(t tm:Int):Prop:=∀x,x∈now->x.2<=tm/\(x∈old↔x.2<=t)
def KE(W:A4)(m:Dd):Prop:=Dy m.dn m.ds m.db (BX (oldM W m) (treeM W m))/\Fy (treeM W m) (oldM W m) (AI W m.A6).time m.time
def yA(W:A4)(m:Dd):Prop:=m.rb<=m.time/\Dy (Cd W m).length (AK (Cd W m)) (AM (Cd W m)) (CC W m)/\Dy m.dn m.ds m.db (BX (oldM W m) (Cl (treeM W m) (oldM W m)))
theorem zh(l m:List (Int×Int)):BX m (Cl l m)=BX m l:=by
 unfold BX Cl;refine List.filter_congr fun x b=>?_
 rw[decide_eq_decide];simp only[List.mem_filter,decide_eq_true_eq];exact⟨fun h a=>h ⟨a,b⟩,fun h a=>h a.1⟩
variable{l:List (Int×Int)}
theorem Cz(h:i<l.length):l.getD i (0,0)=l[i]:=by
 rw[List.getD_eq_getElem?_getD,List.getElem?_eq_getElem h,Option.getD_some]
variable{y:Int}
theorem IC:PIn l.length (AK l) (AM l) x y↔(x,y)∈l:=by
 constructor
 ·rintro⟨j,a,b,c⟩;unfold AK at b;unfold AM at c;rw[Cz a]at b c;have:l[j]=(x,y):=Prod.ext b c;exact this▸List.getElem_mem a
 ·intro h;obtain⟨j,a,e⟩:=List.getElem_of_mem h;exact⟨j,a,by unfold AK;rw[Cz a,e],by unfold AM;rw[Cz a,e]⟩
structure Ej (W:A4):Prop where
 right:AY W.pool
 ids:∀k,k<W.pn->(W.A2 k).A6<(W.A2 k).id
 tree:∀i,i<memN W->Ay W.pool (A8 W i).rs (A8 W i).rb
 time:∀i,i<memN W->0<=(A8 W i).time
variable{p:A5}{rs rb:Int}
theorem EE(b:AY p)(e:Ay p rs rb){x:Int×Int}(a:x∈AF p rs rb):B5 p x.1 x.2/\x.2<=rb/\¬Has p.hn p.h x.1:=by
 rcases(O3 b).2 e with f | ⟨d,_,c⟩
 ·rw[AF,if_pos f]at a;simp at a
 ·have:=MY b d x a;exact⟨this.1,this.2,c.2 x a⟩
theorem L8(b:AY p)(c:Ay p rs rb):(AF p rs rb).Nodup:=by
 rcases(O3 b).2 c with d | ⟨e,_,a⟩
 ·rw[AF,if_pos d];exact List.nodup_nil
 ·exact a.1
theorem zDm(e:AY p)(h:B5 p x y):FP x y:=by
 have f:=Er e h;have g:=e.1;obtain⟨a,b,c,d⟩:=h;have:=f.1.2;exact⟨b,by omega,a,by omega⟩
theorem L7(a:AY p)(h:∀x,x∈l->B5 p x.1 x.2)(hn:l.Nodup)(c:l.length<=200):Cc l.length (AK l) (AM l):=by
 have hs:=(Qw h).2 hn;refine⟨c,fun i hi=>?_,fun i hi k b=>?_⟩
 ·unfold AK AM;rw[Cz hi];exact zDm a (h _ (List.getElem_mem hi))
 ·unfold AK;rw[Cz hi,Cz (show k<l.length by omega)];unfold Bi List.Nodup at hs;rw[List.pairwise_map]at hs;exact List.pairwise_iff_getElem.1 hs k i (by omega) hi b
theorem zCI(n:AY p){T:List (Int×Int)}(o:∀x,x∈T->B5 p x.1 x.2)(hn:T.Nodup)(q:T.length<=200)(P Q:Int×Int->Bool) :
 Dy (T.filter P).length (AK (T.filter P)) (AM (T.filter P)) (T.filter Q)↔∀x,x∈T->P x=Q x:=by
 constructor
 ·rintro⟨_,_,b,f⟩;have g:∀x,x∈T->P x=true->Q x=true:=fun x a d=>by
   have r:x∈T.filter P:=List.mem_filter.2 ⟨a,d⟩;obtain⟨j,l,e⟩:=List.getElem_of_mem r;have:=f j l;rw[IC]at this;unfold AK AM at this;rw[Cz l,e]at this;exact(List.mem_filter.1 this).2
  have m:(T.filter Q).filter P=T.filter P:=by
   rw[List.filter_filter];refine List.filter_congr fun x a=>?_
   cases d:P x
   ·rfl
   ·rw[g x a d];rfl
  have k:((T.filter Q).filter P).length=(T.filter Q).length:=(by rw[m,b]);rw[List.length_filter_eq_length_iff]at k;intro x a;cases hq:Q x
  ·cases d:P x
   ·rfl
   ·rw[g x a d]at hq;exact absurd hq (by simp)
  ·exact k x (List.mem_filter.2 ⟨a,hq⟩)
 ·intro h;have e:T.filter P=T.filter Q:=List.filter_congr h;rw[e];have c:Cc (T.filter Q).length (AK (T.filter Q)) (AM (T.filter Q)):=L7 n (fun x a=>o x (List.mem_filter.1 a).1) (hn.filter _) (Nat.le_trans (List.length_filter_le _ _) q);exact⟨c,c,rfl,fun i hi=>⟨i,hi,rfl,rfl⟩⟩
theorem Xs(h:Ej W)(hi:i<memN W):yA W (A8 W i)↔KE W (A8 W i):=by
 generalize q:A8 W i=m;have j:=h.tree i hi;have f:=h.time i hi;rw[q]at j f;have d:(treeM W m).length<=200:=by have:=DX W.pool m.rs m.rb;unfold treeM;omega
 have l:∀x,x∈treeM W m->B5 W.pool x.1 x.2:=fun x b=>(EE h.right j b).1
 unfold yA KE;rw[zh];have key:Dy (Cd W m).length (AK (Cd W m)) (AM (Cd W m)) (CC W m)↔∀x,x∈treeM W m->(x∈oldM W m↔x.2<=(AI W m.A6).time):=by
  unfold Cd CC E5 BX;rw[zCI h.right l (L8 h.right j) d];refine⟨fun k x b=>?_,fun k x b=>?_⟩
  ·have:=k x b;rw[decide_eq_decide]at this;constructor
   ·intro a;by_cases e:(AI W m.A6).time<x.2
    ·exact absurd a (this.1 e)
    ·omega
   ·intro c;by_cases a:x∈oldM W m
    ·exact a
    ·have:=this.2 a;omega
  ·rw[decide_eq_decide];have:=k x b;constructor
   ·intro e a;have:=this.1 a;omega
   ·intro a;by_cases c:x.2<=(AI W m.A6).time
    ·exact absurd (this.2 c) a
    ·omega
 rw[key];constructor
 ·rintro⟨n,g,p⟩;exact⟨p,fun x b=>⟨by have:=(EE h.right j b).2.1;omega,g x b⟩⟩
 ·rintro⟨n,g⟩;refine⟨?_,fun x b=>(g x b).2,n⟩;by_cases o:Nil m.rs m.rb
  ·rw[o.2];exact f
  ·have r:(m.rs,m.rb)∈treeM W m:=(by unfold treeM AF;rw[if_neg o];simp);exact(g _ r).1
theorem zDU{m:Dd}(c:KE W m):Cd W m=CC W m:=by
 unfold Cd CC E5 BX;refine List.filter_congr fun x d=>?_
 rw[decide_eq_decide];have:=(c.2 x d).2;constructor
 ·intro b a;have:=this.1 a;omega
 ·intro b;by_cases a:x.2<=(AI W m.A6).time
  ·exact absurd (this.2 a) b
  ·omega
open Classical in
def cnt(P:Nat->Prop):Nat->Nat
 | 0=>0
 | k+1=>cnt P k+(if P k then 1 else 0)
theorem Kr{P Q:Nat->Prop}:∀{n:Nat},(∀i,i<n->(P i↔Q i))->cnt P n=cnt Q n
 | 0,_=>rfl
 | n+1,h=>by
  unfold cnt;rw[Kr (fun i hi=>h i (by omega))];by_cases a:P n
  ·rw[if_pos a,if_pos ((h n (by omega)).1 a)]
  ·rw[if_neg a,if_neg (fun b=>a ((h n (by omega)).2 b))]
theorem Zs{P Q:Nat->Prop}:∀{n:Nat},(∀i,i<n->P i->Q i)->cnt P n<=cnt Q n
 | 0,_=>Nat.le_refl _
 | n+1,h=>by
  unfold cnt;have:=Zs (n:=n) (fun i hi=>h i (by omega));by_cases a:P n
  ·rw[if_pos a,if_pos (h n (by omega) a)];omega
  ·rw[if_neg a];omega
theorem YL{P Q:Nat->Prop}:∀{n:Nat},(∀i,i<n->P i->Q i)->(cnt P n=cnt Q n↔∀i,i<n->(P i↔Q i))
 | 0,_=>⟨fun _ i hi=>absurd hi (Nat.not_lt_zero _),fun _=>rfl⟩
 | n+1,h=>by
  refine⟨fun e=>?_,fun e=>Kr e⟩;have f:=Zs (n:=n) (fun i hi=>h i (by omega));have g:=YL (n:=n) (fun i hi=>h i (by omega));unfold cnt at e;have hn:P n↔Q n:=by
   refine⟨h n (by omega),fun b=>?_⟩;by_cases a:P n
   ·exact a
   ·rw[if_neg a,if_pos b]at e;omega
  have c:cnt P n=cnt Q n:=by
   by_cases a:P n
   ·rw[if_pos a,if_pos (hn.1 a)]at e;omega
   ·rw[if_neg a,if_neg (fun b=>a (hn.2 b))]at e;omega
  intro i hi;by_cases d:i=n
  ·subst d;exact hn
  ·exact g.1 c i (by omega)
theorem PO{P Q:Nat->Prop}:∀{n:Nat},(∀i,i<n->P i->¬Q i)->cnt (fun i=>P i\/Q i) n=cnt P n+cnt Q n
 | 0,_=>rfl
 | n+1,h=>by
  unfold cnt;rw[PO (fun i hi=>h i (by omega))];by_cases a:P n
  ·rw[if_pos (Or.inl a),if_pos a,if_neg (h n (by omega) a)];omega
  ·by_cases b:Q n
   ·rw[if_pos (Or.inr b),if_neg a,if_pos b];omega
   ·rw[if_neg (fun h=>h.elim a b),if_neg a,if_neg b];omega
theorem U0(P:Nat->Prop):∀n,cnt P n+cnt (fun i=>¬P i) n=n
 | 0=>rfl
 | n+1=>by
  have:=U0 P n;unfold cnt;by_cases a:P n
  ·rw[if_pos a,if_neg (fun h=>h a)];omega
  ·rw[if_neg a,if_pos a];omega
theorem Qb{P:Nat->Prop}:∀{n:Nat},(∀i,i<n->¬P i)->cnt P n=0
 | 0,_=>rfl
 | n+1,h=>by
  unfold cnt;rw[Qb (fun i hi=>h i (by omega)),if_neg (h n (by omega))]
theorem U1:∀{n a:Nat},a<n->cnt (fun i=>i=a) n=1
 | 0,a,h=>absurd h (Nat.not_lt_zero _)
 | n+1,a,h=>by
  unfold cnt;by_cases e:n=a
  ·subst e;rw[if_pos rfl,Qb (fun i hi=>by omega)]
  ·rw[if_neg e,U1 (by omega)]
theorem Nl{n:Nat}:∀{l:List Nat},l.Nodup->(∀x,x∈l->x<n)->cnt (fun i=>i∈l) n=l.length
 | [],_,_=>Qb (fun i hi=>by simp)
 | a :: l,hn,hl=>by
  obtain⟨d,f⟩:=List.nodup_cons.1 hn;have b:cnt (fun i=>i∈a :: l) n=cnt (fun i=>i=a\/i∈l) n:=Kr (fun i _=>List.mem_cons);have c:cnt (fun i=>i=a\/i∈l) n=cnt (fun i=>i=a) n+cnt (fun i=>i∈l) n:=PO (fun i _ (e:i=a) hi=>d (e▸hi));rw[b,c,U1 (hl a (by simp)),Nl f (fun x g=>hl x (by simp[g])),List.length_cons];omega
theorem VI(f:Nat->AG):∀n,roomN f n=cnt (fun i=>Ag (f i)) n
 | 0=>rfl
 | n+1=>by unfold roomN cnt;rw[VI f n]
theorem zEY(l:AY p):cnt (fun i=>Has p.hn p.h i) p.n=p.hn:=by
 have h:=l.2.2;have q:∀x,x∈(List.range p.hn).map (fun j=>(p.h j).toNat)->x<p.n:=by
  intro x g;obtain⟨j,c,rfl⟩:=List.mem_map.1 g;have:=h j (List.mem_range.1 c);have k:=this.1;have d:=this.2.1;omega
 have hn:((List.range p.hn).map (fun j=>(p.h j).toNat)).Nodup:=by
  unfold List.Nodup;rw[List.pairwise_map];refine List.Pairwise.imp_of_mem ?_ (List.pairwise_lt_range);intro a b m o f e;have k:=h a (List.mem_range.1 m);have d:=h b (List.mem_range.1 o);have:=k.1;have:=d.1;exact d.2.2.2 ⟨a,f,by omega⟩
 have:=Nl hn q;rw[List.length_map,List.length_range]at this;refine Eq.trans (Kr (fun i hi=>?_)) this;constructor
 ·rintro⟨j,c,e⟩;exact List.mem_map.2 ⟨j,List.mem_range.2 c,by rw[e];simp⟩
 ·intro g;obtain⟨j,c,e⟩:=List.mem_map.1 g;have:=(h j (List.mem_range.1 c)).1;exact⟨j,List.mem_range.1 c,by omega⟩
theorem VH(a:AY p):cnt (fun i=>¬Ag (p.s i)/\¬Has p.hn p.h i) p.n+roomN p.s p.n+p.hn=p.n:=by
 have f:=U0 (fun i=>Ag (p.s i)\/Has p.hn p.h i) p.n;have b:cnt (fun i=>Ag (p.s i)\/Has p.hn p.h i) p.n=cnt (fun i=>Ag (p.s i)) p.n+cnt (fun i=>Has p.hn p.h i) p.n:=PO (fun i hi c=>by
  rintro⟨j,d,e⟩;have:=(a.2.2 j d).2.2.1;rw[e]at this;simp only[Int.toNat_natCast]at this;exact this c)
 rw[zEY a,<-VI]at b;have g:cnt (fun i=>¬(Ag (p.s i)\/Has p.hn p.h i)) p.n=cnt (fun i=>¬Ag (p.s i)/\¬Has p.hn p.h i) p.n:=Kr (fun i _=>not_or);omega
def QC(W:A4):Prop:=∀i,i<W.pool.n->((∃m,m<memN W/\∃b,((i:Int),b)∈treeM W (A8 W m))↔(¬Ag (W.pool.s i)/\¬Has W.pool.hn W.pool.h i))
def Ig(W:A4):Prop:=∀i,i<memN W->∀j,j<i->∀x,x∈CC W (A8 W i)->∀y,y∈CC W (A8 W j)->x.1≠y.1
def B3(W:A4):Nat->List (Int×Int)
 | 0=>[]
 | k+1=>B3 W k ++ Cd W (A8 W k)
def Lp(W:A4):Prop:=(B3 W (memN W)).Nodup/\(B3 W (memN W)).length+roomN W.pool.s W.pool.n+W.pool.hn=W.pool.n
theorem MH{W:A4}{x:Int×Int}:∀{k:Nat},x∈B3 W k↔∃i,i<k/\x∈Cd W (A8 W i)
 | 0=>by simp[B3]
 | k+1=>by
  unfold B3;rw[List.mem_append,MH];constructor
  ·rintro(⟨i,hi,h⟩ | h)
   ·exact⟨i,by omega,h⟩
   ·exact⟨k,by omega,h⟩
  ·rintro⟨i,hi,h⟩;by_cases e:i=k
   ·subst e;exact Or.inr h
   ·exact Or.inl ⟨i,by omega,h⟩
theorem Yr{W:A4}:∀{k:Nat},(∀i,i<k->(Cd W (A8 W i)).Nodup)->((B3 W k).Nodup↔∀i,i<k->∀j,j<i->∀x,x∈Cd W (A8 W i)->x∉Cd W (A8 W j))
 | 0,_=>⟨fun _ i hi=>absurd hi (Nat.not_lt_zero _),fun _=>List.nodup_nil⟩
 | k+1,hy=>by
  unfold B3;rw[List.nodup_append,Yr (fun i hi=>hy i (by omega))];constructor
  ·rintro⟨f,l,g⟩ i hi j d x a b;by_cases e:i=k
   ·subst e;exact g x (MH.2 ⟨j,d,b⟩) x a rfl
   ·exact f i (by omega) j d x a b
  ·intro h;refine⟨fun i hi=>h i (by omega),hy k (by omega),fun x a y c e=>?_⟩;subst e;obtain⟨i,hi,a⟩:=MH.1 a;exact h k (by omega) i hi x c a
theorem Uq{W:A4}(h:Ej W){x:Int×Int}:∀(N:Nat) (k:Nat),k<W.pn->(W.A2 k).id<N->0<=(W.A2 k).id->(∀j,j<W.pn->0<=(W.A2 j).id)->x∈treeM W (A8 W k)->∃i,i<memN W/\x∈CC W (A8 W i)
 | 0,k,hk,h1,h2,_,_=>by omega
 | N+1,k,hk,h1,h2,h0,hx=>by
  by_cases a:x∈oldM W (A8 W k)
  ·have c:∃j,Be W (A8 W k).A6 j:=by
    refine Classical.byContradiction fun d=>?_
    have:AI W (A8 W k).A6=DH:=(by unfold AI;rw[dif_neg d]);unfold oldM at a;rw[this,AF,if_pos ⟨rfl,rfl⟩]at a;simp at a
   obtain⟨j,b⟩:=c;unfold oldM at a;rw[Dv b]at a;have e:(A8 W k).A6=(W.A2 k).A6:=(by rw[Co hk];rfl);have:=h.ids k hk;have:=b.2.1;exact Uq h N j b.1 (by omega) (h0 j b.1) h0 (by rw[Co b.1];exact a)
  ·exact⟨k,by unfold memN;omega,List.mem_filter.2 ⟨hx,by simpa using a⟩⟩
theorem zEo(h:Ej W)(c:∀j,j<W.pn->0<=(W.A2 j).id){x:Int×Int}{m:Nat}(f:m<memN W)(g:x∈treeM W (A8 W m)):∃i,i<memN W/\x∈CC W (A8 W i):=by
 by_cases a:x∈oldM W (A8 W m)
 ·have d:∃j,Be W (A8 W m).A6 j:=by
   refine Classical.byContradiction fun e=>?_
   have:AI W (A8 W m).A6=DH:=(by unfold AI;rw[dif_neg e]);unfold oldM at a;rw[this,AF,if_pos ⟨rfl,rfl⟩]at a;simp at a
  obtain⟨j,b⟩:=d;unfold oldM at a;rw[Dv b]at a;have:=c j b.1;exact Uq h ((W.A2 j).id.toNat+1) j b.1 (by omega) (c j b.1) c (by rw[Co b.1];exact a)
 ·exact⟨m,f,List.mem_filter.2 ⟨g,by simpa using a⟩⟩
theorem Vd(h:Ej W)(T:∀j,j<W.pn->0<=(W.A2 j).id)(U:∀i,i<memN W->KE W (A8 W i)):Lp W↔QC W/\Ig W:=by
 have w:∀i,i<memN W->Cd W (A8 W i)=CC W (A8 W i):=fun i hi=>zDU (U i hi)
 have K:∀i,i<memN W->(Cd W (A8 W i)).Nodup:=fun i hi=>(L8 h.right (h.tree i hi)).filter _
 have t:∀i,i<memN W->∀x,x∈CC W (A8 W i)->x∈treeM W (A8 W i):=fun i _ x c=>(List.mem_filter.1 c).1
 have p:∀i,i<memN W->∀x,x∈treeM W (A8 W i)->B5 W.pool x.1 x.2/\¬Has W.pool.hn W.pool.h x.1:=fun i hi x c=>⟨(EE h.right (h.tree i hi) c).1,(EE h.right (h.tree i hi) c).2.2⟩
 have o:∀x y:Int×Int,B5 W.pool x.1 x.2->B5 W.pool y.1 y.2->x.1=y.1->x=y:=fun x y c g e=>by
  have O:=c.2.2.2;have S:=g.2.2.2;rw[e]at O;exact Prod.ext e (O.symm.trans S)
 have G:(B3 W (memN W)).Nodup↔Ig W:=by
  rw[Yr K];unfold Ig;constructor
  ·intro H i hi j I x c y g e;have N:=o x y (p i hi x (t i hi x c)).1 (p j (by omega) y (t j (by omega) y g)).1 e;subst N;exact H i hi j I x (by rw[w i hi];exact c) (by rw[w j (by omega)];exact g)
  ·intro H i hi j I x c M;exact H i hi j I x (by rw[<-w i hi];exact c) x (by rw[<-w j (by omega)];exact M) rfl
 have d:∀x,x∈B3 W (memN W)↔∃m,m<memN W/\x∈treeM W (A8 W m):=fun x=>by
  rw[MH];constructor
  ·rintro⟨i,hi,c⟩;rw[w i hi]at c;exact⟨i,hi,t i hi x c⟩
  ·rintro⟨m,k,c⟩;obtain⟨i,hi,c⟩:=zEo h T k c;exact⟨i,hi,by rw[w i hi];exact c⟩
 unfold Lp;rw[G];constructor
 ·rintro⟨A,R⟩;refine⟨?_,A⟩;have f:=G.2 A;have hpL:∀x,x∈B3 W (memN W)->B5 W.pool x.1 x.2:=fun x c=>by
   obtain⟨m,k,c⟩:=(d x).1 c;exact(p m k x c).1
  have J:∀x,x∈(B3 W (memN W)).map (fun x=>x.1.toNat)->x<W.pool.n:=by
   intro x c;obtain⟨y,g,rfl⟩:=List.mem_map.1 c;have:=hpL y g;have F:=this.2.1;have z:=this.2.2.1;omega
  have v:((B3 W (memN W)).map (fun x=>x.1.toNat)).Nodup:=by
   unfold List.Nodup;rw[List.pairwise_map];refine List.Pairwise.imp_of_mem ?_ f;intro a b q r u e;have C:=hpL a q;have D:=hpL b r;have:=C.2.1;have:=D.2.1;exact u (o a b C D (by omega))
  have E:=Nl v J;rw[List.length_map]at E;have X:=VH h.right;have l:∀i,i<W.pool.n->(i∈(B3 W (memN W)).map (fun x=>x.1.toNat)↔∃m,m<memN W/\∃b,((i:Int),b)∈treeM W (A8 W m)):=by
   intro i hi;rw[List.mem_map];constructor
   ·rintro⟨x,c,e⟩;have:=(hpL x c).2.1;obtain⟨m,k,c⟩:=(d x).1 c;exact⟨m,k,x.2,by rw[show(i:Int)=x.1 by omega];exact c⟩
   ·rintro⟨m,k,b,c⟩;exact⟨(i,b),(d _).2 ⟨m,k,c⟩,by simp⟩
  have B:∀i,i<W.pool.n->i∈(B3 W (memN W)).map (fun x=>x.1.toNat)->¬Ag (W.pool.s i)/\¬Has W.pool.hn W.pool.h i:=by
   intro i hi c;obtain⟨m,k,b,c⟩:=(l i hi).1 c;have:=p m k _ c;refine⟨fun V=>?_,this.2⟩;have F:=this.1.1;have z:=this.1.2.2.2;simp only[Int.toNat_natCast]at z;rw[V.1]at z;simp only at F z;omega
  have:=(YL B).1 (by rw[E];omega);intro i hi;rw[<-l i hi];exact this i hi
 ·rintro⟨L,A⟩;refine⟨A,?_⟩;have f:=G.2 A;have hpL:∀x,x∈B3 W (memN W)->B5 W.pool x.1 x.2:=fun x c=>by
   obtain⟨m,k,c⟩:=(d x).1 c;exact(p m k x c).1
  have J:∀x,x∈(B3 W (memN W)).map (fun x=>x.1.toNat)->x<W.pool.n:=by
   intro x c;obtain⟨y,g,rfl⟩:=List.mem_map.1 c;have:=hpL y g;have F:=this.2.1;have z:=this.2.2.1;omega
  have v:((B3 W (memN W)).map (fun x=>x.1.toNat)).Nodup:=by
   unfold List.Nodup;rw[List.pairwise_map];refine List.Pairwise.imp_of_mem ?_ f;intro a b q r u e;have C:=hpL a q;have D:=hpL b r;have:=C.2.1;have:=D.2.1;exact u (o a b C D (by omega))
  have E:=Nl v J;rw[List.length_map]at E;have X:=VH h.right;have l:∀i,i<W.pool.n->(i∈(B3 W (memN W)).map (fun x=>x.1.toNat)↔∃m,m<memN W/\∃b,((i:Int),b)∈treeM W (A8 W m)):=by
   intro i hi;rw[List.mem_map];constructor
   ·rintro⟨x,c,e⟩;have:=(hpL x c).2.1;obtain⟨m,k,c⟩:=(d x).1 c;exact⟨m,k,x.2,by rw[show(i:Int)=x.1 by omega];exact c⟩
   ·rintro⟨m,k,b,c⟩;exact⟨(i,b),(d _).2 ⟨m,k,c⟩,by simp⟩
  have:=Kr (P:=fun i=>i∈(B3 W (memN W)).map (fun x=>x.1.toNat)) (Q:=fun i=>¬Ag (W.pool.s i)/\¬Has W.pool.hn W.pool.h i) (n:=W.pool.n) (fun i hi=>(l i hi).trans (L i hi));omega
theorem At.atW{base:Nat}{v:Value}(h:At w base v l)(e:l.length<=1000):BI w 0 w.heap.size v l.length (AK l) (AM l):=by
 obtain⟨b,c,d⟩:=h.own (by unfold maxLen;omega);exact c.at (fun a=>⟨Nat.zero_le _,(d a).2.2⟩)
def qz(now old:List (Int×Int))(t tm:Int)(n:Nat):Prop:=∀i,i<n->AM now i<=tm/\((AK now i,AM now i)∈old↔AM now i<=t)
theorem Tw(a b:List (Int×Int))(t tm:Int):qz a b t tm a.length↔Fy a b t tm:=by
 constructor
 ·intro h x d;obtain⟨j,c,e⟩:=List.getElem_of_mem d;have:=h j c;unfold AK AM at this;rw[Cz c,e]at this;exact this
 ·intro h i hi;have:=h _ (List.getElem_mem hi);unfold AK AM;rw[Cz hi];exact this
def NQ(W:A4):Prop:=∀k,k<W.pn->1<=(W.A2 k).id
def Dq(i:Nat)(c:Int):Prop:=(97<=c/\c<=122)\/(i≠0/\((48<=c/\c<=57)\/c=95))
def Bp(s:ByteArray):Prop:=1<=s.size/\s.size<=20/\∀j,(h:j<s.size)->Dq j (s[j].toNat:Int)
variable{s:ByteArray}
theorem zIc(d:k<s.size)(a:∀j,(h:j<k)->(b:j<s.size)->Dq j (s[j].toNat:Int))(c:Dq k (s[k].toNat:Int)) :
 ∃m:Nat,m<=s.size/\Value.int .i64 ((k:Int)+1) = .int .i64 (m:Int)/\∀j,(h:j<m)->(b:j<s.size)->Dq j (s[j].toNat:Int):=by
 refine⟨k+1,by omega,by simp,fun j h b=>?_⟩;by_cases e:j=k
 ·subst e;exact c
 ·exact a j (by omega) b
theorem zIb(c:0<s.size)(a:Dq 0 (s[0].toNat:Int)) :
 ∃m:Nat,m<=s.size/\Value.int .i64 1 = .int .i64 (m:Int)/\∀j,(h:j<m)->(b:j<s.size)->Dq j (s[j].toNat:Int):=by
 refine⟨1,by omega,by simp,fun j h b=>?_⟩;obtain rfl:j=0:=by omega
 exact a
theorem Rm(s:ByteArray)(w:World)(hs:s.size<=maxLen) :
 Calls Tryz.prog 125 #[.string s] w fun e w'=>AL (Bp s) e/\w'=w:=by
 unfold maxLen at hs;by_cases r:s.size<1
 ·have f:(s.size:Int)<1:=(by omega);go_enter Tryz.func125,Tryz.ntmps125;go_wp2;go_ret;exact⟨⟨false,rfl,by simp[Bp];omega⟩,rfl⟩
 by_cases t:20<s.size
 ·have m:(20:Int)<(s.size:Int):=(by omega);have f:¬(s.size:Int)<1:=(by omega);go_enter Tryz.func125,Tryz.ntmps125;go_wp2;go_ret;exact⟨⟨false,rfl,by simp[Bp];omega⟩,rfl⟩
 have f:¬(s.size:Int)<1:=by omega
 have m:¬(20:Int)<(s.size:Int):=by omega
 have p:0<s.size:=by omega
 by_cases a:97<=(s[0].toNat:Int)/\(s[0].toNat:Int)<=122
 ·obtain⟨l,n⟩:=a;go_enter Tryz.func125,Tryz.ntmps125;go_wp2
  go_loop [20] (fun i=>∃k:Nat,k<=s.size/\i = .int .i64 k/\∀j,(h:j<k)->(q:j<s.size)->Dq j (s[j].toNat:Int)) (fun i=>s.size - (intOf i).toNat)
  case atStart=>exact⟨0,Nat.zero_le _,rfl,fun j h=>absurd h (Nat.not_lt_zero _)⟩
  case round=>
   obtain⟨k,u,rfl,c⟩:=hrel;have b:Hid (∀j,(h:j<k)->(q:j<s.size)->Dq j (s[j].toNat:Int)):=c;clear c;by_cases d:k<s.size
   ·by_cases o:k=0
    all_goals try subst o
    all_goals go_wp2
    all_goals try (go_ret;refine⟨⟨false,rfl,?_⟩,rfl⟩;simp only[Bool.false_eq_true,false_iff];intro h;have g:=h.2.2 _ d;unfold Dq at g;first | omega | grind)
    all_goals
     go_round
     case measure=>simp[intOf];omega
     case rel=>first | exact zIb d (by unfold Dq;first | omega | grind) | exact zIc d b.out (by unfold Dq;first | omega | grind)
   ·go_wp2;go_ret;refine⟨⟨true,rfl,?_⟩,rfl⟩;simp only[true_iff];exact⟨by omega,by omega,fun j h=>b.out j (by omega) h⟩
 ·by_cases l:97<=(s[0].toNat:Int)
  ·have n:¬(s[0].toNat:Int)<=122:=fun h=>a ⟨l,h⟩
   clear a;go_enter Tryz.func125,Tryz.ntmps125;go_wp2;go_ret;refine⟨⟨false,rfl,?_⟩,rfl⟩;simp only[Bool.false_eq_true,false_iff];intro h;have g:=h.2.2 _ p;unfold Dq at g;omega
  ·clear a;go_enter Tryz.func125,Tryz.ntmps125;go_wp2;go_ret;refine⟨⟨false,rfl,?_⟩,rfl⟩;simp only[Bool.false_eq_true,false_iff];intro h;have g:=h.2.2 _ p;unfold Dq at g;omega
def Ce(a b:ByteArray):Prop:=Op.bytesLess a.toList b.toList=true
theorem VQ:∀x y:List UInt8,Op.bytesLess x y=true\/x=y\/Op.bytesLess y x=true
 | [],[]=>Or.inr (Or.inl rfl)
 | [],b :: y=>Or.inl (by simp[Op.bytesLess])
 | a :: x,[]=>Or.inr (Or.inr (by simp[Op.bytesLess]))
 | a :: x,b :: y=>by
  simp only[Op.bytesLess,Bool.or_eq_true,decide_eq_true_eq,Bool.and_eq_true,beq_iff_eq,List.cons.injEq];by_cases h:a=b
  ·subst h;rcases VQ x y with h | h | h
   ·exact Or.inl (Or.inr ⟨rfl,h⟩)
   ·exact Or.inr (Or.inl ⟨rfl,h⟩)
   ·exact Or.inr (Or.inr (Or.inr ⟨rfl,h⟩))
  ·have:a<b\/b<a:=by
    have c:a.toNat≠b.toNat:=fun e=>h (UInt8.toNat_inj.1 e)
    rw[UInt8.lt_iff_toNat_lt,UInt8.lt_iff_toNat_lt];omega
   rcases this with h | h
   ·exact Or.inl (Or.inl h)
   ·exact Or.inr (Or.inr (Or.inl h))
theorem RG:∀x:List UInt8,Op.bytesLess x x=false
 | []=>rfl
 | a :: x=>by simp[Op.bytesLess,RG x]
theorem VO:∀x y:List UInt8,Op.bytesLess x y=true->Op.bytesLess y x=false
 | [],[],h=>by simp[Op.bytesLess]at h
 | [],b :: y,_=>by simp[Op.bytesLess]
 | a :: x,[],h=>by simp[Op.bytesLess]at h
 | a :: x,b :: y,h=>by
  simp only[Op.bytesLess,Bool.or_eq_true,decide_eq_true_eq,Bool.and_eq_true,beq_iff_eq]at h;rw[<-Bool.not_eq_true];simp only[Op.bytesLess,Bool.or_eq_true,decide_eq_true_eq,Bool.and_eq_true,beq_iff_eq,UInt8.lt_iff_toNat_lt]at h ⊢;rintro(c | ⟨c,d⟩)
  ·rcases h with h | ⟨h,_⟩
   ·omega
   ·subst h;omega
  ·subst c;rcases h with h | ⟨_,h⟩
   ·omega
   ·rw[VO x y h]at d;exact absurd d (by simp)
variable{a b:ByteArray}
theorem GA(h:a.toList=b.toList):a=b:=by
 rw[Go.ByteArray.toList_eq,Go.ByteArray.toList_eq]at h;cases a;cases b;simp only[ByteArray.mk.injEq]at *;exact Array.toList_inj.1 h
theorem Sw(a b:ByteArray):(Op.bytesLess a.toList b.toList || a.toList == b.toList)=false↔Ce b a:=by
 unfold Ce;rw[Bool.or_eq_false_iff,beq_eq_false_iff_ne];constructor
 ·rintro⟨c,d⟩;rcases VQ a.toList b.toList with h | h | h
  ·rw[c]at h;exact absurd h (by simp)
  ·exact absurd h d
  ·exact h
 ·intro h;refine⟨VO _ _ h,fun e=>?_⟩;rw[e,RG]at h;exact absurd h (by simp)
theorem zFm(h:Ce a b):a≠b:=fun e=>by
 subst e;unfold Ce at h;rw[RG]at h;exact absurd h (by simp)
theorem VR:∀x y z:List UInt8,Op.bytesLess x y=true->Op.bytesLess y z=true->Op.bytesLess x z=true
 | _,[],_,h,_=>by cases ‹List UInt8›<;>simp[Op.bytesLess]at h
 | [],_ :: _,[],_,h=>by simp[Op.bytesLess]at h
 | [],_ :: _,_ :: _,_,_=>by simp[Op.bytesLess]
 | _ :: _,_ :: _,[],_,h=>by simp[Op.bytesLess]at h
 | a :: x,b :: y,c :: z,h,d=>by
  simp only[Op.bytesLess,Bool.or_eq_true,decide_eq_true_eq,Bool.and_eq_true,beq_iff_eq,UInt8.lt_iff_toNat_lt]at h d ⊢;rcases h with h | ⟨h,f⟩
  ·rcases d with d | ⟨d,e⟩
   ·left;omega
   ·subst d;left;exact h
  ·subst h;rcases d with d | ⟨d,e⟩
   ·left;exact d
   ·subst d;right;exact⟨rfl,VR x y z f e⟩
theorem zBY{c:ByteArray}(h:Ce a b)(d:Ce b c):Ce a c:=VR _ _ _ h d
def CT(W:A4)(x:Int):Prop:=∃k,k<W.pn/\(W.A2 k).id=x
def BP(W:A4)(x:ByteArray):Prop:=∃k,k<W.sn/\(W.A1 k).name=x
def Gt(W:A4)(i:Nat):Prop:=Bp (W.A1 i).name/\(0<i->Ce (W.A1 (i - 1)).name (W.A1 i).name)/\((W.A1 i).A6≠0->CT W (W.A1 i).A6)/\((W.A1 i).origin≠0->CT W (W.A1 i).origin)
def yE(W:A4)(i:Nat):Prop:=1<=(W.A2 i).id/\(W.A2 i).id<W.next/\1<=(W.A2 i).time/\(W.A2 i).time<W.time/\Bp (W.A2 i).name/\BP W (W.A2 i).set
def S8(W:A4)(i:Nat):Prop:=(0<i->(W.A2 (i - 1)).id<(W.A2 i).id/\(W.A2 (i - 1)).time<(W.A2 i).time)/\((W.A2 i).A6≠0->(W.A2 i).A6<(W.A2 i).id/\CT W (W.A2 i).A6)
def S9(W:A4)(i j:Nat):Prop:=∀k,k<j->¬((W.A2 k).set=(W.A2 i).set/\(W.A2 k).name=(W.A2 i).name)
def NJ(W:A4)(i:Nat):Prop:=yE W i/\S8 W i/\S9 W i i
def EG(W:A4):Prop:=Jc W.time 1 900000/\Jc W.next 1 900000/\W.sn<=8/\W.pn<=20/\(∀i,i<W.sn->Gt W i)/\∀i,i<W.pn->NJ W i
theorem YS{r:Int}(h:QA W.pn (fun k=>(W.A2 k).id=x) r):(CT W x/\0<=r/\r<W.pn/\(W.A2 r.toNat).id=x)\/(¬CT W x/\r = -1):=by
 rcases h with⟨k,a,e,_,rfl⟩ | ⟨hn,rfl⟩
 ·exact Or.inl ⟨⟨k,a,e⟩,by omega,by omega,by simpa using e⟩
 ·exact Or.inr ⟨fun ⟨k,a,e⟩=>hn k a e,rfl⟩
theorem zA3{x:ByteArray}{r:Int}(h:QA W.sn (fun k=>(W.A1 k).name=x) r):(BP W x/\0<=r)\/(¬BP W x/\r = -1):=by
 rcases h with⟨k,a,e,_,rfl⟩ | ⟨hn,rfl⟩
 ·exact Or.inl ⟨⟨k,a,e⟩,by omega⟩
 ·exact Or.inr ⟨fun ⟨k,a,e⟩=>hn k a e,rfl⟩
def Dc(w:World)(b:Nat)(v0 v1 v2 v3 v4 v5 v6 v7:Value):Prop:=(AN w b 0 v0/\AN w b 1 v1/\AN w b 2 v2/\AN w b 3 v3)/\(AN w b 4 v4/\AN w b 5 v5/\AN w b 6 v6/\AN w b 7 v7)
theorem Dc.A0{w':World}{b:Nat}{v0 v1 v2 v3 v4 v5 v6 v7:Value}(h:Dc w b v0 v1 v2 v3 v4 v5 v6 v7)(t:Below w.heap.size w w'):Dc w' b v0 v1 v2 v3 v4 v5 v6 v7:=
 ⟨⟨h.1.1.A0 t,h.1.2.1.A0 t,h.1.2.2.1.A0 t,h.1.2.2.2.A0 t⟩,h.2.1.A0 t,h.2.2.1.A0 t,h.2.2.2.1.A0 t,h.2.2.2.2.A0 t⟩
theorem Dc.new(w:World)(b v1 c d e f g h:Value)(t:TypeId):Dc (w.alloc (.cells #[b,v1,c,d,e,f,g,h] t)) w.heap.size b v1 c d e f g h:=by
 have a:(w.alloc (.cells #[b,v1,c,d,e,f,g,h] t)).heap[w.heap.size]?=some (.cells #[b,v1,c,d,e,f,g,h] t):=heap_alloc_new _ _;exact⟨⟨Au a rfl,Au a rfl,Au a rfl,Au a rfl⟩,Au a rfl,Au a rfl,Au a rfl,Au a rfl⟩
open Classical in
def ownN(W:A4)(name:ByteArray):Nat->Nat
 | 0=>0
 | k+1=>ownN W name k+(if (W.A2 k).set=name then 1 else 0)
variable{name:ByteArray}
theorem QL(h:(W.A2 k).set=name):ownN W name (k+1)=ownN W name k+1:=by simp[ownN,h]
theorem Pk(h:¬(W.A2 k).set=name):ownN W name (k+1)=ownN W name k:=by simp[ownN,h]
theorem Nc(W:A4)(name:ByteArray):∀k,ownN W name k<=k
 | 0=>Nat.le_refl _
 | k+1=>by
  have:=Nc W name k;by_cases h:(W.A2 k).set=name
  ·rw[QL h];omega
  ·rw[Pk h];omega
inductive Steps (W:A4) (name:ByteArray) (start:Int):Nat->Int->Prop
 | zero:Steps W name start 0 start
 | next {n:Nat} {x:Int} {k:Nat}:Steps W name start n x->Be W x k->(W.A2 k).set=name->Steps W name start (n+1) (W.A2 k).A6
def FN(W:A4)(name:ByteArray)(x:Int):Prop:=∃k,Be W x k/\(W.A2 k).set=name
def F3(W:A4)(name:ByteArray)(start origin:Int):Prop:=∃n e,Steps W name start n e/\¬FN W name e/\n=ownN W name W.pn/\e=origin
theorem Steps.det{W:A4}{name:ByteArray}{start:Int}:∀{n:Nat} {x y:Int},Steps W name start n x->Steps W name start n y->x=y
 | 0,_,_,.zero,.zero=>rfl
 | n+1,_,_,.next h hk _,.next h' hk' _=>by
  have e:=Steps.det h h';subst e;rw[Be.uniq hk hk']
theorem Steps.less{W:A4}{name:ByteArray}{start:Int}:∀{n m:Nat} {x:Int},Steps W name start m x->n<m->∃y,Steps W name start n y/\FN W name y
 | n,0,_,_,h=>absurd h (Nat.not_lt_zero _)
 | n,m+1,_,.next (x:=x) h hk hs,hl=>by
  by_cases e:n=m
  ·subst e;exact⟨x,h,_,hk,hs⟩
  ·exact Steps.less h (by omega)
theorem Steps.end{start:Int}{m:Nat}(h:Steps W name start n x)(f:¬FN W name x)(b:Steps W name start m y)(g:¬FN W name y):n=m/\x=y:=by
 have e:n=m:=by
  rcases Nat.lt_trichotomy n m with a | a | a
  ·obtain⟨z,d,c⟩:=b.less a;rw[h.det d]at f;exact absurd c f
  ·exact a
  ·obtain⟨z,d,c⟩:=h.less a;rw[b.det d]at g;exact absurd c g
 subst e;exact⟨rfl,h.det b⟩
theorem V5{start origin:Int}(h:Steps W name start n x)(c:¬FN W name x):F3 W name start origin↔n=ownN W name W.pn/\x=origin:=by
 constructor
 ·rintro⟨m,y,hs,d,a,b⟩;obtain⟨rfl,rfl⟩:=h.end c hs d;exact⟨a,b⟩
 ·rintro⟨a,b⟩;exact⟨n,x,h,c,a,b⟩
theorem CT.no(h:CT W x):∃k,Be W x k:=R6 (Nat.le_refl _) h
structure G3 (W:A4):Prop where
 ids:∀k,k<W.pn->1<=(W.A2 k).id/\(W.A2 k).id<900000
 A6:∀k,k<W.pn->(W.A2 k).A6=0\/CT W (W.A2 k).A6
 less:∀k,k<W.pn->(W.A2 k).A6<(W.A2 k).id
 A1:∀k,k<W.sn->(W.A1 k).A6=0\/CT W (W.A1 k).A6
 Ap:∀k,k<W.sn->(W.A1 k).name.toList.isEmpty=false
theorem G3.pos(h:G3 W):NQ W:=fun k a=>(h.ids k a).1
theorem CT.range(h:G3 W)(b:CT W x):1<=x/\x<900000:=by
 obtain⟨k,a,rfl⟩:=b;exact h.ids k a
theorem Rs(h:Bp s):s.toList.isEmpty=false:=by
 have:=h.1;rw[Go.ByteArray.toList_eq];cases s with
 | mk d=>
  cases hd:d.toList with
  | nil=>
   have b:d.size=0:=(by rw[<-Array.length_toList,hd];rfl);have c:1<=d.size:=this;omega
  | cons a l=>simp
theorem EG.EM(h:EG W):G3 W where
 ids:=fun k a=>⟨(h.2.2.2.2.2 k a).1.1,by have:=(h.2.2.2.2.2 k a).1.2.1;have:=h.2.1.2;omega⟩
 A6:=fun k a=>by
  by_cases e:(W.A2 k).A6=0
  ·exact Or.inl e
  ·exact Or.inr ((h.2.2.2.2.2 k a).2.1.2 e).2
 less:=fun k a=>by
  by_cases e:(W.A2 k).A6=0
  ·have:=(h.2.2.2.2.2 k a).1.1;omega
  ·exact((h.2.2.2.2.2 k a).2.1.2 e).1
 A1:=fun k a=>by
  by_cases e:(W.A1 k).A6=0
  ·exact Or.inl e
  ·exact Or.inr ((h.2.2.2.2.1 k a).2.2.1 e)
 Ap:=fun k a=>Rs (h.2.2.2.2.1 k a).1
structure ER (W:A4) (name:ByteArray) (start:Int) (n:Nat) (x:Int):Prop where
 steps:Steps W name start n x
 there:x=0\/CT W x
 least:0<=x
 sum:(n:Int)+x<=900000
theorem ER.start(h:G3 W)(name:ByteArray)(a:x=0\/CT W x):ER W name x 0 x where
 steps:=.zero
 there:=a
 least:=by rcases a with rfl | a;exact Int.le_refl _;have:=a.range h;omega
 sum:=by rcases a with rfl | a;decide;have:=a.range h;omega
theorem ER.next(h:G3 W){start:Int}(b:ER W name start n x)(a:Be W x k)(hs:(W.A2 k).set=name):ER W name start (n+1) (W.A2 k).A6 where
 steps:=b.steps.next a hs
 there:=h.A6 k a.1
 least:=by rcases h.A6 k a.1 with e | e;omega;have:=e.range h;omega
 sum:=by have c:=h.less k a.1;have d:=b.sum;have f:=a.2.1;omega
theorem Z7(h:G3 W)(name:ByteArray):¬FN W name 0:=fun ⟨k,hk,_⟩=>by
 have:=(h.ids k hk.1).1;have:=hk.2.1;omega
theorem Xv(a:Be W x k)(hs:¬(W.A2 k).set=name):¬FN W name x:=fun ⟨j,hj,e⟩=>hs (by rw[Be.uniq a hj];exact e)
variable{m:List (Int×Int)}
theorem Q3(a:k<l.length)(h:(AK l k,AM l k)∈m):BX (l.take (k+1)) m=BX (l.take k) m:=by
 unfold AK AM at h;rw[Cz a]at h;unfold BX;rw[List.take_succ_eq_append_getElem a,List.filter_append,List.filter_cons];simp only[List.filter_nil];rw[if_neg (by simp;exact h),List.append_nil]
theorem QU(a:k<l.length)(h:(AK l k,AM l k)∉m):BX (l.take (k+1)) m=BX (l.take k) m ++ [(AK l k,AM l k)]:=by
 unfold AK AM at h ⊢;rw[Cz a]at h ⊢;unfold BX;rw[List.take_succ_eq_append_getElem a,List.filter_append,List.filter_cons];simp only[List.filter_nil];rw[if_pos (by simp;exact h)]
theorem V1(l m:List (Int×Int))(k:Nat):(BX (l.take k) m).length<=k:=by
 unfold BX;exact Nat.le_trans (List.length_filter_le _ _) (by rw[List.length_take];omega)
def Ek(W:A4)(i:Nat):Prop:=Fy (treeM W (A8 W i)) (oldM W (A8 W i)) (AI W (A8 W i).A6).time (A8 W i).time
theorem Ej.snap(h:Ej W)(a:k<W.pn):Ay W.pool (W.A2 k).rs (W.A2 k).rb:=by
 have:=h.tree k (by unfold memN;omega);rw[Co a]at this;exact this
theorem Ej.set(h:Ej W)(a:k<W.sn):Ay W.pool (W.A1 k).rs (W.A1 k).rb:=by
 have:=h.tree (W.pn+k) (by unfold memN;omega);rw[Cp]at this;exact this
def KN(W:A4)(s:Nat):Prop:=∃m,m<memN W/\∃b,((s:Int),b)∈treeM W (A8 W m)
def DG(W:A4)(i:Nat):Int×Int:=if i<W.sn then((W.A1 i).rs,(W.A1 i).rb)else((W.A2 (i - W.sn)).rs,(W.A2 (i - W.sn)).rb)
def F0(W:A4)(n:Nat):List (Int×Int):=(List.range n).map (DG W)
theorem Of(W:A4)(n:Nat):(F0 W n).length=n:=by simp[F0]
theorem Yi(W:A4)(n:Nat):F0 W (n+1)=F0 W n ++ [DG W n]:=by simp[F0,List.range_succ]
theorem OO(h:i<W.sn):DG W i=((W.A1 i).rs,(W.A1 i).rb):=if_pos h
theorem Oe(W:A4)(i:Nat):DG W (W.sn+i)=((W.A2 i).rs,(W.A2 i).rb):=by
 unfold DG;rw[if_neg (by omega),show W.sn+i - W.sn=i by omega]
theorem XB(h:i<n):AK (F0 W n) i=(DG W i).1/\AM (F0 W n) i=(DG W i).2:=by
 unfold AK AM;rw[Cz (by rw[Of];exact h)];simp[F0]
theorem zFn(a:Ej W)(hi:i<W.sn+W.pn):Ay W.pool (DG W i).1 (DG W i).2:=by
 by_cases h:i<W.sn
 ·rw[OO h];exact a.set h
 ·have:=Oe W (i - W.sn);rw[show W.sn+(i - W.sn)=i by omega]at this;rw[this];exact a.snap (by omega)
variable{s:Nat}
theorem zB4:KN W s↔∃i,i<W.sn+W.pn/\∃b,((s:Int),b)∈AF W.pool (DG W i).1 (DG W i).2:=by
 unfold KN memN treeM;constructor
 ·rintro⟨m,c,b,h⟩;by_cases a:m<W.pn
  ·rw[Co a]at h;exact⟨W.sn+m,by omega,b,by rw[Oe];exact h⟩
  ·have e:=Cp W (m - W.pn);rw[show W.pn+(m - W.pn)=m by omega]at e;rw[e]at h;exact⟨m - W.pn,by omega,b,by rw[OO (by omega)];exact h⟩
 ·rintro⟨i,hi,b,h⟩;by_cases hs:i<W.sn
  ·rw[OO hs]at h;exact⟨W.pn+i,by omega,b,by rw[Cp];exact h⟩
  ·have e:=Oe W (i - W.sn);rw[show W.sn+(i - W.sn)=i by omega]at e;rw[e]at h;exact⟨i - W.sn,by omega,b,by rw[Co (by omega)];exact h⟩
def yB(W:A4)(k:Nat)(l:List (Int×Int))(j s:Nat):Prop:=(∃i,i<k/\∃b,((s:Int),b)∈AF W.pool (DG W i).1 (DG W i).2)\/∃q,q<j/\AK l q=(s:Int)
def La(W:A4)(k:Nat)(l:List (Int×Int))(j:Nat)(f:Nat->Bool):Prop:=∀s,f s=true↔yB W k l j s
variable{j:Nat}{f:Nat->Bool}
theorem zAe(h:La W k l j f)(hs:AK l j=(s:Int)):La W k l (j+1) (fun i=>if i=s then true else f i):=by
 intro i;show(if i=s then true else f i)=true↔_;by_cases e:i=s
 ·subst e;rw[if_pos rfl];exact⟨fun _=>Or.inr ⟨j,by omega,hs⟩,fun _=>rfl⟩
 ·rw[if_neg e,h i];constructor
  ·rintro(h | ⟨q,a,h⟩)
   ·exact Or.inl h
   ·exact Or.inr ⟨q,by omega,h⟩
  ·rintro(h | ⟨q,a,h⟩)
   ·exact Or.inl h
   ·by_cases eq:q=j
    ·subst eq;exact absurd (by omega) e
    ·exact Or.inr ⟨q,by omega,h⟩
theorem zAf(h:La W k l l.length f)(d:l=AF W.pool (DG W k).1 (DG W k).2):La W (k+1) [] 0 f:=by
 intro s;rw[h s];constructor
 ·rintro(⟨i,hi,h⟩ | ⟨q,a,e⟩)
  ·exact Or.inl ⟨i,by omega,h⟩
  ·refine Or.inl ⟨k,by omega,(l[q]).2,?_⟩;unfold AK at e;rw[Cz a]at e;rw[<-d,<-e];exact List.getElem_mem a
 ·rintro(⟨i,hi,b,c⟩ | ⟨q,a,e⟩)
  ·by_cases e:i=k
   ·subst e;rw[<-d]at c;obtain⟨q,a,e⟩:=List.getElem_of_mem c;exact Or.inr ⟨q,a,by unfold AK;rw[Cz a,e]⟩
   ·exact Or.inl ⟨i,by omega,b,c⟩
  ·omega
theorem UD(b:AY p)(c:Ay p rs rb)(a:j<(AF p rs rb).length):∃s:Nat,AK (AF p rs rb) j=(s:Int)/\s<p.n:=by
 unfold AK;rw[Cz a];have:=(EE b c (List.getElem_mem a)).1;obtain⟨_,d,e,_⟩:=this;exact⟨((AF p rs rb)[j]).1.toNat,by omega,by omega⟩
theorem As.grown{w1:World}{b:Nat}{v0 v1 v2 v3 v4 v5:Value}{row:Option Nat}(h:As w b v0 v1 v2 v3 v4 v5)(a:w.grownBy w1 row)(c:∀q,row=some q->b≠q):As w1 b v0 v1 v2 v3 v4 v5:=by
 have f:b<w.heap.size:=h.1.lt;refine h.AD (S:=fun k=>row=some k) ⟨a.os,a.tape,a.output,a.size,fun k d hs=>a.block k d (fun e=>hs e.symm)⟩ (fun e=>c b e rfl)
def Q9(W:A4)(k:Nat):Prop:=∀i,i<k->∀j,j<i->∀x,x∈CC W (A8 W i)->∀y,y∈CC W (A8 W j)->x.1≠y.1
def Kb(W:A4)(k:Nat)(now old:List (Int×Int))(j:Nat):Prop:=∀q,q<j->(AK now q,AM now q)∉old->∀i,i<k->∀y,y∈CC W (A8 W i)->AK now q≠y.1
def yC(W:A4)(k:Nat)(now old:List (Int×Int))(j s:Nat):Prop:=(∃i,i<k/\∃b,((s:Int),b)∈CC W (A8 W i))\/∃q,q<j/\AK now q=(s:Int)/\(AK now q,AM now q)∉old
def FT(W:A4)(k:Nat)(now old:List (Int×Int))(j:Nat)(f:Nat->Bool):Prop:=∀s,f s=true↔yC W k now old j s
variable{a b:List (Int×Int)}
theorem zBV(h:Q9 W k)(hn:a=treeM W (A8 W k))(n:b=oldM W (A8 W k))(o:Kb W k a b a.length):Q9 W (k+1):=by
 intro i hi j f x l y m;by_cases e:i=k
 ·subst e;obtain⟨c,d⟩:=List.mem_filter.1 l;rw[<-hn]at c;rw[<-n]at d;obtain⟨q,g,e⟩:=List.getElem_of_mem c;have:=o q g;unfold AK AM at this;rw[Cz g,e]at this;exact this (by simpa using d) j f y m
 ·exact h i (by omega) j f x l y m
theorem zE1(h:FT W k a b j f)(c:(AK a j,AM a j)∈b):FT W k a b (j+1) f:=by
 intro s;rw[h s];constructor
 ·rintro(h | ⟨q,i,h⟩)
  ·exact Or.inl h
  ·exact Or.inr ⟨q,by omega,h⟩
 ·rintro(h | ⟨q,i,g,d⟩)
  ·exact Or.inl h
  ·by_cases e:q=j
   ·subst e;exact absurd c d
   ·exact Or.inr ⟨q,by omega,g,d⟩
theorem zE0(h:FT W k a b j f)(hs:AK a j=(s:Int))(c:(AK a j,AM a j)∉b):FT W k a b (j+1) (fun i=>if i=s then true else f i):=by
 intro i;show(if i=s then true else f i)=true↔_;by_cases e:i=s
 ·subst e;rw[if_pos rfl];exact⟨fun _=>Or.inr ⟨j,by omega,hs,c⟩,fun _=>rfl⟩
 ·rw[if_neg e,h i];constructor
  ·rintro(h | ⟨q,g,h⟩)
   ·exact Or.inl h
   ·exact Or.inr ⟨q,by omega,h⟩
  ·rintro(h | ⟨q,g,h,d⟩)
   ·exact Or.inl h
   ·by_cases eq:q=j
    ·subst eq;exact absurd (by omega) e
    ·exact Or.inr ⟨q,by omega,h,d⟩
theorem zFu(h:Kb W k a b j)(c:(AK a j,AM a j)∈b):Kb W k a b (j+1):=by
 intro q d;by_cases e:q=j
 ·subst e;exact fun h=>absurd c h
 ·exact h q (by omega)
theorem zFr(h:Kb W k a b j)(d:FT W k a b j f)(hs:AK a j=(s:Int))(g:f s=false):Kb W k a b (j+1):=by
 intro q m;by_cases e:q=j
 ·subst e;intro _ i hi y l c;have:f s=true:=(d s).2 (Or.inl ⟨i,hi,y.2,by rw[<-hs,c];exact l⟩);rw[g]at this;exact absurd this (by simp)
 ·exact h q (by omega)
theorem zE3{g:List (Int×Int)}(h:FT W k a g a.length f)(hn:a=treeM W (A8 W k))(m:g=oldM W (A8 W k)):FT W (k+1) [] [] 0 f:=by
 intro s;rw[h s];constructor
 ·rintro(⟨i,hi,h⟩ | ⟨q,d,e,c⟩)
  ·exact Or.inl ⟨i,by omega,h⟩
  ·refine Or.inl ⟨k,by omega,(a[q]).2,?_⟩;unfold AK AM at c;unfold AK at e;rw[Cz d]at e c;refine List.mem_filter.2 ⟨?_,?_⟩
   ·rw[<-hn,<-e];exact List.getElem_mem d
   ·rw[<-m,<-e];simpa using c
 ·rintro(⟨i,hi,b,c⟩ | ⟨q,d,_⟩)
  ·by_cases e:i=k
   ·subst e;obtain⟨j,l⟩:=List.mem_filter.1 c;rw[<-hn]at j;rw[<-m]at l;obtain⟨q,d,e⟩:=List.getElem_of_mem j;refine Or.inr ⟨q,d,?_⟩;unfold AK AM;rw[Cz d,e];exact⟨rfl,by simpa using l⟩
   ·exact Or.inl ⟨i,by omega,b,c⟩
  ·omega
theorem zAO(h:FT W k [] [] 0 f)(a b:List (Int×Int)):FT W k a b 0 f:=by
 intro s;rw[h s];constructor
 ·rintro(h | ⟨q,c,_⟩)
  ·exact Or.inl h
  ·omega
 ·rintro(h | ⟨q,c,_⟩)
  ·exact Or.inl h
  ·omega
theorem zAP{c:List (Int×Int)}(d:Ej W)(n:k<memN W)(hn:a=treeM W (A8 W k))(v:c=oldM W (A8 W k))(t:FT W k a c j f)(m:j<a.length)(hs:AK a j=(s:Int))(g:(AK a j,AM a j)∉c)(u:f s=true):¬Ig W:=by
 intro r;rcases(t s).1 u with⟨i,hi,b,h⟩ | ⟨q,w,e,y⟩
 ·refine r k n i hi (AK a j,AM a j) ?_ _ h hs;refine List.mem_filter.2 ⟨?_,by rw[<-v];simpa using g⟩;rw[<-hn];unfold AK AM;rw[Cz m];exact List.getElem_mem m
 ·have o:=L7 d.right (l:=a) (fun x p=>by rw[hn]at p;exact(EE d.right (d.tree k n) p).1) (by rw[hn];exact L8 d.right (d.tree k n)) (by rw[hn];have:=DX W.pool (A8 W k).rs (A8 W k).rb;unfold treeM;omega);exact o.2.2 j m q w (by rw[e,hs])
end
end Go.Proofs.YtehdoekmnicdiaaGreatDoor

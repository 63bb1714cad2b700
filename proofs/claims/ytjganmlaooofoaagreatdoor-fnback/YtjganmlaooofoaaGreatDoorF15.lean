/- A part of the proof. -/
import Derived.Test.YtjganmlaooofoaaGreatDoorF14
import Derived.ProofKit
set_option linter.unusedVariables false
set_option maxRecDepth 20000
set_option maxHeartbeats 4000000
namespace Go.Proofs.YtjganmlaooofoaaGreatDoor
open Go.RowKit Go.Maps
theorem zi{P:Prop}(h:P):Hid P:=h
theorem qn.cellsD{w:World}{lo hi:Nat}{a:Option Addr}{n c:Nat}{f g:Nat->Int}(h:qn w lo hi (.slice a n c) n f g){k:Nat}(hk:k<n):∃b off,a=some ⟨b,off,none⟩/\w.cell? ⟨b,off+k*2,none⟩=some (.int .i64 (f k))/\w.cell? ⟨b,off+k*2+1,none⟩=some (.int .i64 (g k)):=by
 obtain⟨_,a2,c2,hv,_,hx⟩:=h;simp only[Value.slice.injEq,true_and]at hv;obtain⟨rfl,rfl⟩:=hv;obtain⟨b,off,ha,_,_,h3⟩:=hx (by omega);exact⟨b,off,ha,(h3 k hk).1,(h3 k hk).2⟩
theorem zQs(x y:Int)(w:World):Calls Tryz.prog 184 #[.agg #[.int .i64 x,.int .i64 y]] w fun e w'=>zL (zHK x y) e/\Below w.heap.size w w':=by
 have aA:=zD w (.cells #[.int .i64 x,.int .i64 y] 38);by_cases h1:0<=x
 ·by_cases h2:x<200
  ·by_cases h3:zBW y
   ·have H:=zi (show zHK x y from⟨h1,by omega,h3.1,h3.2⟩);have H3:=zi h3;clear h3;go_enter Tryz.func184,Tryz.ntmps184;go_wp2_with (first | (go_at_call 179;refine(zAm y _).mono ?_;rintro e w1 ⟨⟨t,rfl,ht⟩,rfl⟩;obtain rfl:t=true:=ht.2 H3.out;clear ht) | fail);go_wp2;go_ret;exact⟨zL.yes H.out,aA⟩
   ·have H:=zi (show ¬zHK x y from fun h=>h3 ⟨h.2.2.1,h.2.2.2⟩);have H3:=zi h3;clear h3;go_enter Tryz.func184,Tryz.ntmps184;go_wp2_with (first | (go_at_call 179;refine(zAm y _).mono ?_;rintro e w1 ⟨⟨t,rfl,ht⟩,rfl⟩;obtain rfl:t=false:=qj ht H3.out;clear ht) | fail);go_wp2;go_ret;exact⟨zL.no H.out,aA⟩
  ·go_enter Tryz.func184,Tryz.ntmps184;go_wp2;go_ret;exact⟨zL.no fun h=>by have:=h.2.1;omega,aA⟩
 ·go_enter Tryz.func184,Tryz.ntmps184;go_wp2;go_ret;exact⟨zL.no fun h=>by have:=h.1;omega,aA⟩
theorem zcz:Keyed Tryz.prog 2:=int_keyed (q:=.i64) (by kernel_rfl)
theorem zZO:Tryz.prog.underlying 210=some (.map 2 2):=by kernel_rfl
theorem za7:Tryz.prog.underlying 2=some (.int .i64):=by kernel_rfl
theorem zd7(w:World):(zeroValue 2).run Tryz.prog w = .ok (.int .i64 0) w:=by kernel_rfl
theorem zN5{x:Int}(h0:0<=x)(h1:x<=1000000):(Lit.int .i64 x).wf=true:=WalkArith.wf_i64 (by omega)
def zXp(w:World)(B n:Nat)(D:DataW Unit):Prop:=w.ownsMap Tryz.prog 2 (plainElem Tryz.prog 2) B n D
theorem zIp(v:Value)(n lo hi:Nat)(f g:Nat->Int)(w:World)(h1:qn w lo hi v n f g)(hn:n<=200)(jA:∀i,i<n->zHK (f i) (g i)) :
  Calls Tryz.prog 183 #[v] w fun e w'=>e = .returned (.map (some w.heap.size))/\zXp w' w.heap.size n (seenD f g n)/\Below w.heap.size w w':=by
 have Hp:=zi h1;have gA:=zi jA;obtain⟨m1,a,c,rfl,mc,_⟩:=id h1;clear h1 jA;have nA:=@run_makeMap Tryz.prog;go_enter Tryz.func183,Tryz.ntmps183;go_wp2
 go_loopw [9] (fun i wr=>∃k:Nat,k<=n/\i = .int .i64 k/\zXp wr w.heap.size k (seenD f g k)/\Below w.heap.size w wr) (fun i _=>n - (intOf i).toNat)
 case atStart=>exact⟨0,Nat.zero_le _,rfl,World.ownsMap_made _ _ _ _,(Below.refl _ _).alloc (Nat.le_refl _) _⟩
 case round=>
  obtain⟨k,hk,rfl,eA,hb⟩:=hrel;have bA:=zi eA;clear eA;by_cases dA:k<n
  ·have mA:(k:Int)<(n:Int):=(by omega);obtain⟨b,off,rfl,q0,q1⟩:=(Hp.out.zeF hb).cellsD dA;have cA:keyOf Tryz.prog 2 (.int .i64 (f k))=some (zEg (f k)):=keyOf_int_mk za7 (zN5 (gA.out k dA).1 (by have:=(gA.out k dA).2.1;omega));have kA:=zN5 (x:=g k) (by have:=(gA.out k dA).2.2.1;omega) (gA.out k dA).2.2.2;have iA:=zi cA;have lA:=zi kA;clear cA kA;go_wp2_with (first
    | (at_mapUpdate;refine wpList_mapUpdate_own _ rfl _ _ _ 210 rfl 2 2 zcz zZO _ w.heap.size k _ rfl (bA.out.alloc _) (by unfold maxLen;omega) _ _ _ rfl rfl iA.out _ [] (plainElem_int za7 lA.out) ?_;intro w1 fA aA)
    | go_in)
   go_roundw
   case rel=>exact⟨k+1,by omega,by go_num,fA,(hb.alloc hb.size _).grown aA (by rw[World.size_alloc];have:=hb.size;omega) (fun j hj=>by cases hj;exact Nat.le_refl _)⟩
   case measure=>simp[intOf];omega
  ·obtain rfl:k=n:=(by omega);go_wp2;go_ret;exact⟨rfl,bA.out,hb⟩
theorem zAf(v:Value)(n lo hi:Nat)(f g:Nat->Int)(w:World)(h1:qn w lo hi v n f g) :
  Calls Tryz.prog 168 #[v] w fun e w'=>zL (zA4 n f g) e/\Below w.heap.size w w':=by
 have Hp:=zi h1;obtain⟨m1,a,c,rfl,mc,_⟩:=id h1;clear h1;unfold maxLen at m1;by_cases hn:n<=200
 ·have lA:¬(200:Int)<(n:Int):=(by omega);go_enter Tryz.func168,Tryz.ntmps168;go_wp2
  go_loopw [10] (fun i wr=>∃k:Nat,k<=n/\i = .int .i64 k/\(∀i,i<k->zHK (f i) (g i))/\Below w.heap.size w wr) (fun i _=>n - (intOf i).toNat)
  case atStart=>exact⟨0,Nat.zero_le _,rfl,fun j hj=>absurd hj (Nat.not_lt_zero _),Below.refl _ _⟩
  case round=>
   obtain⟨k,hk,rfl,cA,hb⟩:=hrel;have aA:=zi cA;clear cA;by_cases fA:k<n
   ·have kA:(k:Int)<(n:Int):=(by omega);obtain⟨b,off,rfl,q0,q1⟩:=(Hp.out.zeF hb).cellsD fA;have gA:=zA hb (zD wr (.cells #[.int .i64 (f k),.int .i64 (g k)] 38));go_wp2_with fail;refine(zQs (f k) (g k) _).mono ?_;rintro e w1 ⟨⟨t,rfl,ht⟩,dA⟩;have eA:=zA gA dA;clear dA gA q0 q1;by_cases bA:zHK (f k) (g k)
    ·have Hk:=zi bA;obtain rfl:t=true:=ht.2 bA;clear ht bA;go_wp2;go_roundw
     case rel=>exact⟨k+1,by omega,by go_num,yJ fA aA.out Hk.out,eA⟩
     case measure=>simp[intOf];omega
    ·have Hk:=zi bA;obtain rfl:t=false:=qj ht bA;clear ht bA;go_wp2;go_ret;exact⟨zL.no fun h=>Hk.out (h.2.1 k fA),eA⟩
   ·obtain rfl:k=n:=(by omega);go_wp2_with fail;refine(zIp _ k lo hi f g _ (Hp.out.zeF hb) hn aA.out).mono ?_;rintro e w1 ⟨rfl,hm,dA⟩;have eA:=zA hb dA;have Hm:=zi hm;have mA:=zK7 f g k;clear hm dA;obtain⟨nA,iA⟩:=mA;have jA:=zi iA;clear iA;go_wp2_with (first
     | (at_len;refine wpList_len_own _ rfl _ 210 rfl 2 2 zZO _ wr.heap.size k _ rfl Hm.out ?_)
     | go_in)
    go_ret;refine⟨⟨_,rfl,?_⟩,eA⟩;have Ho:=jA.out;have Ha:=aA.out;simp only[beq_iff_eq,Int.natCast_inj];exact Ho.trans ⟨fun h=>⟨hn,Ha,h⟩,fun h=>h.2.2⟩
 ·have lA:(200:Int)<(n:Int):=(by omega);go_enter Tryz.func168,Tryz.ntmps168;go_wp2;go_ret;exact⟨zL.no fun h=>hn h.1,Below.refl _ _⟩
def zGl(n a b:Int):Prop:=a<=n/\n<=b
structure zF3 where
 zeL:Int
 time:Int
 rs:Int
 rb:Int
 dn:Nat
 ds:Nat->Int
 db:Nat->Int
def zZP(s:zl):zF3:=⟨s.zeL,s.time,s.rs,s.rb,s.dn,s.ds,s.db⟩
def zUI(t:Int)(s:qi):zF3:=⟨s.zeL,t,s.rs,s.rb,s.dn,s.ds,s.db⟩
def zI(W:zB)(i:Nat):zF3:=if i<W.pn then zZP (W.zeJ i)else zUI W.time (W.zeK (i - W.pn))
def memN(W:zB):Nat:=W.pn+W.sn
theorem zx{W:zB}{i:Nat}(h:i<W.pn):zI W i=zZP (W.zeJ i):=if_pos h
theorem qN(W:zB)(i:Nat):zI W (W.pn+i)=zUI W.time (W.zeK i):=by
 unfold zI;rw[if_neg (by omega),show W.pn+i - W.pn=i by omega]
def zAV:zl:=⟨0,ByteArray.empty,ByteArray.empty,0,0,0,0,0,fun _=>0,fun _=>0⟩
open Classical in
noncomputable def zE(W:zB)(x:Int):zl:=if h:∃k,yV W x k then W.zeJ h.choose else zAV
theorem yQ{W:zB}{x:Int}{k:Nat}(h:yV W x k):zE W x=W.zeJ k:=by
 unfold zE;rw[dif_pos ⟨k,h⟩,yV.uniq (Exists.choose_spec (⟨k,h⟩:∃k,yV W x k)) h]
theorem zGq{W:zB}{x:Int}(h:∀k,k<W.pn->(W.zeJ k).id≠x):zE W x=zAV:=by
 unfold zE;rw[dif_neg];rintro⟨k,hk⟩;exact h k hk.1 hk.2.1
theorem zLA{W:zB}{x:Int}:∀{n:Nat},n<=W.pn->(∃k,k<n/\(W.zeJ k).id=x)->∃k,yV W x k
 | 0,_,⟨k,hk,_⟩=>absurd hk (Nat.not_lt_zero _)
 | n+1,hn,⟨k,hk,e⟩=>by
  by_cases h:∃j,j<n/\(W.zeJ j).id=x
  ·exact zLA (by omega) h
  ·have:k=n:=by
    by_cases h':k<n
    ·exact absurd ⟨k,h',e⟩ h
    ·omega
   subst this;exact⟨k,by omega,e,fun j hj he=>h ⟨j,hj,he⟩⟩
def treeM(W:zB)(m:zF3):List (Int×Int):=zM W.pool m.rs m.rb
noncomputable def oldM(W:zB)(m:zF3):List (Int×Int):=zM W.pool (zE W m.zeL).rs (zE W m.zeL).rb
def zB3(l m:List (Int×Int)):List (Int×Int):=l.filter (fun x=>decide (x∉m))
def yd(l m:List (Int×Int)):List (Int×Int):=l.filter (fun x=>decide (x∈m))
def zBq(l:List (Int×Int))(t:Int):List (Int×Int):=l.filter (fun x=>decide (t<x.2))
noncomputable def zDI(W:zB)(m:zF3):List (Int×Int):=zB3 (treeM W m) (oldM W m)
noncomputable def zBR(W:zB)(m:zF3):List (Int×Int):=zBq (treeM W m) (zE W m.zeL).time
def zD8(n:Nat)(f g:Nat->Int)(l:List (Int×Int)):Prop:=zGJ n f g l.length (zh l) (zn l)
def zHU(now old:List (Int×Int))(t tm:Int):Prop:=∀x,x∈now->x.2<=tm/\(x∈old↔x.2<=t)
def zOh(W:zB)(m:zF3):Prop:=zD8 m.dn m.ds m.db (zB3 (oldM W m) (treeM W m))/\zHU (treeM W m) (oldM W m) (zE W m.zeL).time m.time
def zbo(W:zB)(m:zF3):Prop:=m.rb<=m.time/\zD8 (zBR W m).length (zh (zBR W m)) (zn (zBR W m)) (zDI W m)/\zD8 m.dn m.ds m.db (zB3 (oldM W m) (yd (treeM W m) (oldM W m)))
theorem zWq(l m:List (Int×Int)):zB3 m (yd l m)=zB3 m l:=by
 unfold zB3 yd;refine List.filter_congr fun x hx=>?_
 rw[decide_eq_decide];simp only[List.mem_filter,decide_eq_true_eq];exact⟨fun h h'=>h ⟨h',hx⟩,fun h h'=>h h'.1⟩
theorem zBS{l:List (Int×Int)}{i:Nat}(h:i<l.length):l.getD i (0,0)=l[i]:=by
 rw[List.getD_eq_getElem?_getD,List.getElem?_eq_getElem h,Option.getD_some]
theorem zFd{l:List (Int×Int)}{x y:Int}:PIn l.length (zh l) (zn l) x y↔(x,y)∈l:=by
 constructor
 ·rintro⟨j,hj,e1,e2⟩;unfold zh at e1;unfold zn at e2;rw[zBS hj]at e1 e2;have:l[j]=(x,y):=Prod.ext e1 e2;exact this▸List.getElem_mem hj
 ·intro h;obtain⟨j,hj,e⟩:=List.getElem_of_mem h;exact⟨j,hj,by unfold zh;rw[zBS hj,e],by unfold zn;rw[zBS hj,e]⟩
structure zFo (W:zB):Prop where
 right:zg W.pool
 ids:∀k,k<W.pn->(W.zeJ k).zeL<(W.zeJ k).id
 tree:∀i,i<memN W->za W.pool (zI W i).rs (zI W i).rb
 time:∀i,i<memN W->0<=(zI W i).time
theorem zBc{p:zF}{rs rb:Int}(hR:zg p)(hT:za p rs rb){x:Int×Int}(hx:x∈zM p rs rb):qp p x.1 x.2/\x.2<=rb/\¬Has p.hn p.h x.1:=by
 rcases(zKQ hR).2 hT with hz | ⟨hP,_,hA⟩
 ·rw[zM,if_pos hz]at hx;simp at hx
 ·have:=zFy hR hP x hx;exact⟨this.1,this.2,hA.2 x hx⟩
theorem zDB{p:zF}{rs rb:Int}(hR:zg p)(hT:za p rs rb):(zM p rs rb).Nodup:=by
 rcases(zKQ hR).2 hT with hz | ⟨hP,_,hA⟩
 ·rw[zM,if_pos hz];exact List.nodup_nil
 ·exact hA.1
theorem zXE{p:zF}{x y:Int}(hR:zg p)(h:qp p x y):zHK x y:=by
 have hf:=zAg hR h;have h1:=hR.1;obtain⟨a,b,c,d⟩:=h;have:=hf.1.2;exact⟨b,by omega,a,by omega⟩
theorem zDn{p:zF}(hR:zg p){l:List (Int×Int)}(h:∀x,x∈l->qp p x.1 x.2)(hn:l.Nodup)(hl:l.length<=200):zA4 l.length (zh l) (zn l):=by
 have hs:=(zKv h).2 hn;refine⟨hl,fun i hi=>?_,fun i hi k hk=>?_⟩
 ·unfold zh zn;rw[zBS hi];exact zXE hR (h _ (List.getElem_mem hi))
 ·unfold zh;rw[zBS hi,zBS (show k<l.length by omega)];unfold zCr List.Nodup at hs;rw[List.pairwise_map]at hs;exact List.pairwise_iff_getElem.1 hs k i (by omega) hi hk
theorem zQr{p:zF}(hR:zg p){T:List (Int×Int)}(hT:∀x,x∈T->qp p x.1 x.2)(hn:T.Nodup)(hl:T.length<=200)(P Q:Int×Int->Bool) :
  zD8 (T.filter P).length (zh (T.filter P)) (zn (T.filter P)) (T.filter Q)↔∀x,x∈T->P x=Q x:=by
 constructor
 ·rintro⟨_,_,aA,cA⟩;have h1:∀x,x∈T->P x=true->Q x=true:=fun x hx hp=>by
   have hm:x∈T.filter P:=List.mem_filter.2 ⟨hx,hp⟩;obtain⟨j,hj,e⟩:=List.getElem_of_mem hm;have:=cA j hj;rw[zFd]at this;unfold zh zn at this;rw[zBS hj,e]at this;exact(List.mem_filter.1 this).2
  have h2:(T.filter Q).filter P=T.filter P:=by
   rw[List.filter_filter];refine List.filter_congr fun x hx=>?_
   cases hp:P x
   ·rfl
   ·rw[h1 x hx hp];rfl
  have h3:((T.filter Q).filter P).length=(T.filter Q).length:=(by rw[h2,aA]);rw[List.length_filter_eq_length_iff]at h3;intro x hx;cases hq:Q x
  ·cases hp:P x
   ·rfl
   ·rw[h1 x hx hp]at hq;exact absurd hq (by simp)
  ·exact h3 x (List.mem_filter.2 ⟨hx,hq⟩)
 ·intro h;have e:T.filter P=T.filter Q:=List.filter_congr h;rw[e];have bA:zA4 (T.filter Q).length (zh (T.filter Q)) (zn (T.filter Q)):=zDn hR (fun x hx=>hT x (List.mem_filter.1 hx).1) (hn.filter _) (Nat.le_trans (List.length_filter_le _ _) hl);exact⟨bA,bA,rfl,fun i hi=>⟨i,hi,rfl,rfl⟩⟩
theorem zNP{W:zB}(h:zFo W){i:Nat}(hi:i<memN W):zbo W (zI W i)↔zOh W (zI W i):=by
 generalize hm:zI W i=m;have hT:=h.tree i hi;have eA:=h.time i hi;rw[hm]at hT eA;have bA:(treeM W m).length<=200:=by have:=qx W.pool m.rs m.rb;unfold treeM;omega
 have fA:∀x,x∈treeM W m->qp W.pool x.1 x.2:=fun x hx=>(zBc h.right hT hx).1
 unfold zbo zOh;rw[zWq];have key:zD8 (zBR W m).length (zh (zBR W m)) (zn (zBR W m)) (zDI W m)↔∀x,x∈treeM W m->(x∈oldM W m↔x.2<=(zE W m.zeL).time):=by
  unfold zBR zDI zBq zB3;rw[zQr h.right fA (zDB h.right hT) bA];refine⟨fun hh x hx=>?_,fun hh x hx=>?_⟩
  ·have:=hh x hx;rw[decide_eq_decide]at this;constructor
   ·intro aA;by_cases dA:(zE W m.zeL).time<x.2
    ·exact absurd aA (this.1 dA)
    ·omega
   ·intro cA;by_cases aA:x∈oldM W m
    ·exact aA
    ·have:=this.2 aA;omega
  ·rw[decide_eq_decide];have:=hh x hx;constructor
   ·intro dA aA;have:=this.1 aA;omega
   ·intro aA;by_cases cA:x.2<=(zE W m.zeL).time
    ·exact absurd (this.2 cA) aA
    ·omega
 rw[key];constructor
 ·rintro⟨h1,h2,h3⟩;exact⟨h3,fun x hx=>⟨by have:=(zBc h.right hT hx).2.1;omega,h2 x hx⟩⟩
 ·rintro⟨h1,h2⟩;refine⟨?_,fun x hx=>(h2 x hx).2,h1⟩;by_cases hz:Nil m.rs m.rb
  ·rw[hz.2];exact eA
  ·have hr:(m.rs,m.rb)∈treeM W m:=(by unfold treeM zM;rw[if_neg hz];simp);exact(h2 _ hr).1
theorem zXh{W:zB}{m:zF3}(hS:zOh W m):zBR W m=zDI W m:=by
 unfold zBR zDI zBq zB3;refine List.filter_congr fun x hx=>?_
 rw[decide_eq_decide];have:=(hS.2 x hx).2;constructor
 ·intro h1 h2;have:=this.1 h2;omega
 ·intro h1;by_cases h2:x.2<=(zE W m.zeL).time
  ·exact absurd (this.2 h2) h1
  ·omega
open Classical in
noncomputable def cnt(P:Nat->Prop):Nat->Nat
 | 0=>0
 | k+1=>cnt P k+(if P k then 1 else 0)
theorem zFD{P Q:Nat->Prop}:∀{n:Nat},(∀i,i<n->(P i↔Q i))->cnt P n=cnt Q n
 | 0,_=>rfl
 | n+1,h=>by
  unfold cnt;rw[zFD (fun i hi=>h i (by omega))];by_cases hp:P n
  ·rw[if_pos hp,if_pos ((h n (by omega)).1 hp)]
  ·rw[if_neg hp,if_neg (fun hq=>hp ((h n (by omega)).2 hq))]
theorem zX9{P Q:Nat->Prop}:∀{n:Nat},(∀i,i<n->P i->Q i)->cnt P n<=cnt Q n
 | 0,_=>Nat.le_refl _
 | n+1,h=>by
  unfold cnt;have:=zX9 (n:=n) (fun i hi=>h i (by omega));by_cases hp:P n
  ·rw[if_pos hp,if_pos (h n (by omega) hp)];omega
  ·rw[if_neg hp];omega
theorem zMY{P Q:Nat->Prop}:∀{n:Nat},(∀i,i<n->P i->Q i)->(cnt P n=cnt Q n↔∀i,i<n->(P i↔Q i))
 | 0,_=>⟨fun _ i hi=>absurd hi (Nat.not_lt_zero _),fun _=>rfl⟩
 | n+1,h=>by
  refine⟨fun e=>?_,fun e=>zFD e⟩;have aA:=zX9 (n:=n) (fun i hi=>h i (by omega));have ih:=zMY (n:=n) (fun i hi=>h i (by omega));unfold cnt at e;have hn:P n↔Q n:=by
   refine⟨h n (by omega),fun hq=>?_⟩;by_cases hp:P n
   ·exact hp
   ·rw[if_neg hp,if_pos hq]at e;omega
  have e':cnt P n=cnt Q n:=by
   by_cases hp:P n
   ·rw[if_pos hp,if_pos (hn.1 hp)]at e;omega
   ·rw[if_neg hp,if_neg (fun hq=>hp (hn.2 hq))]at e;omega
  intro i hi;by_cases e2:i=n
  ·subst e2;exact hn
  ·exact ih.1 e' i (by omega)
theorem zTQ{P Q:Nat->Prop}:∀{n:Nat},(∀i,i<n->P i->¬Q i)->cnt (fun i=>P i\/Q i) n=cnt P n+cnt Q n
 | 0,_=>rfl
 | n+1,h=>by
  unfold cnt;rw[zTQ (fun i hi=>h i (by omega))];by_cases hp:P n
  ·rw[if_pos (Or.inl hp),if_pos hp,if_neg (h n (by omega) hp)];omega
  ·by_cases hq:Q n
   ·rw[if_pos (Or.inr hq),if_neg hp,if_pos hq];omega
   ·rw[if_neg (fun h=>h.elim hp hq),if_neg hp,if_neg hq];omega
theorem zUr(P:Nat->Prop):∀n,cnt P n+cnt (fun i=>¬P i) n=n
 | 0=>rfl
 | n+1=>by
  have:=zUr P n;unfold cnt;by_cases hp:P n
  ·rw[if_pos hp,if_neg (fun h=>h hp)];omega
  ·rw[if_neg hp,if_pos hp];omega
theorem zMZ{P:Nat->Prop}:∀{n:Nat},(∀i,i<n->¬P i)->cnt P n=0
 | 0,_=>rfl
 | n+1,h=>by
  unfold cnt;rw[zMZ (fun i hi=>h i (by omega)),if_neg (h n (by omega))]
theorem zUs:∀{n a:Nat},a<n->cnt (fun i=>i=a) n=1
 | 0,a,h=>absurd h (Nat.not_lt_zero _)
 | n+1,a,h=>by
  unfold cnt;by_cases e:n=a
  ·subst e;rw[if_pos rfl,zMZ (fun i hi=>by omega)]
  ·rw[if_neg e,zUs (by omega)]
theorem zJm{n:Nat}:∀{l:List Nat},l.Nodup->(∀x,x∈l->x<n)->cnt (fun i=>i∈l) n=l.length
 | [],_,_=>zMZ (fun i hi=>by simp)
 | a :: l,hn,hl=>by
  obtain⟨h1,h2⟩:=List.nodup_cons.1 hn;have e1:cnt (fun i=>i∈a :: l) n=cnt (fun i=>i=a\/i∈l) n:=zFD (fun i _=>List.mem_cons);have e2:cnt (fun i=>i=a\/i∈l) n=cnt (fun i=>i=a) n+cnt (fun i=>i∈l) n:=zTQ (fun i _ (e:i=a) hi=>h1 (e▸hi));rw[e1,e2,zUs (hl a (by simp)),zJm h2 (fun x hx=>hl x (by simp[hx])),List.length_cons];omega
theorem zRc(f:Nat->zN):∀n,roomN f n=cnt (fun i=>zAO (f i)) n
 | 0=>rfl
 | n+1=>by unfold roomN cnt;rw[zRc f n]
theorem zX8{p:zF}(hR:zg p):cnt (fun i=>Has p.hn p.h i) p.n=p.hn:=by
 have h:=hR.2.2;have hl:∀x,x∈(List.range p.hn).map (fun j=>(p.h j).toNat)->x<p.n:=by
  intro x hx;obtain⟨j,hj,rfl⟩:=List.mem_map.1 hx;have:=h j (List.mem_range.1 hj);have h1:=this.1;have h2:=this.2.1;omega
 have hn:((List.range p.hn).map (fun j=>(p.h j).toNat)).Nodup:=by
  unfold List.Nodup;rw[List.pairwise_map];refine List.Pairwise.imp_of_mem ?_ (List.pairwise_lt_range);intro a b ha hb aA e;have h1:=h a (List.mem_range.1 ha);have h2:=h b (List.mem_range.1 hb);have:=h1.1;have:=h2.1;exact h2.2.2.2 ⟨a,aA,by omega⟩
 have:=zJm hn hl;rw[List.length_map,List.length_range]at this;refine Eq.trans (zFD (fun i hi=>?_)) this;constructor
 ·rintro⟨j,hj,e⟩;exact List.mem_map.2 ⟨j,List.mem_range.2 hj,by rw[e];simp⟩
 ·intro hx;obtain⟨j,hj,e⟩:=List.mem_map.1 hx;have:=(h j (List.mem_range.1 hj)).1;exact⟨j,List.mem_range.1 hj,by omega⟩
theorem zRb{p:zF}(hR:zg p):cnt (fun i=>¬zAO (p.s i)/\¬Has p.hn p.h i) p.n+roomN p.s p.n+p.hn=p.n:=by
 have h1:=zUr (fun i=>zAO (p.s i)\/Has p.hn p.h i) p.n;have h2:cnt (fun i=>zAO (p.s i)\/Has p.hn p.h i) p.n=cnt (fun i=>zAO (p.s i)) p.n+cnt (fun i=>Has p.hn p.h i) p.n:=zTQ (fun i hi hf=>by
  rintro⟨j,hj,e⟩;have:=(hR.2.2 j hj).2.2.1;rw[e]at this;simp only[Int.toNat_natCast]at this;exact this hf)
 rw[zX8 hR,<-zRc]at h2;have h3:cnt (fun i=>¬(zAO (p.s i)\/Has p.hn p.h i)) p.n=cnt (fun i=>¬zAO (p.s i)/\¬Has p.hn p.h i) p.n:=zFD (fun i _=>not_or);omega
def zP4(W:zB):Prop:=∀i,i<W.pool.n->((∃m,m<memN W/\∃b,((i:Int),b)∈treeM W (zI W m))↔(¬zAO (W.pool.s i)/\¬Has W.pool.hn W.pool.h i))
def zHS(W:zB):Prop:=∀i,i<memN W->∀j,j<i->∀x,x∈zDI W (zI W i)->∀y,y∈zDI W (zI W j)->x.1≠y.1
noncomputable def zw(W:zB):Nat->List (Int×Int)
 | 0=>[]
 | k+1=>zw W k ++ zBR W (zI W k)
def zJa(W:zB):Prop:=(zw W (memN W)).Nodup/\(zw W (memN W)).length+roomN W.pool.s W.pool.n+W.pool.hn=W.pool.n
theorem zGT{W:zB}{x:Int×Int}:∀{k:Nat},x∈zw W k↔∃i,i<k/\x∈zBR W (zI W i)
 | 0=>by simp[zw]
 | k+1=>by
  unfold zw;rw[List.mem_append,zGT];constructor
  ·rintro(⟨i,hi,h⟩ | h)
   ·exact⟨i,by omega,h⟩
   ·exact⟨k,by omega,h⟩
  ·rintro⟨i,hi,h⟩;by_cases e:i=k
   ·subst e;exact Or.inr h
   ·exact Or.inl ⟨i,by omega,h⟩
theorem zLO{W:zB}:∀{k:Nat},(∀i,i<k->(zBR W (zI W i)).Nodup)->((zw W k).Nodup↔∀i,i<k->∀j,j<i->∀x,x∈zBR W (zI W i)->x∉zBR W (zI W j))
 | 0,_=>⟨fun _ i hi=>absurd hi (Nat.not_lt_zero _),fun _=>List.nodup_nil⟩
 | k+1,hy=>by
  unfold zw;rw[List.nodup_append,zLO (fun i hi=>hy i (by omega))];constructor
  ·rintro⟨h1,h2,h3⟩ i hi j hj x hx aA;by_cases e:i=k
   ·subst e;exact h3 x (zGT.2 ⟨j,hj,aA⟩) x hx rfl
   ·exact h1 i (by omega) j hj x hx aA
  ·intro h;refine⟨fun i hi=>h i (by omega),hy k (by omega),fun x hx y bA e=>?_⟩;subst e;obtain⟨i,hi,hx⟩:=zGT.1 hx;exact h k (by omega) i hi x bA hx
theorem zRt{W:zB}(h:zFo W){x:Int×Int}:∀(N:Nat) (k:Nat),k<W.pn->(W.zeJ k).id<N->0<=(W.zeJ k).id->(∀j,j<W.pn->0<=(W.zeJ j).id)->x∈treeM W (zI W k)->∃i,i<memN W/\x∈zDI W (zI W i)
 | 0,k,hk,h1,h2,_,_=>by omega
 | N+1,k,hk,h1,h2,h0,hx=>by
  by_cases ho:x∈oldM W (zI W k)
  ·have aA:∃j,yV W (zI W k).zeL j:=by
    refine Classical.byContradiction fun bA=>?_
    have:zE W (zI W k).zeL=zAV:=(by unfold zE;rw[dif_neg bA]);unfold oldM at ho;rw[this,zM,if_pos ⟨rfl,rfl⟩]at ho;simp at ho
   obtain⟨j,hj⟩:=aA;unfold oldM at ho;rw[yQ hj]at ho;have e1:(zI W k).zeL=(W.zeJ k).zeL:=(by rw[zx hk];rfl);have:=h.ids k hk;have:=hj.2.1;exact zRt h N j hj.1 (by omega) (h0 j hj.1) h0 (by rw[zx hj.1];exact ho)
  ·exact⟨k,by unfold memN;omega,List.mem_filter.2 ⟨hx,by simpa using ho⟩⟩
theorem zYP{W:zB}(h:zFo W)(h0:∀j,j<W.pn->0<=(W.zeJ j).id){x:Int×Int}{m:Nat}(hm:m<memN W)(hx:x∈treeM W (zI W m)):∃i,i<memN W/\x∈zDI W (zI W i):=by
 by_cases ho:x∈oldM W (zI W m)
 ·have aA:∃j,yV W (zI W m).zeL j:=by
   refine Classical.byContradiction fun bA=>?_
   have:zE W (zI W m).zeL=zAV:=(by unfold zE;rw[dif_neg bA]);unfold oldM at ho;rw[this,zM,if_pos ⟨rfl,rfl⟩]at ho;simp at ho
  obtain⟨j,hj⟩:=aA;unfold oldM at ho;rw[yQ hj]at ho;have:=h0 j hj.1;exact zRt h ((W.zeJ j).id.toNat+1) j hj.1 (by omega) (h0 j hj.1) h0 (by rw[zx hj.1];exact ho)
 ·exact⟨m,hm,List.mem_filter.2 ⟨hx,by simpa using ho⟩⟩
theorem zPH{W:zB}(h:zFo W)(h0:∀j,j<W.pn->0<=(W.zeJ j).id)(hM:∀i,i<memN W->zOh W (zI W i)):zJa W↔zP4 W/\zHS W:=by
 have hy:∀i,i<memN W->zBR W (zI W i)=zDI W (zI W i):=fun i hi=>zXh (hM i hi)
 have oA:∀i,i<memN W->(zBR W (zI W i)).Nodup:=fun i hi=>(zDB h.right (h.tree i hi)).filter _
 have kA:∀i,i<memN W->∀x,x∈zDI W (zI W i)->x∈treeM W (zI W i):=fun i _ x hx=>(List.mem_filter.1 hx).1
 have fA:∀i,i<memN W->∀x,x∈treeM W (zI W i)->qp W.pool x.1 x.2/\¬Has W.pool.hn W.pool.h x.1:=fun i hi x hx=>⟨(zBc h.right (h.tree i hi) hx).1,(zBc h.right (h.tree i hi) hx).2.2⟩
 have eA:∀x y:Int×Int,qp W.pool x.1 x.2->qp W.pool y.1 y.2->x.1=y.1->x=y:=fun x y hx dA e=>by
  have a1:=hx.2.2.2;have a2:=dA.2.2.2;rw[e]at a1;exact Prod.ext e (a1.symm.trans a2)
 have hA:(zw W (memN W)).Nodup↔zHS W:=by
  rw[zLO oA];unfold zHS;constructor
  ·intro hh i hi j hj x hx y dA e;have sA:=eA x y (fA i hi x (kA i hi x hx)).1 (fA j (by omega) y (kA j (by omega) y dA)).1 e;subst sA;exact hh i hi j hj x (by rw[hy i hi];exact hx) (by rw[hy j (by omega)];exact dA)
  ·intro hh i hi j hj x hx rA;exact hh i hi j hj x (by rw[<-hy i hi];exact hx) x (by rw[<-hy j (by omega)];exact rA) rfl
 have aA:∀x,x∈zw W (memN W)↔∃m,m<memN W/\x∈treeM W (zI W m):=fun x=>by
  rw[zGT];constructor
  ·rintro⟨i,hi,hx⟩;rw[hy i hi]at hx;exact⟨i,hi,kA i hi x hx⟩
  ·rintro⟨m,hm,hx⟩;obtain⟨i,hi,hx⟩:=zYP h h0 hm hx;exact⟨i,hi,by rw[hy i hi];exact hx⟩
 unfold zJa;rw[hA];constructor
 ·rintro⟨ha,nA⟩;refine⟨?_,ha⟩;have bA:=hA.2 ha;have hpL:∀x,x∈zw W (memN W)->qp W.pool x.1 x.2:=fun x hx=>by
   obtain⟨m,hm,hx⟩:=(aA x).1 hx;exact(fA m hm x hx).1
  have hl:∀x,x∈(zw W (memN W)).map (fun x=>x.1.toNat)->x<W.pool.n:=by
   intro x hx;obtain⟨y,dA,rfl⟩:=List.mem_map.1 hx;have:=hpL y dA;have h1:=this.2.1;have h2:=this.2.2.1;omega
  have mA:((zw W (memN W)).map (fun x=>x.1.toNat)).Nodup:=by
   unfold List.Nodup;rw[List.pairwise_map];refine List.Pairwise.imp_of_mem ?_ bA;intro a b gA iA lA e;have p1:=hpL a gA;have p2:=hpL b iA;have:=p1.2.1;have:=p2.2.1;exact lA (eA a b p1 p2 (by omega))
  have hc:=zJm mA hl;rw[List.length_map]at hc;have hr:=zRb h.right;have cA:∀i,i<W.pool.n->(i∈(zw W (memN W)).map (fun x=>x.1.toNat)↔∃m,m<memN W/\∃b,((i:Int),b)∈treeM W (zI W m)):=by
   intro i hi;rw[List.mem_map];constructor
   ·rintro⟨x,hx,e⟩;have:=(hpL x hx).2.1;obtain⟨m,hm,hx⟩:=(aA x).1 hx;exact⟨m,hm,x.2,by rw[show(i:Int)=x.1 by omega];exact hx⟩
   ·rintro⟨m,hm,b,hx⟩;exact⟨(i,b),(aA _).2 ⟨m,hm,hx⟩,by simp⟩
  have jA:∀i,i<W.pool.n->i∈(zw W (memN W)).map (fun x=>x.1.toNat)->¬zAO (W.pool.s i)/\¬Has W.pool.hn W.pool.h i:=by
   intro i hi hx;obtain⟨m,hm,b,hx⟩:=(cA i hi).1 hx;have:=fA m hm _ hx;refine⟨fun hf=>?_,this.2⟩;have h1:=this.1.1;have h2:=this.1.2.2.2;simp only[Int.toNat_natCast]at h2;rw[hf.1]at h2;simp only at h1 h2;omega
  have:=(zMY jA).1 (by rw[hc];omega);intro i hi;rw[<-cA i hi];exact this i hi
 ·rintro⟨pA,ha⟩;refine⟨ha,?_⟩;have bA:=hA.2 ha;have hpL:∀x,x∈zw W (memN W)->qp W.pool x.1 x.2:=fun x hx=>by
   obtain⟨m,hm,hx⟩:=(aA x).1 hx;exact(fA m hm x hx).1
  have hl:∀x,x∈(zw W (memN W)).map (fun x=>x.1.toNat)->x<W.pool.n:=by
   intro x hx;obtain⟨y,dA,rfl⟩:=List.mem_map.1 hx;have:=hpL y dA;have h1:=this.2.1;have h2:=this.2.2.1;omega
  have mA:((zw W (memN W)).map (fun x=>x.1.toNat)).Nodup:=by
   unfold List.Nodup;rw[List.pairwise_map];refine List.Pairwise.imp_of_mem ?_ bA;intro a b gA iA lA e;have p1:=hpL a gA;have p2:=hpL b iA;have:=p1.2.1;have:=p2.2.1;exact lA (eA a b p1 p2 (by omega))
  have hc:=zJm mA hl;rw[List.length_map]at hc;have hr:=zRb h.right;have cA:∀i,i<W.pool.n->(i∈(zw W (memN W)).map (fun x=>x.1.toNat)↔∃m,m<memN W/\∃b,((i:Int),b)∈treeM W (zI W m)):=by
   intro i hi;rw[List.mem_map];constructor
   ·rintro⟨x,hx,e⟩;have:=(hpL x hx).2.1;obtain⟨m,hm,hx⟩:=(aA x).1 hx;exact⟨m,hm,x.2,by rw[show(i:Int)=x.1 by omega];exact hx⟩
   ·rintro⟨m,hm,b,hx⟩;exact⟨(i,b),(aA _).2 ⟨m,hm,hx⟩,by simp⟩
  have:=zFD (P:=fun i=>i∈(zw W (memN W)).map (fun x=>x.1.toNat)) (Q:=fun i=>¬zAO (W.pool.s i)/\¬Has W.pool.hn W.pool.h i) (n:=W.pool.n) (fun i hi=>(cA i hi).trans (pA i hi));omega
theorem zBd.atW{w:World}{base:Nat}{v:Value}{l:List (Int×Int)}(h:zBd w base v l)(hm:l.length<=1000):qn w 0 w.heap.size v l.length (zh l) (zn l):=by
 obtain⟨b,h1,h2⟩:=h.own (by unfold maxLen;omega);exact h1.at (fun h0=>⟨Nat.zero_le _,(h2 h0).2.2⟩)
def zbn(now old:List (Int×Int))(t tm:Int)(n:Nat):Prop:=∀i,i<n->zn now i<=tm/\((zh now i,zn now i)∈old↔zn now i<=t)
theorem zUn(aA bA:List (Int×Int))(t tm:Int):zbn aA bA t tm aA.length↔zHU aA bA t tm:=by
 constructor
 ·intro h x hx;obtain⟨j,hj,e⟩:=List.getElem_of_mem hx;have:=h j hj;unfold zh zn at this;rw[zBS hj,e]at this;exact this
 ·intro h i hi;have:=h _ (List.getElem_mem hi);unfold zh zn;rw[zBS hi];exact this
def zP0(W:zB):Prop:=∀k,k<W.pn->1<=(W.zeJ k).id
def zGn(i:Nat)(c:Int):Prop:=(97<=c/\c<=122)\/(i≠0/\((48<=c/\c<=57)\/c=95))
def zA0(s:ByteArray):Prop:=1<=s.size/\s.size<=20/\∀j,(h:j<s.size)->zGn j (s[j].toNat:Int)
theorem zdy{s:ByteArray}{k:Nat}(cA:k<s.size)(aA:∀j,(h:j<k)->(h':j<s.size)->zGn j (s[j].toNat:Int))(bA:zGn k (s[k].toNat:Int)) :
  ∃m:Nat,m<=s.size/\Value.int .i64 ((k:Int)+1) = .int .i64 (m:Int)/\∀j,(h:j<m)->(h':j<s.size)->zGn j (s[j].toNat:Int):=by
 refine⟨k+1,by omega,by simp,fun j h h'=>?_⟩;by_cases e:j=k
 ·subst e;exact bA
 ·exact aA j (by omega) h'
theorem zdx{s:ByteArray}(bA:0<s.size)(aA:zGn 0 (s[0].toNat:Int)) :
  ∃m:Nat,m<=s.size/\Value.int .i64 1 = .int .i64 (m:Int)/\∀j,(h:j<m)->(h':j<s.size)->zGn j (s[j].toNat:Int):=by
 refine⟨1,by omega,by simp,fun j h h'=>?_⟩;obtain rfl:j=0:=by omega
 exact aA
theorem zGx(s:ByteArray)(w:World)(hs:s.size<=maxLen) :
  Calls Tryz.prog 98 #[.string s] w fun e w'=>zL (zA0 s) e/\w'=w:=by
 unfold maxLen at hs;by_cases h1:s.size<1
 ·have eA:(s.size:Int)<1:=(by omega);go_enter Tryz.func98,Tryz.ntmps98;go_wp2;go_ret;exact⟨⟨false,rfl,by simp[zA0];omega⟩,rfl⟩
 by_cases h2:20<s.size
 ·have gA:(20:Int)<(s.size:Int):=(by omega);have eA:¬(s.size:Int)<1:=(by omega);go_enter Tryz.func98,Tryz.ntmps98;go_wp2;go_ret;exact⟨⟨false,rfl,by simp[zA0];omega⟩,rfl⟩
 have eA:¬(s.size:Int)<1:=by omega
 have gA:¬(20:Int)<(s.size:Int):=by omega
 have h0:0<s.size:=by omega
 by_cases cA:97<=(s[0].toNat:Int)/\(s[0].toNat:Int)<=122
 ·obtain⟨fA,iA⟩:=cA;go_enter Tryz.func98,Tryz.ntmps98;go_wp2
  go_loop [20] (fun i=>∃k:Nat,k<=s.size/\i = .int .i64 k/\∀j,(h:j<k)->(h':j<s.size)->zGn j (s[j].toNat:Int)) (fun i=>s.size - (intOf i).toNat)
  case atStart=>exact⟨0,Nat.zero_le _,rfl,fun j h=>absurd h (Nat.not_lt_zero _)⟩
  case round=>
   obtain⟨k,hk,rfl,bA⟩:=hrel;have aA:Hid (∀j,(h:j<k)->(h':j<s.size)->zGn j (s[j].toNat:Int)):=bA;clear bA;by_cases dA:k<s.size
   ·by_cases jA:k=0
    all_goals try subst jA
    all_goals go_wp2
    all_goals try (go_ret;refine⟨⟨false,rfl,?_⟩,rfl⟩;simp only[Bool.false_eq_true,false_iff];intro h;have h3:=h.2.2 _ dA;unfold zGn at h3;first | omega | grind)
    all_goals
     go_round
     case measure=>simp[intOf];omega
     case rel=>first | exact zdx dA (by unfold zGn;first | omega | grind) | exact zdy dA aA.out (by unfold zGn;first | omega | grind)
   ·go_wp2;go_ret;refine⟨⟨true,rfl,?_⟩,rfl⟩;simp only[true_iff];exact⟨by omega,by omega,fun j h=>aA.out j (by omega) h⟩
 ·by_cases fA:97<=(s[0].toNat:Int)
  ·have iA:¬(s[0].toNat:Int)<=122:=fun h=>cA ⟨fA,h⟩
   clear cA;go_enter Tryz.func98,Tryz.ntmps98;go_wp2;go_ret;refine⟨⟨false,rfl,?_⟩,rfl⟩;simp only[Bool.false_eq_true,false_iff];intro h;have h3:=h.2.2 _ h0;unfold zGn at h3;omega
  ·clear cA;go_enter Tryz.func98,Tryz.ntmps98;go_wp2;go_ret;refine⟨⟨false,rfl,?_⟩,rfl⟩;simp only[Bool.false_eq_true,false_iff];intro h;have h3:=h.2.2 _ h0;unfold zGn at h3;omega
def zBm(a b:ByteArray):Prop:=Op.bytesLess a.toList b.toList=true
theorem zRU:∀x y:List UInt8,Op.bytesLess x y=true\/x=y\/Op.bytesLess y x=true
 | [],[]=>Or.inr (Or.inl rfl)
 | [],b :: y=>Or.inl (by simp[Op.bytesLess])
 | a :: x,[]=>Or.inr (Or.inr (by simp[Op.bytesLess]))
 | a :: x,b :: y=>by
  simp only[Op.bytesLess,Bool.or_eq_true,decide_eq_true_eq,Bool.and_eq_true,beq_iff_eq,List.cons.injEq];by_cases h:a=b
  ·subst h;rcases zRU x y with h | h | h
   ·exact Or.inl (Or.inr ⟨rfl,h⟩)
   ·exact Or.inr (Or.inl ⟨rfl,h⟩)
   ·exact Or.inr (Or.inr (Or.inr ⟨rfl,h⟩))
  ·have:a<b\/b<a:=by
    have aA:a.toNat≠b.toNat:=fun e=>h (UInt8.toNat_inj.1 e)
    rw[UInt8.lt_iff_toNat_lt,UInt8.lt_iff_toNat_lt];omega
   rcases this with h | h
   ·exact Or.inl (Or.inl h)
   ·exact Or.inr (Or.inr (Or.inl h))
theorem zH8:∀x:List UInt8,Op.bytesLess x x=false
 | []=>rfl
 | a :: x=>by simp[Op.bytesLess,zH8 x]
theorem zRT:∀x y:List UInt8,Op.bytesLess x y=true->Op.bytesLess y x=false
 | [],[],h=>by simp[Op.bytesLess]at h
 | [],b :: y,_=>by simp[Op.bytesLess]
 | a :: x,[],h=>by simp[Op.bytesLess]at h
 | a :: x,b :: y,h=>by
  simp only[Op.bytesLess,Bool.or_eq_true,decide_eq_true_eq,Bool.and_eq_true,beq_iff_eq]at h;rw[<-Bool.not_eq_true];simp only[Op.bytesLess,Bool.or_eq_true,decide_eq_true_eq,Bool.and_eq_true,beq_iff_eq,UInt8.lt_iff_toNat_lt]at h ⊢;rintro(h' | ⟨h',h2⟩)
  ·rcases h with h | ⟨h,_⟩
   ·omega
   ·subst h;omega
  ·subst h';rcases h with h | ⟨_,h⟩
   ·omega
   ·rw[zRT x y h]at h2;exact absurd h2 (by simp)
theorem zCg{a b:ByteArray}(h:a.toList=b.toList):a=b:=by
 rw[Go.ByteArray.toList_eq,Go.ByteArray.toList_eq]at h;cases a;cases b;simp only[ByteArray.mk.injEq]at *;exact Array.toList_inj.1 h
theorem zVD(a b:ByteArray):(Op.bytesLess a.toList b.toList || a.toList == b.toList)=false↔zBm b a:=by
 unfold zBm;rw[Bool.or_eq_false_iff,beq_eq_false_iff_ne];constructor
 ·rintro⟨h1,h2⟩;rcases zRU a.toList b.toList with h | h | h
  ·rw[h1]at h;exact absurd h (by simp)
  ·exact absurd h h2
  ·exact h
 ·intro h;refine⟨zRT _ _ h,fun e=>?_⟩;rw[e,zH8]at h;exact absurd h (by simp)
theorem zKH{a b:ByteArray}(h:zBm a b):a≠b:=fun e=>by
 subst e;unfold zBm at h;rw[zH8]at h;exact absurd h (by simp)
theorem zMS:∀x y z:List UInt8,Op.bytesLess x y=true->Op.bytesLess y z=true->Op.bytesLess x z=true
 | _,[],_,h,_=>by cases ‹List UInt8›<;>simp[Op.bytesLess]at h
 | [],_ :: _,[],_,h=>by simp[Op.bytesLess]at h
 | [],_ :: _,_ :: _,_,_=>by simp[Op.bytesLess]
 | _ :: _,_ :: _,[],_,h=>by simp[Op.bytesLess]at h
 | a :: x,b :: y,c :: z,h,h'=>by
  simp only[Op.bytesLess,Bool.or_eq_true,decide_eq_true_eq,Bool.and_eq_true,beq_iff_eq,UInt8.lt_iff_toNat_lt]at h h' ⊢;rcases h with h | ⟨h,h1⟩
  ·rcases h' with h' | ⟨h',h2⟩
   ·left;omega
   ·subst h';left;exact h
  ·subst h;rcases h' with h' | ⟨h',h2⟩
   ·left;exact h'
   ·subst h';right;exact⟨rfl,zMS x y z h1 h2⟩
theorem zLZ{a b c:ByteArray}(h:zBm a b)(h':zBm b c):zBm a c:=zMS _ _ _ h h'
def zBU(W:zB)(x:Int):Prop:=∃k,k<W.pn/\(W.zeJ k).id=x
def qG(W:zB)(x:ByteArray):Prop:=∃k,k<W.sn/\(W.zeK k).name=x
def zIa(W:zB)(i:Nat):Prop:=zA0 (W.zeK i).name/\(0<i->zBm (W.zeK (i - 1)).name (W.zeK i).name)/\((W.zeK i).zeL≠0->zBU W (W.zeK i).zeL)/\((W.zeK i).origin≠0->zBU W (W.zeK i).origin)
def zbt(W:zB)(i:Nat):Prop:=1<=(W.zeJ i).id/\(W.zeJ i).id<W.next/\1<=(W.zeJ i).time/\(W.zeJ i).time<W.time/\zA0 (W.zeJ i).name/\qG W (W.zeJ i).set
def zXu(W:zB)(i:Nat):Prop:=(0<i->(W.zeJ (i - 1)).id<(W.zeJ i).id/\(W.zeJ (i - 1)).time<(W.zeJ i).time)/\((W.zeJ i).zeL≠0->(W.zeJ i).zeL<(W.zeJ i).id/\zBU W (W.zeJ i).zeL)
def zXv(W:zB)(i j:Nat):Prop:=∀k,k<j->¬((W.zeJ k).set=(W.zeJ i).set/\(W.zeJ k).name=(W.zeJ i).name)
def zP7(W:zB)(i:Nat):Prop:=zbt W i/\zXu W i/\zXv W i i
def yj(W:zB):Prop:=zGl W.time 1 900000/\zGl W.next 1 900000/\W.sn<=8/\W.pn<=20/\(∀i,i<W.sn->zIa W i)/\∀i,i<W.pn->zP7 W i
theorem zMj{W:zB}{x r:Int}(h:zPy W.pn (fun k=>(W.zeJ k).id=x) r):(zBU W x/\0<=r/\r<W.pn/\(W.zeJ r.toNat).id=x)\/(¬zBU W x/\r = -1):=by
 rcases h with⟨k,hk,e,_,rfl⟩ | ⟨hn,rfl⟩
 ·exact Or.inl ⟨⟨k,hk,e⟩,by omega,by omega,by simpa using e⟩
 ·exact Or.inr ⟨fun ⟨k,hk,e⟩=>hn k hk e,rfl⟩
theorem zWZ{W:zB}{x:ByteArray}{r:Int}(h:zPy W.sn (fun k=>(W.zeK k).name=x) r):(qG W x/\0<=r)\/(¬qG W x/\r = -1):=by
 rcases h with⟨k,hk,e,_,rfl⟩ | ⟨hn,rfl⟩
 ·exact Or.inl ⟨⟨k,hk,e⟩,by omega⟩
 ·exact Or.inr ⟨fun ⟨k,hk,e⟩=>hn k hk e,rfl⟩
def zF0(w:World)(b:Nat)(v0 v1 v2 v3 v4 v5 v6 v7:Value):Prop:=(zY w b 0 v0/\zY w b 1 v1/\zY w b 2 v2/\zY w b 3 v3)/\(zY w b 4 v4/\zY w b 5 v5/\zY w b 6 v6/\zY w b 7 v7)
theorem zF0.zeF{w w':World}{b:Nat}{v0 v1 v2 v3 v4 v5 v6 v7:Value}(h:zF0 w b v0 v1 v2 v3 v4 v5 v6 v7)(t:Below w.heap.size w w'):zF0 w' b v0 v1 v2 v3 v4 v5 v6 v7:=
 ⟨⟨h.1.1.zeF t,h.1.2.1.zeF t,h.1.2.2.1.zeF t,h.1.2.2.2.zeF t⟩,h.2.1.zeF t,h.2.2.1.zeF t,h.2.2.2.1.zeF t,h.2.2.2.2.zeF t⟩
theorem zF0.new(w:World)(v0 v1 v2 v3 v4 v5 v6 v7:Value)(t:TypeId):zF0 (w.alloc (.cells #[v0,v1,v2,v3,v4,v5,v6,v7] t)) w.heap.size v0 v1 v2 v3 v4 v5 v6 v7:=by
 have hb:(w.alloc (.cells #[v0,v1,v2,v3,v4,v5,v6,v7] t)).heap[w.heap.size]?=some (.cells #[v0,v1,v2,v3,v4,v5,v6,v7] t):=heap_alloc_new _ _;exact⟨⟨zK hb rfl,zK hb rfl,zK hb rfl,zK hb rfl⟩,zK hb rfl,zK hb rfl,zK hb rfl,zK hb rfl⟩
set_option linter.unusedSimpArgs false
set_option maxRecDepth 20000
set_option maxHeartbeats 1600000
def setsE(fl:Fl)(s:Nat->qi):Nat->Nat->Tr:=fun i c=>match c with
 | 0=>.v (.string (s i).name)
 | 1=>.v (.int .i64 (s i).origin)
 | 2=>.v (.int .i64 (s i).zeL)
 | 3=>.v (.int .i64 (s i).rs)
 | 4=>.v (.int .i64 (s i).rb)
 | 5=>.s fl 2 (s i).dn (ptrsT (s i).ds (s i).db)
 | _=>.v (.bool false)
def snapsE(fl:Fl)(s:Nat->zl):Nat->Nat->Tr:=fun i c=>match c with
 | 0=>.v (.int .i64 (s i).id)
 | 1=>.v (.string (s i).name)
 | 2=>.v (.string (s i).set)
 | 3=>.v (.int .i64 (s i).zeL)
 | 4=>.v (.int .i64 (s i).time)
 | 5=>.v (.int .i64 (s i).rs)
 | 6=>.v (.int .i64 (s i).rb)
 | 7=>.s fl 2 (s i).dn (ptrsT (s i).ds (s i).db)
 | _=>.v (.bool false)
section
variable {fl fl' : Fl} {s : Nat -> qi} {t : Nat -> zl} {i k n : Nat}
theorem zAs:setsE fl s i 0 = .v (.string (s i).name):=rfl
theorem zAt:setsE fl s i 1 = .v (.int .i64 (s i).origin):=rfl
theorem zAu:setsE fl s i 2 = .v (.int .i64 (s i).zeL):=rfl
theorem zAv:setsE fl s i 3 = .v (.int .i64 (s i).rs):=rfl
theorem zAw:setsE fl s i 4 = .v (.int .i64 (s i).rb):=rfl
theorem zAx:setsE fl s i 5 = .s fl 2 (s i).dn (ptrsT (s i).ds (s i).db):=rfl
theorem zAD:snapsE fl t i 0 = .v (.int .i64 (t i).id):=rfl
theorem zAE:snapsE fl t i 1 = .v (.string (t i).name):=rfl
theorem zAF:snapsE fl t i 2 = .v (.string (t i).set):=rfl
theorem zAG:snapsE fl t i 3 = .v (.int .i64 (t i).zeL):=rfl
theorem zAH:snapsE fl t i 4 = .v (.int .i64 (t i).time):=rfl
theorem zAI:snapsE fl t i 5 = .v (.int .i64 (t i).rs):=rfl
theorem zAJ:snapsE fl t i 6 = .v (.int .i64 (t i).rb):=rfl
theorem zAK:snapsE fl t i 7 = .s fl 2 (t i).dn (ptrsT (t i).ds (t i).db):=rfl
theorem yR:(Tr.s fl k n (setsE fl' s)).lend = .s .b k n (setsE .b s):=by
 simp only[Tr.lend];congr 1;funext i c
 match c with
 | 0 | 1 | 2 | 3 | 4=>rfl
 | 5=>exact zf
 | c+6=>rfl
theorem qt:(Tr.s fl k n (snapsE fl' t)).lend = .s .b k n (snapsE .b t):=by
 simp only[Tr.lend];congr 1;funext i c
 match c with
 | 0 | 1 | 2 | 3 | 4 | 5 | 6=>rfl
 | 7=>exact zf
 | c+8=>rfl
end
abbrev woL(W:zB):List Tr:=[.s .b 3 W.pool.n (zk .b W.pool.s),.s .b 1 W.pool.hn (yT W.pool.h),.v (.int .i64 W.time),.v (.int .i64 W.next),.s .b 6 W.sn (setsE .b W.zeK),.s .b 8 W.pn (snapsE .b W.zeJ)]
abbrev woT(W:zB):Bool×List Tr:=(true,woL W)
abbrev woO(W:zB):Bool×List Tr:=(true,[.s .o 3 W.pool.n (zk .z W.pool.s),.s .o 1 W.pool.hn (yT W.pool.h),.v (.int .i64 W.time),.v (.int .i64 W.next),.s .o 6 W.sn (setsE .o W.zeK),.s .o 8 W.pn (snapsE .z W.zeJ)])
def zct(f:Nat->Tr):qi:=⟨zDP (f 0),qM (f 1),qM (f 2),qM (f 3),qM (f 4),zF8 (f 5),fun i=>qM (zCh (f 5) i 0),fun i=>qM (zCh (f 5) i 1)⟩
def zaw(f:Nat->Tr):zl:=⟨qM (f 0),zDP (f 1),zDP (f 2),qM (f 3),qM (f 4),qM (f 5),qM (f 6),zF8 (f 7),fun i=>qM (zCh (f 7) i 0),fun i=>qM (zCh (f 7) i 1)⟩
def zCW(f:Nat->Tr):zB:=⟨zEu (f 0) (f 1),qM (f 2),qM (f 3),zF8 (f 4),fun i=>zct (zCh (f 4) i),zF8 (f 5),fun i=>zaw (zCh (f 5) i)⟩
attribute [local go_sem] qg List.map_cons List.map_nil Tr.cv yv qT yF yD yu yr yq yC zBD zBF zBE zBA zBC zBB zCc zCe zCd qY zt qZ zu qR qQ qf zAL zp zq yL qW tmpsOf zAy yK qV zA9 yz yx yw zAA yy stpP opds opd opdC kap zAS qS zo coreU bin zAl zCO get put dlO fgt zBP zBI zBM zBN tyT yp yo Op.operands Call.operands evLoad evLen evStore evAlloc zAn and_true true_and List.append_nil List.nil_append List.cons_append Ret resCv zCB yY cellM zBl zCI qh StW StR hpT hpO hpV hpA hpL hpC sg nin zCT bdO tmW obW AvE CsE CvE Av.tup Av.ids Cv.ids inD ObE Ob.ids TrE.refl qU yH yI qb qd qe zr zf zd zAC zBe zCH zBG evCall argL argOf qq outOb obO yU qK cvO tot Tr.own rid partsOf fillC zU zBj frz frz1 evBuildSlice zc trs Cv.tr evSlice Option.toArray_none Option.toArray_some evMakeSlice evAppend dstOf srcOf zA7 zBO zBL zBJ zBK ikT yB yA qz qy RetP RetN zBs qP evLd evSt evStoreH zAe evAppendM evAppendT tlOf mvOf rowE shp evTake oOf evC evCallP evCallN evCallO unlast zAX zA6 zAZ argsF zCS qu pmC varT vT evField evConv dB0 Option.bind_some Option.bind_none Option.map_some Option.map_none Option.isSome_some Option.isSome_none
attribute [local go_sem] yP zb zA5 yW qw zAs zAt zAu zAv zAw zAx zAD zAE zAF zAG zAH zAI zAJ zAK yR qt
noncomputable def zBb(n:Nat)(P:Nat->Prop):Int:=@dite _ (∃k,k<n/\P k/\∀j,j<k->¬P j) (Classical.propDecidable _) (fun h=>(h.choose:Int)) (fun _=>-1)
theorem zDy{n k:Nat}{P:Nat->Prop}(h:k<n)(h1:P k)(h2:∀j,j<k->¬P j):zBb n P=k:=by
 have hx:∃k,k<n/\P k/\∀j,j<k->¬P j:=⟨k,h,h1,h2⟩;unfold zBb;rw[dif_pos hx];obtain⟨-,g1,g2⟩:=hx.choose_spec;rcases Nat.lt_trichotomy hx.choose k with e | e | e
 ·exact absurd g1 (h2 _ e)
 ·exact congrArg _ e
 ·exact absurd h1 (g2 _ e)
theorem zQP{n:Nat}{P:Nat->Prop}(h:∀k,k<n->¬P k):zBb n P = -1:=dif_neg fun ⟨k,h1,h2,_⟩=>h k h1 h2
theorem zEY(n:Nat)(P:Nat->Prop):zPy n P (zBb n P):=by
 by_cases hx:∃k,k<n/\P k/\∀j,j<k->¬P j
 ·obtain⟨k,h,h1,h2⟩:=hx;exact .inl ⟨k,h,h1,h2,zDy h h1 h2⟩
 ·have hn:∀m,m<=n->∀j,j<m->¬P j:=fun m=>by
   induction m with
   | zero=>intro _ j hj;omega
   | succ m ih=>
    intro hm j hj hp;by_cases e:j<m
    ·exact ih (by omega) j e hp
    ·cases (show j=m by omega);exact hx ⟨m,by omega,hp,ih (by omega)⟩
  exact .inr ⟨hn n (Nat.le_refl _),zQP (hn n (Nat.le_refl _))⟩
noncomputable def zcU:zX:=qk (fun q:zB×Int=>[woT q.1,iT q.2]) (fun q=>q.1.pn<=1000000) (fun q=>[iT (zBb q.1.pn fun k=>(q.1.zeJ k).id=q.2)])
theorem zCA(W:zB)(x:Int):zcU [woT W,iT x]=some (W.pn<=1000000,[iT (zBb W.pn fun k=>(W.zeJ k).id=x)]):=zO (fun l=>(zCW (nth l 0),qM (nth l 1 0))) (fun _=>rfl) (W,x)
theorem zC5:zy Tryz.prog 27 zcU:=by
 refine zQ qA GOk.nil zz Tryz.func27 rfl Tryz.ntmps27 Tryz.results27 6 ?_;rintro⟨W,x⟩ hn;replace hn:W.pn<=1000000:=hn;refine⟨by simp,?_⟩;simp[go_sem];refine yE (fun k:Nat=>⟨[(2,true,.m false [.p 2 0]),(1,true,.i x),(5,true,.i k)],[(2,.var ((woL W).map Tr.cv))]⟩) (fun k=>W.pn - k) (fun k=>k<=W.pn/\∀i,i<k->(W.zeJ i).id≠x) 0 (by simp[go_sem]) (by simp) ?_;rintro k ⟨hk,aA⟩;simp[go_sem,qB (show k<=1000000000 by omega)];refine⟨fun hl=>⟨hl,fun h=>(zDy hl h aA).symm,fun h=>⟨k+1,⟨by omega,yJ hl aA h⟩,by omega,rfl⟩⟩,fun hl=>(zQP fun i hi=>aA i (by omega)).symm⟩
noncomputable def zdo:zX:=qk (fun q:zB×ByteArray=>[woT q.1,sT q.2]) (fun q=>q.1.sn<=1000000) (fun q=>[iT (zBb q.1.sn fun k=>(q.1.zeK k).name=q.2)])
theorem zAR(W:zB)(x:ByteArray):zdo [woT W,sT x]=some (W.sn<=1000000,[iT (zBb W.sn fun k=>(W.zeK k).name=x)]):=zO (fun l=>(zCW (nth l 0),zDP (nth l 1 0))) (fun _=>rfl) (W,x)
theorem zDH:zy Tryz.prog 26 zdo:=by
 refine zQ qA GOk.nil zz Tryz.func26 rfl Tryz.ntmps26 Tryz.results26 6 ?_;rintro⟨W,x⟩ hn;replace hn:W.sn<=1000000:=hn;refine⟨by simp,?_⟩;simp[go_sem];refine yE (fun k:Nat=>⟨[(2,true,.m false [.p 2 0]),(1,true,.m false [.v (.string x)]),(5,true,.i k)],[(2,.var ((woL W).map Tr.cv))]⟩) (fun k=>W.sn - k) (fun k=>k<=W.sn/\∀i,i<k->(W.zeK i).name≠x) 0 (by simp[go_sem]) (by simp) ?_;rintro k ⟨hk,aA⟩;simp[go_sem,qB (show k<=1000000000 by omega)];refine⟨fun hl=>⟨hl,fun h=>(zDy hl (zCg h) aA).symm,fun h=>⟨k+1,⟨by omega,yJ hl aA fun e=>h (congrArg ByteArray.toList e)⟩,by omega,rfl⟩⟩,fun hl=>(zQP fun i hi=>aA i (by omega)).symm⟩
noncomputable def zDt(W:zB)(x:Int):zl:=@ite _ (x=0) (Int.instDecidableEq x 0) zAV (zE W x)
noncomputable def zYo:zX:=qk (fun q:zB×Int=>[woT q.1,iT q.2]) (fun q=>q.1.pn<=1000000) (fun q=>[pT (zDt q.1 q.2).rs (zDt q.1 q.2).rb,iT (zDt q.1 q.2).time])
theorem zEJ(W:zB)(x:Int):zYo [woT W,iT x]=some (W.pn<=1000000,[pT (zDt W x).rs (zDt W x).rb,iT (zDt W x).time]):=zO (fun l=>(zCW (nth l 0),qM (nth l 1 0))) (fun _=>rfl) (W,x)
theorem zDj:zy Tryz.prog 39 zYo:=by
 refine zQ qA (GOk.cons zC5 (zG Tryz.func27 rfl rfl) GOk.nil) zz Tryz.func39 rfl Tryz.ntmps39 Tryz.results39 7 ?_;rintro⟨W,x⟩ hn;replace hn:W.pn<=1000000:=hn;refine⟨by simp,?_⟩;simp[go_sem,zCA,hn];obtain⟨k,h1,h2,h3,h4⟩ | ⟨h1,h2⟩:=zEY W.pn fun k=>(W.zeJ k).id=x
 ·rw[h4];have ha:zE W x=W.zeJ k:=yQ ⟨h1,h2,h3⟩;refine⟨fun h=>?_,fun h0 _=>⟨⟨by omega,by omega⟩,by kernel_rfl,?_⟩⟩
  ·have h0:x=0:=(by omega);rw[show zDt W x=zAV from if_pos h0];exact⟨⟨rfl,rfl⟩,rfl⟩
  ·rw[show zDt W x=zE W x from if_neg h0,ha];exact⟨⟨rfl,rfl⟩,rfl⟩
 ·rw[h2];refine⟨fun _=>?_,fun _ h=>absurd h (by decide)⟩;by_cases h0:x=0
  ·rw[show zDt W x=zAV from if_pos h0];exact⟨⟨rfl,rfl⟩,rfl⟩
  ·rw[show zDt W x=zE W x from if_neg h0,zGq h1];exact⟨⟨rfl,rfl⟩,rfl⟩
def nwW(x:Int):zB:=if 0<=x/\x<=200 then⟨zEw x.toNat,1,1,0,fun _=>⟨⟨#[]⟩,0,0,0,0,0,fun _=>0,fun _=>0⟩,0,fun _=>zAV⟩else⟨zEw 0,0,0,0,fun _=>⟨⟨#[]⟩,0,0,0,0,0,fun _=>0,fun _=>0⟩,0,fun _=>zAV⟩
noncomputable def zca:zX:=qk (fun x:Int=>[iT x]) (fun _=>True) (fun x=>[woO (nwW x)])
theorem zZL(x:Int):zca [iT x]=some (True,[woO (nwW x)]):=zO (fun l=>qM (nth l 0 0)) (fun _=>rfl) x
theorem zRN:zy Tryz.prog 82 zca:=by
 refine zQ qA (GOk.cons zHm (zG Tryz.func105 rfl rfl) (GOk.cons zTF (zG Tryz.func127 rfl rfl) GOk.nil)) zz Tryz.func82 rfl Tryz.ntmps82 Tryz.results82 4 ?_;rintro x -;refine⟨by simp,?_⟩;simp[go_sem,zNJ,zY1];refine⟨fun h=>?_,fun h1 h2=>?_⟩
 ·rw[show nwW x=_ from if_neg fun e=>absurd (h e.1) (by omega)];exact⟨rfl,rfl,rfl,rfl,rfl,rfl⟩
 ·rw[show nwW x=_ from if_pos ⟨h1,h2⟩,show zIl x=x.toNat from if_pos ⟨h1,h2⟩];exact⟨⟨TrE.refl _,zW⟩,⟨TrE.refl _,zm⟩,rfl,rfl,rfl,rfl⟩
section
variable {w : World} {g : Nat -> Bs} {fl : Fl}
theorem zH2{k n:Nat}{f:Nat->Nat->Tr}{u:Value}(hs:Sh w g (.s fl k n f) u):∃a c,u = .slice a n c/\n<=c/\(0<n->∃b o,a=some ⟨b,o,none⟩/\0<=b/\b<w.heap.size/\∀i,i<n->∀j,j<k->∃u,w.cell? ⟨b,o+i*k+j,none⟩=some u/\Sh w g (f i j) u):=by
 obtain⟨a,c,rfl,hc,hx⟩:=hs;refine⟨a,c,rfl,hc,fun h0=>?_⟩;obtain⟨b,o,ha,hb,-,aA⟩:=hx h0;refine⟨b,o,ha,Nat.zero_le _,hb,fun i hi j hj=>?_⟩;rw[Nat.add_assoc];exact aA i j hi hj
theorem zao{n:Nat}{h:Nat->Int}{u:Value}(hs:Sh w g (.s fl 1 n (yT h)) u)(hn:n<=maxLen):zCn w 0 w.heap.size u n h:=by
 obtain⟨a,c,rfl,hc,hx⟩:=zH2 hs;refine⟨hn,a,c,rfl,hc,fun h0=>?_⟩;obtain⟨b,o,ha,h1,h2,aA⟩:=hx h0;refine⟨b,o,ha,h1,h2,fun i hi=>?_⟩;obtain⟨u,hu,e⟩:=aA i hi 0 (by omega);rw[Nat.mul_one,Nat.add_zero]at hu;rw[hu,e.1]
theorem zQG{n:Nat}{f h:Nat->Int}{u:Value}(hs:Sh w g (.s fl 2 n (ptrsT f h)) u)(hn:n<=maxLen):qn w 0 w.heap.size u n f h:=by
 obtain⟨a,c,rfl,hc,hx⟩:=zH2 hs;refine⟨hn,a,c,rfl,hc,fun h0=>?_⟩;obtain⟨b,o,ha,h1,h2,aA⟩:=hx h0;refine⟨b,o,ha,h1,h2,fun i hi=>?_⟩;obtain⟨u,hu,e⟩:=aA i hi 0 (by omega);obtain⟨u',bA,e'⟩:=aA i hi 1 (by omega);rw[Nat.add_zero]at hu;exact⟨by rw[hu,e.1],by rw[bA,e'.1]⟩
theorem zX3{n:Nat}{s:Nat->zN}{u:Value}(hs:Sh w g (.s fl 3 n (zk fl s)) u)(hn:n<=maxLen)(hk:∀i,i<n->(s i).kn<=maxLen/\(s i).data.size<=maxLen):zA3 w 0 w.heap.size u n s:=by
 obtain⟨a,c,rfl,hc,hx⟩:=zH2 hs;refine⟨hn,a,c,rfl,hc,fun h0=>?_⟩;obtain⟨b,o,ha,h1,h2,aA⟩:=hx h0;refine⟨b,o,ha,h1,h2,fun i hi=>?_⟩;obtain⟨u,hu,e⟩:=aA i hi 0 (by omega);obtain⟨u',bA,e'⟩:=aA i hi 1 (by omega);obtain⟨u2,cA,e2⟩:=aA i hi 2 (by omega);rw[Nat.add_zero]at hu;exact⟨u,u',u2,hu,bA,cA,e.1,zQG e' (hk i hi).1,e2.1,(hk i hi).2⟩
theorem zap{n:Nat}{s:Nat->qi}{u:Value}(hs:Sh w g (.s fl 6 n (setsE fl s)) u)(hn:n<=maxLen)(hk:∀i,i<n->(s i).dn<=maxLen/\(s i).name.size<=maxLen):zCo w 0 w.heap.size u n s:=by
 obtain⟨a,c,rfl,hc,hx⟩:=zH2 hs;refine⟨hn,a,c,rfl,hc,fun h0=>?_⟩;obtain⟨b,o,ha,h1,h2,aA⟩:=hx h0;refine⟨b,o,ha,h1,h2,fun i hi=>?_⟩;obtain⟨u0,bA,e0⟩:=aA i hi 0 (by omega);obtain⟨u1,cA,e1⟩:=aA i hi 1 (by omega);obtain⟨u2,dA,e2⟩:=aA i hi 2 (by omega);obtain⟨u3,eA,e3⟩:=aA i hi 3 (by omega);obtain⟨u4,fA,e4⟩:=aA i hi 4 (by omega);obtain⟨u5,gA,e5⟩:=aA i hi 5 (by omega);rw[Nat.add_zero]at bA;exact⟨u5,by rw[bA,e0.1],by rw[cA,e1.1],by rw[dA,e2.1],by rw[eA,e3.1],by rw[fA,e4.1],gA,zQG e5 (hk i hi).1,(hk i hi).2⟩
theorem zX4{n:Nat}{s:Nat->zl}{u:Value}(hs:Sh w g (.s fl 8 n (snapsE fl s)) u)(hn:n<=maxLen)(hk:∀i,i<n->(s i).dn<=maxLen/\(s i).name.size<=maxLen/\(s i).set.size<=maxLen):zB1 w 0 w.heap.size u n s:=by
 obtain⟨a,c,rfl,hc,hx⟩:=zH2 hs;refine⟨hn,a,c,rfl,hc,fun h0=>?_⟩;obtain⟨b,o,ha,h1,h2,aA⟩:=hx h0;refine⟨b,o,ha,h1,h2,fun i hi=>?_⟩;obtain⟨u0,bA,e0⟩:=aA i hi 0 (by omega);obtain⟨u1,cA,e1⟩:=aA i hi 1 (by omega);obtain⟨u2,dA,e2⟩:=aA i hi 2 (by omega);obtain⟨u3,eA,e3⟩:=aA i hi 3 (by omega);obtain⟨u4,fA,e4⟩:=aA i hi 4 (by omega);obtain⟨u5,gA,e5⟩:=aA i hi 5 (by omega);obtain⟨u6,iA,e6⟩:=aA i hi 6 (by omega);obtain⟨u7,jA,e7⟩:=aA i hi 7 (by omega);rw[Nat.add_zero]at bA;exact⟨u7,by rw[bA,e0.1],by rw[cA,e1.1],by rw[dA,e2.1],by rw[eA,e3.1],by rw[fA,e4.1],by rw[gA,e5.1],by rw[iA,e6.1],jA,zQG e7 (hk i hi).1,(hk i hi).2⟩
end
def zRD(w:World)(g:Nat->Bs)(lo:Nat):Prop:=∀b,lo<=b->b<w.heap.size->g b = .fz none
section
variable {w : World} {g : Nat -> Bs} {lo hi : Nat}
theorem zRD.ok(h:zRD w g lo){b e:Nat}(h1:lo<=b)(h2:b<w.heap.size):(g b).ok .z e:=by
 rw[h b h1 h2];exact .inr fun l e=>by cases e
theorem zJl{b j:Nat}{v:Value}(h:w.cell? ⟨b,j,none⟩=some v):b<w.heap.size:=zH h
theorem zbS(hk:zRD w g lo){v:Value}{n:Nat}{f:Nat->Int}(h:zCn w lo hi v n f):Sh w g (.s .z 1 n (yT f)) v:=by
 obtain⟨h0,a,cap,rfl,hc,hx⟩:=h;refine⟨a,cap,rfl,hc,fun hn=>?_⟩;obtain⟨b,o,ha,h1,h2,h3⟩:=hx hn;have hb:=zJl (h3 0 hn);refine⟨b,o,ha,hb,hk.ok h1 hb,fun i j hi hj=>?_⟩;cases (show j=0 by omega);exact⟨_,by rw[Nat.mul_one,Nat.add_zero];exact h3 i hi,rfl,rfl⟩
theorem zL3(hk:zRD w g lo){v:Value}{n:Nat}{f f':Nat->Int}(h:qn w lo hi v n f f'):Sh w g (.s .z 2 n (ptrsT f f')) v:=by
 obtain⟨h0,a,cap,rfl,hc,hx⟩:=h;refine⟨a,cap,rfl,hc,fun hn=>?_⟩;obtain⟨b,o,ha,h1,h2,h3⟩:=hx hn;have hb:=zJl (h3 0 hn).1;refine⟨b,o,ha,hb,hk.ok h1 hb,fun i j hi hj=>?_⟩
 match j,hj with
 | 0,_=>exact⟨_,(h3 i hi).1,rfl,rfl⟩
 | 1,_=>exact⟨_,(h3 i hi).2,rfl,rfl⟩
theorem zZd(hk:zRD w g lo){v:Value}{n:Nat}{f:Nat->zN}(h:zA3 w lo hi v n f):Sh w g (.s .z 3 n (zk .z f)) v:=by
 obtain⟨h0,a,cap,rfl,hc,hx⟩:=h;refine⟨a,cap,rfl,hc,fun hn=>?_⟩;obtain⟨b,o,ha,h1,h2,h3⟩:=hx hn;have hb:b<w.heap.size:=by obtain⟨_,_,_,h,_⟩:=h3 0 hn;exact zJl h
 refine⟨b,o,ha,hb,hk.ok h1 hb,fun i j hi hj=>?_⟩;obtain⟨v0,v1,v2,c0,c1,c2,e0,e1,e2,e3⟩:=h3 i hi
 match j,hj with
 | 0,_=>exact⟨_,c0,e0,rfl⟩
 | 1,_=>exact⟨_,c1,zL3 hk e1⟩
 | 2,_=>exact⟨_,c2,e2,rfl⟩
theorem zbT(hk:zRD w g lo){v:Value}{n:Nat}{f:Nat->qi}(h:zCo w lo hi v n f):Sh w g (.s .z 6 n (setsE .z f)) v:=by
 obtain⟨h0,a,cap,rfl,hc,hx⟩:=h;refine⟨a,cap,rfl,hc,fun hn=>?_⟩;obtain⟨b,o,ha,h1,h2,h3⟩:=hx hn;have hb:b<w.heap.size:=by obtain⟨_,h⟩:=h3 0 hn;exact zJl h.c0
 refine⟨b,o,ha,hb,hk.ok h1 hb,fun i j hi hj=>?_⟩;obtain⟨vd,h⟩:=h3 i hi
 match j,hj with
 | 0,_=>exact⟨_,h.c0,rfl,rfl⟩
 | 1,_=>exact⟨_,h.c1,rfl,rfl⟩
 | 2,_=>exact⟨_,h.c2,rfl,rfl⟩
 | 3,_=>exact⟨_,h.c3,rfl,rfl⟩
 | 4,_=>exact⟨_,h.c4,rfl,rfl⟩
 | 5,_=>exact⟨_,h.c5,zL3 hk h.dead⟩
theorem zZe(hk:zRD w g lo){v:Value}{n:Nat}{f:Nat->zl}(h:zB1 w lo hi v n f):Sh w g (.s .z 8 n (snapsE .z f)) v:=by
 obtain⟨h0,a,cap,rfl,hc,hx⟩:=h;refine⟨a,cap,rfl,hc,fun hn=>?_⟩;obtain⟨b,o,ha,h1,h2,h3⟩:=hx hn;have hb:b<w.heap.size:=by obtain⟨_,h⟩:=h3 0 hn;exact zJl h.c0
 refine⟨b,o,ha,hb,hk.ok h1 hb,fun i j hi hj=>?_⟩;obtain⟨vd,h⟩:=h3 i hi
 match j,hj with
 | 0,_=>exact⟨_,h.c0,rfl,rfl⟩
 | 1,_=>exact⟨_,h.c1,rfl,rfl⟩
 | 2,_=>exact⟨_,h.c2,rfl,rfl⟩
 | 3,_=>exact⟨_,h.c3,rfl,rfl⟩
 | 4,_=>exact⟨_,h.c4,rfl,rfl⟩
 | 5,_=>exact⟨_,h.c5,rfl,rfl⟩
 | 6,_=>exact⟨_,h.c6,rfl,rfl⟩
 | 7,_=>exact⟨_,h.c7,zL3 hk h.dead⟩
end
end Go.Proofs.YtjganmlaooofoaaGreatDoor

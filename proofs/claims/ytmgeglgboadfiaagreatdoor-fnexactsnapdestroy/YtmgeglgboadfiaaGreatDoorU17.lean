/- A part of the proof. -/
import Derived.Test.YtmgeglgboadfiaaGreatDoorU16
import Derived.ArgAppend
set_option linter.unusedVariables false
set_option maxRecDepth 20000
set_option maxHeartbeats 4000000
namespace Go.Proofs.YtmgeglgboadfiaaGreatDoor
open Go.RowKit
def del{α : Type}(f:Nat->α)(k:Nat):Nat->α:=fun i=>if i<k then f i else f (i+1)
def zEU(k j m:Nat):Nat:=if m<k then m else if m+1<j then m+1 else m
theorem zKe{b:Nat}:∀(l:List Value) (o:Nat) (w:World),zF (fun j=>j=b) w (w.setCells b o l)
 | [],_,w=>zF.refl _ _
 | v :: l,o,w=>(zF.put w b o v).trans (zKe l (o+1) _)
theorem zD5{b:Nat}{x:Nat}{u:Value}:∀(l:List Value) (o:Nat) (w:World),zQ w b x u->x<o->zQ (w.setCells b o l) b x u
 | [],_,w,h,_=>h
 | v :: l,o,w,h,hx=>zD5 l (o+1) _ (h.zPA _ (Or.inr (by omega))) (by omega)
def zBb(W:zE)(x:Int)(i:Nat):Prop:=i<W.pn/\(W.zPD i).zPH=x/\(∀j,j<W.pn->j≠i->(W.zPD j).zPH≠x)/\∀j,j<W.sn->(W.zPG j).zPH≠x
def zBc(W:zE)(x:Int)(i:Nat):Prop:=i<W.sn/\(W.zPG i).zPH=x/\(∀j,j<W.sn->j≠i->(W.zPG j).zPH≠x)/\∀j,j<W.pn->(W.zPD j).zPH≠x
theorem zCa{f:Nat->Int}{x:Int}:∀{n:Nat},yt f x n=0->∀j,j<n->f j≠x
 | 0,_,j,hj=>absurd hj (Nat.not_lt_zero _)
 | n+1,h,j,hj=>by
  by_cases e:f n=x
  ·rw[zCZ e]at h;omega
  ·rw[zDo e]at h;by_cases aA:j=n
   ·rw[aA];exact e
   ·exact zCa h j (by omega)
theorem zJg{f:Nat->Int}{x:Int}{n i:Nat}(hi:i<n)(h:f i=x):1<=yt f x n:=by
 rcases Nat.eq_zero_or_pos (yt f x n)with h0 | h0
 ·exact absurd h (zCa h0 i hi)
 ·exact h0
theorem zGQ{f:Nat->Int}{x:Int}:∀{n:Nat},yt f x n=1->∃i,i<n/\f i=x/\∀j,j<n->j≠i->f j≠x
 | 0,h=>absurd h (by simp[yt])
 | n+1,h=>by
  by_cases e:f n=x
  ·rw[zCZ e]at h;exact⟨n,by omega,e,fun j hj aA=>zCa (n:=n) (by omega) j (by omega)⟩
  ·rw[zDo e]at h;obtain⟨i,hi,h1,h2⟩:=zGQ h;refine⟨i,by omega,h1,fun j hj aA=>?_⟩;by_cases bA:j=n
   ·rw[bA];exact e
   ·exact h2 j (by omega) aA
theorem zLy{W:zE}{x:Int}(h:yw W x=1):(∃i,zBb W x i)\/∃i,zBc W x i:=by
 unfold yw at h;rcases Nat.eq_zero_or_pos (yt (fun i=>(W.zPG i).zPH) x W.sn)with h0 | h0
 ·rw[h0,Nat.zero_add]at h;obtain⟨i,hi,h1,h2⟩:=zGQ h;exact Or.inl ⟨i,hi,h1,h2,zCa h0⟩
 ·obtain⟨i,hi,h1,h2⟩:=zGQ (f:=fun i=>(W.zPG i).zPH) (x:=x) (n:=W.sn) (by omega);exact Or.inr ⟨i,hi,h1,h2,zCa (f:=fun i=>(W.zPD i).zPH) (n:=W.pn) (by omega)⟩
theorem zIE(W:zE)(name:ByteArray){a:Nat}:∀{b:Nat},a<=b->yH W name a<=yH W name b
 | 0,h=>by cases (show a=0 from by omega);exact Nat.le_refl _
 | b+1,h=>by
  by_cases e:a=b+1
  ·rw[e];exact Nat.le_refl _
  ·have:=zIE W name (show a<=b by omega);by_cases hq:(W.zPD b).set=name
   ·rw[zDZ hq];omega
   ·rw[zGD hq];exact this
theorem zJF{W:zE}{name:ByteArray}{a b:Nat}(h:a<b)(ha:(W.zPD a).set=name):yH W name a<yH W name b:=by
 have:=zIE W name (show a+1<=b by omega);rw[zDZ ha]at this;omega
theorem zKU{W:zE}{name:ByteArray}{start:Int}:∀{n:Nat} {e:Int},zAD W name start n e->∀m,m<n->∃x k,zAD W name start m x/\qM W x k/\(W.zPD k).set=name
 | 0,_,_,m,hm=>absurd hm (Nat.not_lt_zero _)
 | n+1,_,.next (x:=x) (k:=k) h hk hs,m,hm=>by
  by_cases e:m=n
  ·rw[e];exact⟨x,k,h,hk,hs⟩
  ·exact zKU h m (by omega)
theorem zEX{W:zE}{name:ByteArray}{start:Int}(hl:∀k,k<W.pn->(W.zPD k).zPH<(W.zPD k).id):∀{n:Nat} {x:Int},zAD W name start n x->∀{m:Nat} {y:Int},zAD W name start m y->m<n->x<y
 | 0,_,_,m,_,_,hm=>absurd hm (Nat.not_lt_zero _)
 | n+1,_,.next (x:=x) (k:=k) h hk hs,m,y,hy,hm=>by
  have h1:=hl k hk.1;have h2:=hk.2.1;by_cases e:m=n
  ·subst e;have:=zAD.det h hy;omega
  ·have:=zEX hl h hy (by omega);omega
open Classical in
theorem zOI{W:zE}{name:ByteArray}{start origin:Int}(hl:∀k,k<W.pn->(W.zPD k).zPH<(W.zPD k).id)(hL:zAe W name start origin){k:Nat}(hk:k<W.pn)(hs:(W.zPD k).set=name):∃m,zAD W name start m (W.zPD k).id:=by
 refine Classical.byContradiction fun aA=>?_
 obtain⟨n,e,bA,-,hn,-⟩:=hL;have key:∀m,∃i,i<W.pn/\(W.zPD i).set=name/\(m<n->zAD W name start m (W.zPD i).id)/\(¬m<n->i=k):=fun m=>by
  by_cases hm:m<n
  ·obtain⟨x,i,h1,h2,h3⟩:=zKU bA m hm;exact⟨i,h2.1,h3,fun _=>by rw[h2.2.1];exact h1,fun h=>absurd hm h⟩
  ·exact⟨k,hk,hs,fun h=>absurd h hm,fun _=>rfl⟩
 have:=zJI (n+1) (yH W name W.pn) (fun m=>yH W name (key m).choose) (fun i _=>zJF (key i).choose_spec.1 (key i).choose_spec.2.1) (fun i j hi hj e=>by
  have ki:=(key i).choose_spec;have kj:=(key j).choose_spec;have e2:(key i).choose=(key j).choose:=by
   rcases Nat.lt_trichotomy (key i).choose (key j).choose with h | h | h
   ·have:=zJF h ki.2.1;omega
   ·exact h
   ·have:=zJF h kj.2.1;omega
  by_cases h1:i<n
  ·by_cases h2:j<n
   ·have a:=ki.2.2.1 h1;have b:=kj.2.2.1 h2;rw[e2]at a;rcases Nat.lt_trichotomy i j with h | h | h
    ·have:=zEX hl b a h;omega
    ·exact h
    ·have:=zEX hl a b h;omega
   ·exact absurd ⟨i,by have a:=ki.2.2.1 h1;rw[e2,kj.2.2.2 h2]at a;exact a⟩ aA
  ·by_cases h2:j<n
   ·exact absurd ⟨j,by have a:=kj.2.2.1 h2;rw[<-e2,ki.2.2.2 h1]at a;exact a⟩ aA
   ·omega)
 omega
theorem zNY{W:zE}(hI:yk W){x:Int}(h:qD W x):1<=yw W x:=by
 obtain⟨k,hk,rfl⟩:=h;obtain⟨i,hi,e⟩:=(hI.zPL.zPD.2.1 k hk).1;obtain⟨m,hm⟩:=zOI (fun k hk=>(hI.zPL.zPD.2.1 k hk).2.2.1) (hI.lines i hi) hk e.symm;unfold yw;generalize hx:(W.zPD k).id=x at hm;cases hm with
 | zero=>
  have:=zJg (f:=fun i=>(W.zPG i).zPH) hi rfl;omega
 | next h hk' hs'=>
  have:=zJg (f:=fun i=>(W.zPD i).zPH) hk'.1 rfl;omega
noncomputable def sdY(W:zE)(g:zY)(n:Nat)(f h:Nat->Int):List (Int×Int):=zy f h (zK W g.zPH).time n
noncomputable def sdO(W:zE)(g:zY)(n:Nat)(f h:Nat->Int):List (Int×Int):=zAJ f h (zK W g.zPH).time n
noncomputable def sdD(W:zE)(g:zY)(n:Nat)(f h:Nat->Int):List (Int×Int):=qu g.dn g.ds g.db ++ sdO W g n f h
noncomputable def zJN(W:zE)(g s:zY):zY:={s with zPH:=g.zPH,dn:=(sdD W g s.dn s.ds s.db).length,ds:=zk (sdD W g s.dn s.ds s.db),db:=zn (sdD W g s.dn s.ds s.db)}
noncomputable def zL2(W:zE)(g:zY)(s:zv):zv:={s with zPH:=g.zPH,dn:=(sdD W g s.dn s.ds s.db).length,ds:=zk (sdD W g s.dn s.ds s.db),db:=zn (sdD W g s.dn s.ds s.db)}
noncomputable def zCP(W:zE)(k i:Nat):Nat->zY:=fun j=>if j=i then zJN W (W.zPD k) (W.zPD i)else W.zPD j
noncomputable def zD1(W:zE)(k i:Nat):Nat->zv:=fun j=>if j=i then zL2 W (W.zPD k) (W.zPG i)else W.zPG j
noncomputable def zCQ(W:zE)(k i:Nat):List (Int×Int):=sdY W (W.zPD k) (W.zPD i).dn (W.zPD i).ds (W.zPD i).db
noncomputable def zCR(W:zE)(k i:Nat):List (Int×Int):=sdY W (W.zPD k) (W.zPG i).dn (W.zPG i).ds (W.zPG i).db
noncomputable def zG0(W:zE)(k i:Nat):zE:={W with zPE:=zq W.zPE (zCQ W k i),pn:=W.pn - 1,zPD:=del (zCP W k i) k}
noncomputable def zG1(W:zE)(k i:Nat):zE:={W with zPE:=zq W.zPE (zCR W k i),zPG:=zD1 W k i,pn:=W.pn - 1,zPD:=del W.zPD k}
theorem zMh{n:Nat}{f g:Nat->Int}{x:Int×Int}(h:x∈qu n f g):∃j,j<n/\f j=x.1/\g j=x.2:=by
 unfold qu at h;obtain⟨j,hj,rfl⟩:=List.mem_map.1 h;exact⟨j,List.mem_range.1 hj,rfl,rfl⟩
theorem zH1{W:zE}(hS:zGN W){i:Nat}(hi:i<zm W)(t:Int):qN (zJ W i).dn (zJ W i).ds (zJ W i).db/\yN W.zPE (zy (zJ W i).ds (zJ W i).db t (zJ W i).dn):=by
 have hD:zBm W i:=by
  by_cases hp:i<W.pn
  ·exact hS.zPK i hp
  ·have:=(hS.zPG (i - W.pn) (by unfold zm at hi;omega)).2
   rwa [show W.pn+(i - W.pn)=i by omega]at this
 obtain⟨h1,-,-,bA⟩:=hD;refine⟨h1,?_⟩;have hH:yN W.zPE (qu (zJ W i).dn (zJ W i).ds (zJ W i).db):=by
  refine⟨hS.right,fun x hx=>?_,?_⟩
  ·obtain⟨j,hj,e1,e2⟩:=zMh hx;have hm:=zAc.1 (bA j hj);rw[e1,e2]at hm;unfold yu at hm;have:=zAF hS.right (zLG hS.zPD (zJ W i).zPH) (List.mem_filter.1 hm).1;exact⟨this.1,this.2.2⟩
  ·unfold qu;rw[List.map_map];unfold List.Nodup;rw[List.pairwise_map];refine List.pairwise_iff_getElem.2 fun a b ha hb aA=>?_
   rw[List.length_range]at ha hb;rw[List.getElem_range,List.getElem_range];exact fun e=>h1.2.2 b hb a aA e
 exact hH.sub (zFh _ _ _ _)
theorem zJX{w:World}(ty:TypeId)(a ao:Option Addr)(c:Nat):(Builtin.append_ #[62,62] ty #[.slice a 0 0,.slice ao 0 c]).run Tryz.prog w = .ok (.slice a 0 0) w:=by
 obtain⟨i0,aA,bA⟩:=Option.map_eq_some_iff.1 zBS;have ht:Tryz.prog.underlying 62=some (.slice 61):=by kernel_rfl
 cases a<;>cases ao<;>simp[Builtin.append_,run_underlying ht,sizeOf,typeInfo,aA,Builtin.lenOf,Builtin.firstCells,storeCells,loadCells,loadCellsFrom]
theorem zFv{w:World}{kb n lo hi:Nat}{kv vo:Value}{f g:Nat->Int}{l:List (Int×Int)}(ho:zj w kb kv n f g)(hB:yU w 61 2 kv n)(hv:zR w lo hi vo l.length (zk l) (zn l))(hn:n+l.length<=4000000)(ty:TypeId) :
  ∃a c w' nb,(Builtin.append_ #[62,62] ty #[kv,vo]).run Tryz.prog w = .ok (.slice a (n+l.length) c) w'/\zj w' nb (.slice a (n+l.length) c) (qu n f g ++ l).length (zk (qu n f g ++ l)) (zn (qu n f g ++ l))/\zF (fun j=>0<n/\j=kb) w w'/\(0<n+l.length->(0<n/\nb=kb)\/(w.heap.size<=nb/\nb<w'.heap.size)):=by
 obtain⟨i0,jA,nA⟩:=Option.map_eq_some_iff.1 zBS;simp only[Prod.mk.injEq]at nA;obtain⟨cB,bB,pA⟩:=nA;have ht:Tryz.prog.underlying 62=some (.slice 61):=by kernel_rfl
 have eA:(qu n f g ++ l).length=n+l.length:=by rw[List.length_append,qq]
 have lA:0<n->kv.ownBlock=some kb:=fun h0=>by
  obtain⟨_,a,c,hv,_,hx⟩:=ho;obtain⟨off,ha,_⟩:=hx h0;rw[hv,ha];rfl
 have cA:0<n->∀q,kv.ownBlock=some q->∀j u,(pcl (qu n f g))[j]?=some u->w.cell? ⟨q,j,none⟩=some u:=fun h0 q hq j u hj=>by
  have tA:j<n*2:=by
   have:=(List.getElem?_eq_some_iff.1 hj).1
   rwa [zAX,qq]at this
  obtain⟨_,a,c,mA,_,hx⟩:=ho;obtain⟨off,iA,aA⟩:=hx h0;rcases hB with⟨e,_⟩ | ⟨_,g',oA,dB,gA,_⟩
  ·omega
  ·rw[mA,iA]at gA;simp only[Value.slice.injEq,Option.some.injEq,Addr.mk.injEq,and_true,true_and]at gA;obtain⟨⟨rfl,rfl⟩,rfl⟩:=gA;rw[mA,iA]at hq;obtain rfl:kb=q:=(by injection hq);obtain⟨i,hd,dA⟩:∃i,i<n/\(j=i*2\/j=i*2+1):=⟨j / 2,by omega,by omega⟩;have h8:=aA i hd;obtain⟨e1,e2⟩:=zDt (qu n f g) i (by rw[qq];exact hd);have e3:=zDd f g hd;unfold zk zn at e3;rw[e3.1]at e1;rw[e3.2]at e2;rcases dA with rfl | rfl
   ·rw[e1]at hj;replace hj:=Option.some.inj hj;have h9:=h8.1.1;rw[Nat.zero_add]at h9;rw[h9,hj]
   ·rw[e2]at hj;replace hj:=Option.some.inj hj;have h9:=h8.2.1;rw[Nat.zero_add]at h9;rw[h9,hj]
 by_cases kA:l.length=0
 ·obtain rfl:l = []:=List.eq_nil_of_length_eq_zero kA;obtain⟨_,ao,co,rfl,_,_⟩:=hv;have bA:∀a c,kv = .slice a n c->zj w kb (.slice a n c) (qu n f g ++ []).length (zk (qu n f g ++ [])) (zn (qu n f g ++ [])):=fun a c e=>by
   rw[List.append_nil,qq];obtain⟨h1,a',c',h2,h3,hx⟩:=ho;rw[e]at h2;cases h2;refine⟨h1,a,c,rfl,h3,fun h0=>?_⟩;obtain⟨off,ha,aA⟩:=hx h0;exact⟨off,ha,fun i hi=>by rw[(zDd f g hi).1,(zDd f g hi).2];exact aA i hi⟩
  rcases Nat.eq_zero_or_pos n with h0 | h0
  ·rcases hB with⟨_,a,rfl⟩ | ⟨hp,_⟩
   ·subst h0;exact⟨a,0,w,kb,zJX ty a ao co,bA a 0 rfl,zF.refl _ _,fun h=>by simp at h⟩
   ·omega
  ·obtain⟨a,c,hv⟩:∃a c,kv = .slice a n c:=(by obtain⟨_,a,c,h,_⟩:=ho;exact⟨a,c,h⟩);have fA:=hB.owns (base:=0) (xs:=pcl (qu n f g)) h0 (by rw[zAX,qq]) (fun _ _=>Nat.zero_le _) (cA h0);exact⟨a,c,w,kb,by rw[show(Value.slice a (n+([]:List (Int×Int)).length) c)=kv from hv.symm];exact zAE 0 62 ty 61 i0 2 co ao ht jA kv n _ fA,bA a c hv,zF.refl _ _,fun _=>Or.inl ⟨h0,rfl⟩⟩
 ·obtain⟨-,ao,co,rfl,-,hx⟩:=hv;obtain⟨b,off,rfl,-,-,aA⟩:=hx (by omega);obtain⟨q,cap,w',row,hr,bA,hg,aB,rA,sA⟩:=yU.append (P:=Tryz.prog) 62 ty 61 i0 _ 2 16 0 ht jA cB bB pA rfl (by decide) hB (xs:=pcl (qu n f g)) (by rw[zAX,qq]) (fun _ _ _=>Nat.zero_le _) cA
   ⟨b,off,none⟩ l.length co (pcl l) (zAX l) (fun j u hj=>by
    have tA:j<l.length*2:=by
     have:=(List.getElem?_eq_some_iff.1 hj).1
     rwa [zAX]at this
    obtain⟨i,hd,dA⟩:∃i,i<l.length/\(j=i*2\/j=i*2+1):=⟨j / 2,by omega,by omega⟩;have h8:=aA i hd;obtain⟨e1,e2⟩:=zDt l i hd;rcases dA with rfl | rfl
    ·rw[e1]at hj;replace hj:=Option.some.inj hj;rw[<-hj,show(⟨b,off,none⟩:Addr).add (i*2)=⟨b,off+i*2,none⟩from by simp[Addr.add]];exact h8.1
    ·rw[e2]at hj;replace hj:=Option.some.inj hj;rw[<-hj,show(⟨b,off,none⟩:Addr).add (i*2+1)=⟨b,off+i*2+1,none⟩from by simp[Addr.add,Nat.add_assoc]];exact h8.2) (zGE l) (by omega) (by unfold maxLen;omega) (by omega) (Nat.zero_le _)
  have hR:qE w' 0 (.slice (some ⟨q,0,none⟩) (n+l.length) cap) (qu n f g ++ l):=by
   unfold qE;rw[eA,zBG];exact bA
  obtain⟨nb,h1,h2⟩:=hR.own (by rw[eA];unfold maxLen;omega);have vA:q=nb:=by
   have:=(h2 (by rw[eA];exact Nat.add_pos_right n (Nat.pos_of_ne_zero kA))).1;simp only[Value.ownBlock]at this;injection this
  subst vA;refine⟨_,_,w',q,hr,h1,(zFF hg).mono ?_,fun _=>?_⟩
  ·intro j hj;rcases aB with h | ⟨h0,h⟩
   ·rw[h]at hj;cases hj
   ·rw[h,lA h0]at hj;injection hj with hj;exact⟨h0,hj.symm⟩
  ·rcases rA with⟨h0,h⟩ | h
   ·rw[lA h0]at h;injection h with h;exact Or.inl ⟨h0,h.symm⟩
   ·exact Or.inr ⟨by omega,sA⟩
theorem zHR{w w':World}{kb n lo hi:Nat}{kv vo r:Value}{f g:Nat->Int}{l:List (Int×Int)}(ho:zj w kb kv n f g)(hB:yU w 61 2 kv n)(hv:zR w lo hi vo l.length (zk l) (zn l))(hn:n+l.length<=4000000)(ty:TypeId)
  (hr:(Builtin.append_ #[62,62] ty #[kv,vo]).run Tryz.prog w = .ok r w'):zj w' kb kv n f g:=by
 obtain⟨i0,kA,vA⟩:=Option.map_eq_some_iff.1 zBS;simp only[Prod.mk.injEq]at vA;obtain⟨kB,tA,cB⟩:=vA;have ht:Tryz.prog.underlying 62=some (.slice 61):=by kernel_rfl
 rcases Nat.eq_zero_or_pos n with h0 | h0
 ·obtain⟨hm,a,c,iA,hc,-⟩:=ho;exact⟨hm,a,c,iA,hc,fun h=>by omega⟩
 have iB:0<n->kv.ownBlock=some kb:=fun h0=>by
  obtain⟨_,a,c,hv,_,hx⟩:=ho;obtain⟨off,ha,_⟩:=hx h0;rw[hv,ha];rfl
 have bA:0<n->∀q,kv.ownBlock=some q->∀j u,(pcl (qu n f g))[j]?=some u->w.cell? ⟨q,j,none⟩=some u:=fun h0 q hq j u hj=>by
  have fB:j<n*2:=by
   have:=(List.getElem?_eq_some_iff.1 hj).1
   rwa [zAX,qq]at this
  obtain⟨_,a,c,iA,_,hx⟩:=ho;obtain⟨off,sA,dA⟩:=hx h0;rcases hB with⟨e,_⟩ | ⟨_,g',aA,aB,oA,_⟩
  ·omega
  ·rw[iA,sA]at oA;simp only[Value.slice.injEq,Option.some.injEq,Addr.mk.injEq,and_true,true_and]at oA;obtain⟨⟨rfl,rfl⟩,rfl⟩:=oA;rw[iA,sA]at hq;obtain rfl:kb=q:=(by injection hq);obtain⟨i,hd,lA⟩:∃i,i<n/\(j=i*2\/j=i*2+1):=⟨j / 2,by omega,by omega⟩;have h8:=dA i hd;obtain⟨e1,e2⟩:=zDt (qu n f g) i (by rw[qq];exact hd);have e3:=zDd f g hd;unfold zk zn at e3;rw[e3.1]at e1;rw[e3.2]at e2;rcases lA with rfl | rfl
   ·rw[e1]at hj;replace hj:=Option.some.inj hj;have h9:=h8.1.1;rw[Nat.zero_add]at h9;rw[h9,hj]
   ·rw[e2]at hj;replace hj:=Option.some.inj hj;have h9:=h8.2.1;rw[Nat.zero_add]at h9;rw[h9,hj]
 have fA:=hB.owns (base:=0) (xs:=pcl (qu n f g)) h0 (by rw[zAX,qq]) (fun _ _=>Nat.zero_le _) (bA h0);by_cases gB:l.length=0
 ·obtain rfl:l = []:=List.eq_nil_of_length_eq_zero gB;obtain⟨_,ao,co,rfl,_,_⟩:=hv;have h1:=(zAE 0 62 ty 61 i0 2 co ao ht kA kv n _ fA).symm.trans hr;have h2:w=w':=(by injection h1);rw[<-h2];exact ho
 ·obtain⟨-,ao,co,rfl,-,hx⟩:=hv;obtain⟨b,off,rfl,-,-,dA⟩:=hx (by omega);have cA:∀j u,(pcl l)[j]?=some u->w.cell? ((⟨b,off,none⟩:Addr).add j)=some u:=(fun j u hj=>by
    have fB:j<l.length*2:=by
     have:=(List.getElem?_eq_some_iff.1 hj).1
     rwa [zAX]at this
    obtain⟨i,hd,lA⟩:∃i,i<l.length/\(j=i*2\/j=i*2+1):=⟨j / 2,by omega,by omega⟩;have h8:=dA i hd;obtain⟨e1,e2⟩:=zDt l i hd;rcases lA with rfl | rfl
    ·rw[e1]at hj;replace hj:=Option.some.inj hj;rw[<-hj,show(⟨b,off,none⟩:Addr).add (i*2)=⟨b,off+i*2,none⟩from by simp[Addr.add]];exact h8.1
    ·rw[e2]at hj;replace hj:=Option.some.inj hj;rw[<-hj,show(⟨b,off,none⟩:Addr).add (i*2+1)=⟨b,off+i*2+1,none⟩from by simp[Addr.add,Nat.add_assoc]];exact h8.2)
  rcases hB with⟨h,_⟩ | ⟨_,g',aA,aB,rfl,hg,h1,h2,h3⟩
  ·omega
  obtain rfl:g'=kb:=by
   have:=iB h0;simpa[Value.ownBlock]using this
  by_cases jA:n+l.length<=aA
  ·obtain⟨w2,mA,nA,-⟩:=run_append_fits (P:=Tryz.prog) w 0 62 ty 61 i0 2 ht kA tA g' n aA _ fA ⟨b,off,none⟩ l.length co (pcl l) (zAX l) cA (zGE l) jA;have e:=mA.symm.trans hr;have e2:w2=w':=(by injection e);subst e2;have gA:(qu n f g ++ l).length=n+l.length:=(by rw[List.length_append,qq]);have hR:qE w2 0 (.slice (some ⟨g',0,none⟩) (n+l.length) aA) (qu n f g ++ l):=by
    unfold qE;rw[gA,zBG];exact nA
   obtain⟨nb,⟨_,a,c,pA,_,jB⟩,_⟩:=hR.own (by rw[gA];unfold maxLen;omega);obtain⟨lB,bB,eA⟩:=jB (by rw[gA];omega);rw[bB]at pA;simp only[Value.slice.injEq,Option.some.injEq,Addr.mk.injEq,and_true]at pA;obtain⟨⟨rfl,rfl⟩,-,-⟩:=pA;obtain⟨hm,a4,c4,rA,dB,-⟩:=ho;refine⟨hm,a4,c4,rA,dB,fun _=>?_⟩;simp only[Value.slice.injEq,true_and]at rA;refine⟨0,rA.1.symm,fun i hi=>?_⟩;have h8:=eA i (by rw[gA];omega);have e1:zk (qu n f g ++ l) i=f i/\zn (qu n f g ++ l) i=g i:=by
    have:=zDd f g hi;unfold zk zn at this ⊢;simp only[List.getD_eq_getElem?_getD]at this ⊢;rw[List.getElem?_append_left (by rw[qq];exact hi)];exact this
   rw[e1.1,e1.2]at h8;exact h8
  ·obtain⟨v2,w2,mA,-,eB⟩:=run_append_arg_grows (P:=Tryz.prog) w 62 ty 61 i0 _ 2 16 ht kA kB tA cB rfl (by decide) ⟨g',0,none⟩ n aA (pcl (qu n f g)) (by rw[zAX,qq]) (fun j u hj=>by
    rw[show(⟨g',0,none⟩:Addr).add j=⟨g',j,none⟩from by simp[Addr.add];omega];exact bA h0 g' rfl j u hj) ⟨b,off,none⟩ l.length co (pcl l) (zAX l) cA (by omega) (by unfold maxLen;omega) (by omega)
   have e:=mA.symm.trans hr;have e2:w2=w':=(by injection e);subst e2;exact ho.zPF (zFF eB) (fun _ h=>by cases h)
theorem zG6{w w':World}{Q:Nat->Prop}{bs off n c:Nat}{kb:Nat->Nat}{kv:Nat->Value}{f:Nat->zv}(hS:qm w bs kb kv (.slice (some ⟨bs,off,none⟩) n c) n f)(aA:zAG kb n f)(cA:∀j,zA4 bs kb n f j->Q j){k:Nat}(hk:k<n){s':zv}{nb:Nat}{nv:Value}
  (ht:zF (fun j=>j=bs\/(0<(f k).dn/\j=kb k)) w w') (hx:∀j,j<n->j≠k->∀r,r<6->∀u,zQ w bs (off+j*6+r) u->zQ w' bs (off+j*6+r) u) (hs:yR w' bs (off+k*6) nb nv s') (fA:0<s'.dn->((0<(f k).dn/\nb=kb k)\/∀j,zA4 bs kb n f j->j≠nb)/\Q nb) :
  yo w' Q (.slice (some ⟨bs,off,none⟩) n c) n (fun j=>if j=k then s' else f j):=by
 have dA:∀i,i<n->i≠k->0<(f i).dn->0<s'.dn->kb i≠nb:=fun i hi gA h1 h2 e=>by
  rcases(fA h2).1 with⟨h3,h4⟩ | h3
  ·exact aA i k hi hk gA h1 h3 (by rw[e,h4])
  ·exact h3 (kb i) (Or.inr ⟨i,hi,h1,rfl⟩) e
 refine⟨bs,(fun j=>if j=k then nb else kb j),(fun j=>if j=k then nv else kv j),?_,?_,?_⟩
 ·obtain⟨hm,a,cap,hv,hc,iA⟩:=hS;simp only[Value.slice.injEq,true_and]at hv;obtain⟨rfl,rfl⟩:=hv;refine⟨hm,_,_,rfl,hc,fun h0=>?_⟩;obtain⟨jA,e,bA⟩:=iA h0;simp only[Option.some.injEq,Addr.mk.injEq,true_and,and_true]at e;subst e;refine⟨off,rfl,fun j hj=>?_⟩;by_cases e:j=k
  ·subst e;simp only[if_true];exact hs
  ·simp only[if_neg e];have h:=bA j hj;exact⟨hx j hj e 0 (by omega) _ h.c0,hx j hj e 1 (by omega) _ h.c1,hx j hj e 2 (by omega) _ h.c2,hx j hj e 3 (by omega) _ h.c3,hx j hj e 4 (by omega) _ h.c4,hx j hj e 5 (by omega) _ h.c5,h.zPK.zPF ht (fun h0 hh=>by
    rcases hh with hh | ⟨h1,hh⟩
    ·exact h.zPJ h0 hh
    ·exact aA j k hj hk e h0 h1 hh),h.zPN,h.zPJ⟩
 ·intro i j hi hj eA h1 h2;show(if i=k then nb else kb i)≠(if j=k then nb else kb j);by_cases e1:i=k
  ·by_cases e2:j=k
   ·exact absurd (e1.trans e2.symm) eA
   ·simp only[if_pos e1]at h1;simp only[if_neg e2]at h2;rw[if_pos e1,if_neg e2];exact fun e=>dA j hj e2 h2 h1 e.symm
  ·simp only[if_neg e1]at h1;by_cases e2:j=k
   ·simp only[if_pos e2]at h2;rw[if_neg e1,if_pos e2];exact dA i hi e1 h1 h2
   ·simp only[if_neg e2]at h2;rw[if_neg e1,if_neg e2];exact aA i j hi hj eA h1 h2
 ·rintro j (⟨h0,rfl⟩ | ⟨i,hi,h0,rfl⟩)
  ·exact cA _ (Or.inl ⟨h0,rfl⟩)
  ·by_cases e:i=k
   ·simp only[if_pos e]at h0 ⊢;exact(fA h0).2
   ·simp only[if_neg e]at h0 ⊢;exact cA _ (Or.inr ⟨i,hi,h0,rfl⟩)
theorem zKQ{w w':World}{Q:Nat->Prop}{bs off n c:Nat}{kb:Nat->Nat}{kv:Nat->Value}{f:Nat->zY}(hS:qI w bs kb kv (.slice (some ⟨bs,off,none⟩) n c) n f)(aA:qw kb n f)(cA:∀j,yq bs kb n f j->Q j){k:Nat}(hk:k<n){s':zY}{nb:Nat}{nv:Value}
  (ht:zF (fun j=>j=bs\/(0<(f k).dn/\j=kb k)) w w') (hx:∀j,j<n->j≠k->∀r,r<8->∀u,zQ w bs (off+j*8+r) u->zQ w' bs (off+j*8+r) u) (hs:qe w' bs (off+k*8) nb nv s') (fA:0<s'.dn->((0<(f k).dn/\nb=kb k)\/∀j,yq bs kb n f j->j≠nb)/\Q nb) :
  ym w' Q (.slice (some ⟨bs,off,none⟩) n c) n (fun j=>if j=k then s' else f j):=by
 have dA:∀i,i<n->i≠k->0<(f i).dn->0<s'.dn->kb i≠nb:=fun i hi gA h1 h2 e=>by
  rcases(fA h2).1 with⟨h3,h4⟩ | h3
  ·exact aA i k hi hk gA h1 h3 (by rw[e,h4])
  ·exact h3 (kb i) (Or.inr ⟨i,hi,h1,rfl⟩) e
 refine⟨bs,(fun j=>if j=k then nb else kb j),(fun j=>if j=k then nv else kv j),?_,?_,?_⟩
 ·obtain⟨hm,a,cap,hv,hc,iA⟩:=hS;simp only[Value.slice.injEq,true_and]at hv;obtain⟨rfl,rfl⟩:=hv;refine⟨hm,_,_,rfl,hc,fun h0=>?_⟩;obtain⟨jA,e,bA⟩:=iA h0;simp only[Option.some.injEq,Addr.mk.injEq,true_and,and_true]at e;subst e;refine⟨off,rfl,fun j hj=>?_⟩;by_cases e:j=k
  ·subst e;simp only[if_true];exact hs
  ·simp only[if_neg e];have h:=bA j hj;exact⟨hx j hj e 0 (by omega) _ h.c0,hx j hj e 1 (by omega) _ h.c1,hx j hj e 2 (by omega) _ h.c2,hx j hj e 3 (by omega) _ h.c3,hx j hj e 4 (by omega) _ h.c4,hx j hj e 5 (by omega) _ h.c5,hx j hj e 6 (by omega) _ h.c6,hx j hj e 7 (by omega) _ h.c7,h.zPK.zPF ht (fun h0 hh=>by
    rcases hh with hh | ⟨h1,hh⟩
    ·exact h.zPJ h0 hh
    ·exact aA j k hj hk e h0 h1 hh),h.zPN,h.zPJ⟩
 ·intro i j hi hj eA h1 h2;show(if i=k then nb else kb i)≠(if j=k then nb else kb j);by_cases e1:i=k
  ·by_cases e2:j=k
   ·exact absurd (e1.trans e2.symm) eA
   ·simp only[if_pos e1]at h1;simp only[if_neg e2]at h2;rw[if_pos e1,if_neg e2];exact fun e=>dA j hj e2 h2 h1 e.symm
  ·simp only[if_neg e1]at h1;by_cases e2:j=k
   ·simp only[if_pos e2]at h2;rw[if_neg e1,if_pos e2];exact dA i hi e1 h1 h2
   ·simp only[if_neg e2]at h2;rw[if_neg e1,if_neg e2];exact aA i j hi hj eA h1 h2
 ·rintro j (⟨h0,rfl⟩ | ⟨i,hi,h0,rfl⟩)
  ·exact cA _ (Or.inl ⟨h0,rfl⟩)
  ·by_cases e:i=k
   ·simp only[if_pos e]at h0 ⊢;exact(fA h0).2
   ·simp only[if_neg e]at h0 ⊢;exact cA _ (Or.inr ⟨i,hi,h0,rfl⟩)
theorem yU.turnedL{S:Nat->Prop}{w w1 w':World}{e:TypeId}{s:Nat}{v:Value}{n:Nat}(h:yU w e s v n)(hb:Below w.heap.size w w1)(t:zF S w1 w')(dA:0<n->∃q,v.ownBlock=some q/\¬S q):yU w' e s v n:=by
 rcases h with h | ⟨h0,g,cap,bA,hv,hg,h1,h2,h3⟩
 ·exact Or.inl h
 ·obtain⟨q,hq,hS⟩:=dA h0;rw[hv]at hq;have cA:g=q:=(by simpa[Value.ownBlock]using hq);subst cA;have aA:=(Array.getElem?_eq_some_iff.1 hg).1;exact Or.inr ⟨h0,g,cap,bA,hv,((t.block g (Nat.lt_of_lt_of_le aA hb.size) hS).trans (hb.block g aA)).trans hg,h1,h2,h3⟩
theorem zFT(v0 v1:Value)(lo hi:Nat)(p:zN)(xs xb:Int)(w:World)(h1:qS w lo hi v0 v1 p)(hn:yL p<=1048576) :
    Calls Tryz.prog 153 #[.agg #[v0,v1],.agg #[.int .i64 xs,.int .i64 xb]] w (zOU (zGa p xs xb) w):=by
  have Hp:=zi h1;obtain⟨a,c,a',c',rfl,rfl⟩:=h1.zPO;have Hn:=zi hn;have lC:p.hn<=1048576:=(by unfold yL at hn;omega);have sB:p.n<=1048576:=(by unfold yL at hn;omega);have oB:Hid (∀j,j<p.n->(p.s j).kn<=1048576):=fun j hj=>by have h2:=zFA p.s hj;unfold zCE at h2;unfold yL at hn;omega
  have nC:p.hn<=c':=(by obtain⟨_,⟨_,_,_,e,h,_⟩⟩:=h1;simp only[Value.slice.injEq,true_and]at e;omega);have lB:=zOo w (.slice a p.n c) (.slice a' p.hn c') (.int .i64 xs) (.int .i64 xb) 33 61 151;obtain⟨i0,kB,jB⟩:=Option.map_eq_some_iff.1 zCd;simp only[Prod.mk.injEq]at jB;have HI:=zi (And.intro kB jB);clear h1 hn kB jB;go_enter Tryz.func153,Tryz.ntmps153;go_wp2_with fail;generalize ((w.alloc (.cells #[.slice a p.n c,.slice a' p.hn c'] 33)).alloc (.cells #[.int .i64 xs,.int .i64 xb] 61)).alloc (.cells #[.slice none 0 0,.slice none 0 0,.int .i64 0,.int .i64 0,.int .i64 0] 151)=W at lB ⊢;obtain⟨hB,hX,hR,gB,hz⟩:=lB;refine(zA0 _ _ lo hi p _ (Hp.out.zO9 gB)).mono ?_;rintro e w1 ⟨⟨t,rfl,ht⟩,oA⟩;have eB:=zi (hB.zO9 oA);have fB:=zi (hX.zO9 oA);have aB:=zi (hR.zO9 oA);have cB:=zA gB oA;have bC:w.heap.size+3<=w1.heap.size:=(by have:=oA.size;omega);clear hB hX hR gB oA hz;by_cases nA:qB p
  · have mA:=zi nA
    obtain rfl:t=true:=ht.2 nA;clear ht nA;obtain⟨⟨x0,x1⟩,⟨x2,x3⟩⟩:=eB.out;obtain⟨⟨y0,y1⟩,⟨y2,y3⟩⟩:=fB.out;go_wp2_with fail;refine(zDr _ p.n lo hi p.s _ _ _ (Hp.out.1.zO9 cB)).mono ?_;rintro e w2 ⟨⟨t,rfl,ht⟩,pA⟩;rw[zDs mA.out]at ht;have sA:=zi (eB.out.zO9 pA);have bB:=zi (fB.out.zO9 pA);have jA:=zi (aB.out.zO9 pA);have kA:=zA cB pA;have mC:w.heap.size+3<=w2.heap.size:=(by have:=pA.size;omega);clear pA cB eB fB aB bC x0 x1 x2 x3 y0 y1 y2 y3;by_cases hP:zx p xs xb
    · have HP:=zi hP
      obtain rfl:t=true:=ht.2 hP;clear ht hP;obtain⟨⟨x0,x1⟩,⟨x2,x3⟩⟩:=sA.out;obtain⟨⟨y0,y1⟩,⟨y2,y3⟩⟩:=bB.out;go_wp2_with fail;refine(zBe _ p.hn lo hi p.h _ _ (Hp.out.2.zO9 kA)).mono ?_;rintro e w3 ⟨⟨t,rfl,ht⟩,aC⟩;subst aC;by_cases hH:Has p.hn p.h xs
      · have HH:=zi hH
        obtain rfl:t=true:=ht.2 hH;clear ht hH;obtain⟨⟨u0,u1⟩,⟨u2,u3⟩,⟨u4,u5⟩,⟨u6,u7⟩,⟨u8,u9⟩⟩:=jA.out;go_wp2;have eA:=jA.out.put (.slice none 0 0) (.slice none 0 0) (.int .i64 0) (.int .i64 0) (.int .i64 4);have iA:=zGn (R:=w.heap.size+1+1) (u2:=.int .i64 0) (u3:=.int .i64 0) (u4:=.int .i64 4) (by omega) kA;rw[zH5 mA.out (fun h=>h.2 HH.out)];exact bodyPost_ret (v:=.agg #[.slice none 0 0,.slice none 0 0,.int .i64 0,.int .i64 0,.int .i64 4]) (by simp[results,Tryz.results153,go_sem,eA.1.1,eA.2.1.1,eA.2.2.1.1,eA.2.2.2.1.1,eA.2.2.2.2.1]) rfl ⟨_,_,rfl,iA.1,iA.2⟩
      · have HH:=zi hH
        obtain rfl:t=false:=zW ht hH;clear ht hH;obtain⟨⟨u0,u1⟩,⟨u2,u3⟩,⟨u4,u5⟩,⟨u6,u7⟩,⟨u8,u9⟩⟩:=jA.out;have tB:(p.hn:Int)<=(c':Int):=(by omega);have n0:w.heap.size+1+1≠w.heap.size:=(by omega);have n1:w.heap.size+1+1≠w.heap.size+1:=(by omega);go_wp2_with fail;go_region_held3 (fun w'=>w'.cell? ⟨w.heap.size,0,none⟩=some (.slice a p.n c)/\w'.cell? ⟨w.heap.size,1,none⟩=some (.slice a' p.hn c')/\w'.cell? ⟨w.heap.size+1,0,none⟩=some (.int .i64 xs)) (go_keep)
          (first
            | (go_at_call 193;refine(zDO _ p.n lo hi p.s _ ?_ sB oB.out).mono ?_;(first | exact Hp.out.1.zO9 kA.drew | exact Hp.out.1.zO9 (zA kA (zC _ _)).drew);rintro e w5 ⟨v5,bs,kb,kv,rfl,iB,vA,lA,dB⟩;obtain⟨_,sa,mB,rfl,_⟩:=id iB;(first | (have vB:w5.cell? ⟨w3.heap.size,0,none⟩=some (.int .i64 xs):=((zH (i:=0) (v:=.int .i64 xs) (heap_alloc_new w3 (.cells #[.int .i64 xs] 2)) rfl).zO9 (zI dB)).1) | skip);have dA:Below w3.heap.size w3 w5:=(by first | exact zI dB | exact zA (zC _ _) (zI dB));have gA:∀k,yV bs kb p.n p.s k->w3.heap.size<=k/\k<w5.heap.size:=(by first | exact lA | exact fun k hk=>(by have:=lA k hk;simp at this;omega));have z0:=(sA.out.zO9 dA).1.1;have z1:=(sA.out.zO9 dA).2.1;have z2:=(bB.out.zO9 dA).1.1)
            | (refine step_append_grows rfl (.tmp 33) (.tmp 36) 23 rfl 2 i0 (.int .i64 0) 1 8 (by kernel_rfl) HI.out.1 HI.out.2.1 HI.out.2.2.1 HI.out.2.2.2 rfl (by decide) a' p.hn p.hn (ic p.h p.hn) (by simp[Act.eval]) (zJ9 Hp.out.2) (zBD _ _) (zLz Hp.out.2 (zA kA (zA dA (zC w5 _)))) ⟨w5.heap.size,0,none⟩ 1 1 [.int .i64 xs] (by simp[Act.eval]) rfl (zOx _ _ _) (zOB _) (by omega) (by unfold maxLen;omega) (by omega) ?_
               intro v6 w6 bA aA;obtain⟨a6,c6,rfl,_⟩:=za bA;have rA:Below w5.heap.size w5 w6:=zA (zC w5 _) (zDL aA);have fA:w6.ownsRow w5.heap.size 2 1 (.slice a6 (p.hn+1) c6) (p.hn+1) (ic p.h p.hn ++ [.int .i64 xs]):=zE8 bA (by simp);have cA:=zA dA rA;obtain⟨⟨p0,p1⟩,⟨p2,p3⟩⟩:=sA.out.zO9 cA;obtain⟨⟨p4,p5⟩,⟨p6,p7⟩⟩:=bB.out.zO9 cA;obtain⟨⟨p8,p9⟩,⟨cC,dC⟩,⟨eC,fC⟩,⟨gC,iC⟩,⟨jC,kC⟩⟩:=jA.out.zO9 cA;clear bA aA)
            | (refine step_append_grows rfl (.tmp 33) (.tmp 36) 23 rfl 2 i0 (.int .i64 0) 1 8 (by kernel_rfl) HI.out.1 HI.out.2.1 HI.out.2.2.1 HI.out.2.2.2 rfl (by decide) a' p.hn p.hn (ic p.h p.hn) (by simp[Act.eval]) (zJ9 Hp.out.2) (zBD _ _) (zLz Hp.out.2 (zA kA dA)) ⟨w3.heap.size,0,none⟩ 1 1 [.int .i64 xs] (by simp[Act.eval]) rfl (zE6 vB) (zOB _) (by omega) (by unfold maxLen;omega) (by omega) ?_
               intro v6 w6 bA aA;obtain⟨a6,c6,rfl,_⟩:=za bA;have rA:Below w5.heap.size w5 w6:=zDL aA;have fA:w6.ownsRow w5.heap.size 2 1 (.slice a6 (p.hn+1) c6) (p.hn+1) (ic p.h p.hn ++ [.int .i64 xs]):=zE8 bA (by simp);have cA:=zA dA rA;obtain⟨⟨p0,p1⟩,⟨p2,p3⟩⟩:=sA.out.zO9 cA;obtain⟨⟨p4,p5⟩,⟨p6,p7⟩⟩:=bB.out.zO9 cA;obtain⟨⟨p8,p9⟩,⟨cC,dC⟩,⟨eC,fC⟩,⟨gC,iC⟩,⟨jC,kC⟩⟩:=jA.out.zO9 cA;clear bA aA))
        all_goals
          have pB:=zi (zIF (p:=yr p xs) (B:=w3.heap.size) (M:=w3.heap.size) (iB.zO9 rA) vA (fun k hk=>by have:=gA k hk;have:=rA.size;omega) (by show p.hn+1<=maxLen;unfold maxLen;omega) (by rw[<-zLn]at fA;exact fA) (fun k e=>by
            have h1:=fA.lt k e;refine⟨by have:=dA.size;omega,Or.inr (Or.inr ⟨h1.2,fun hx=>?_⟩)⟩;have:=gA k hx;omega) (Nat.le_refl _) (fun e=>absurd e (Nat.succ_ne_zero _)))
          have nB:=zi (jA.out.zO9 cA);have rB:=zA kA cA;clear iB vA lA gA dB dA rA cA fA;go_wp2;have tA:=nB.out.put (.slice sa p.n mB) (.slice a6 (p.hn+1) c6) (.int .i64 0) (.int .i64 0) (.int .i64 0);have iA:=zOC (R:=w.heap.size+1+1) (u2:=.int .i64 0) (u3:=.int .i64 0) (u4:=.int .i64 0) pB.out (by omega) (by omega) (Nat.le_refl _) rB;rw[zLm mA.out HP.out HH.out];exact bodyPost_ret (v:=.agg #[.slice sa p.n mB,.slice a6 (p.hn+1) c6,.int .i64 0,.int .i64 0,.int .i64 0]) (by simp[results,Tryz.results153,go_sem,tA.1.1,tA.2.1.1,tA.2.2.1.1,tA.2.2.2.1.1,tA.2.2.2.2.1]) rfl ⟨_,_,rfl,iA.1,iA.2⟩
    · have HP:=zi hP
      obtain rfl:t=false:=zW ht hP;clear ht hP;obtain⟨⟨u0,u1⟩,⟨u2,u3⟩,⟨u4,u5⟩,⟨u6,u7⟩,⟨u8,u9⟩⟩:=jA.out;go_wp2;have eA:=jA.out.put (.slice none 0 0) (.slice none 0 0) (.int .i64 0) (.int .i64 0) (.int .i64 4);have iA:=zGn (R:=w.heap.size+1+1) (u2:=.int .i64 0) (u3:=.int .i64 0) (u4:=.int .i64 4) (by omega) kA;rw[zH5 mA.out (fun h=>HP.out h.1)];exact bodyPost_ret (v:=.agg #[.slice none 0 0,.slice none 0 0,.int .i64 0,.int .i64 0,.int .i64 4]) (by simp[results,Tryz.results153,go_sem,eA.1.1,eA.2.1.1,eA.2.2.1.1,eA.2.2.2.1.1,eA.2.2.2.2.1]) rfl ⟨_,_,rfl,iA.1,iA.2⟩
  · have mA:=zi nA
    obtain rfl:t=false:=zW ht nA;clear ht nA;obtain⟨⟨u0,u1⟩,⟨u2,u3⟩,⟨u4,u5⟩,⟨u6,u7⟩,⟨u8,u9⟩⟩:=aB.out;go_wp2;have eA:=aB.out.put (.slice none 0 0) (.slice none 0 0) (.int .i64 0) (.int .i64 0) (.int .i64 1);have iA:=zGn (R:=w.heap.size+1+1) (u2:=.int .i64 0) (u3:=.int .i64 0) (u4:=.int .i64 1) (by omega) cB;rw[zML mA.out];exact bodyPost_ret (v:=.agg #[.slice none 0 0,.slice none 0 0,.int .i64 0,.int .i64 0,.int .i64 1]) (by simp[results,Tryz.results153,go_sem,eA.1.1,eA.2.1.1,eA.2.2.1.1,eA.2.2.2.1.1,eA.2.2.2.2.1]) rfl ⟨_,_,rfl,iA.1,iA.2⟩
theorem zMF(v0 v1:Value)(a b c:Int)(w:World):(Instr.field 151 (.agg #[v0,v1,.int .i64 a,.int .i64 b,.int .i64 c]) 0).run Tryz.prog w = .ok (.agg #[v0,v1]) w:=by kernel_rfl
theorem zKs(C lo hi:Nat)(z0 z1 z2 z3 u8:Value)(tm nx id m:Int)(p q:zN)(x:Int×Int)(w:World)(hC:yM w C z0 z1 (.int .i64 tm) (.int .i64 nx) z2 z3 (.int .i64 id) (.int .i64 m) u8)(hP:qS w lo hi z0 z1 p)(hn:yL p<=1048576)(hh:zGa p x.1 x.2=⟨q,0,0,0⟩)(hm:0<=m)(gB:m<=1000000) :
  Calls Tryz.prog 96 #[.pointer (some ⟨C,0,none⟩),.agg #[.int .i64 x.1,.int .i64 x.2]] w fun e w'=>(∃v,e = .returned v)/\∃y0 y1,yM w' C y0 y1 (.int .i64 tm) (.int .i64 nx) z2 z3 (.int .i64 id) (.int .i64 (m+1)) u8/\qF w' w.heap.size w'.heap.size y0 y1 q/\zF (fun j=>j=C) w w':=by
 obtain⟨a0,c0,a1,c1,rfl,rfl⟩:=hP.zPO;have fB:=hC.1.lt;have fA:=zC w (.cells #[.int .i64 x.1,.int .i64 x.2] 61);have HX:=zB (zp.new w (.int .i64 x.1) (.int .i64 x.2) 61);have HC:=zB (hC.zO9 fA);have iB:IntKind.i64.wrap (m+1)=m+1:=by first | exact wrap_small (by omega) (by omega) | exact wrap_small _ (by omega) (by omega)
 have cB:(w.alloc (.cells #[.int .i64 x.1,.int .i64 x.2] 61)).heap.size=w.heap.size+1:=World.size_alloc _ _;have cA:=zB (show ∀w',Below (w.alloc (.cells #[.int .i64 x.1,.int .i64 x.2] 61)).heap.size (w.alloc (.cells #[.int .i64 x.1,.int .i64 x.2] 61)) w'->Calls Tryz.prog 153 #[.agg #[.slice a0 p.n c0,.slice a1 p.hn c1],.agg #[.int .i64 x.1,.int .i64 x.2]] w' fun e mA=>∃b0 d0 b1 d1,e = .returned (.agg #[.slice b0 q.n d0,.slice b1 q.hn d1,.int .i64 0,.int .i64 0,.int .i64 0])/\qF mA w'.heap.size mA.heap.size (.slice b0 q.n d0) (.slice b1 q.hn d1) q/\Below w'.heap.size w' mA from fun w' tA=>by
  refine(zFT _ _ lo hi p x.1 x.2 w' ((hP.zO9 fA).zO9 tA) hn).mono ?_;rw[hh];rintro e w2 ⟨y0,y1,rfl,ho,vA⟩;obtain⟨b0,d0,b1,d1,rfl,rfl⟩:=ho.at.zPO;exact⟨b0,d0,b1,d1,rfl,ho,vA⟩)
 clear hP hh hC hn;go_enter Tryz.func96,Tryz.ntmps96;go_wp2_with fail;generalize w.alloc (.cells #[.int .i64 x.1,.int .i64 x.2] 61)=w1 at fA HX HC cB cA ⊢;have gA:Below w1.heap.size w1 w1.drew:=(Below.refl _ _).drew;have jA:=zB (show ∀w',Below w1.drew.heap.size w1.drew w'->(fun w':World=>w'.cell? ⟨w.heap.size,0,none⟩=some (.int .i64 x.1)/\w'.cell? ⟨w.heap.size,1,none⟩=some (.int .i64 x.2)) w' from fun w' hb=>by
  have h:=(HX.out.zO9 gA).zO9 hb;exact⟨h.1.1,h.2.1⟩)
 obtain⟨⟨x0,-⟩,⟨x1,-⟩,-⟩:=HC.out.zO9 gA;refine wp_region_held_drew (S:=(fun w':World=>w'.cell? ⟨w.heap.size,0,none⟩=some (.int .i64 x.1)/\w'.cell? ⟨w.heap.size,1,none⟩=some (.int .i64 x.2))) (by kernel_rfl) (jA.out _ (Below.refl _ _)) (fun hHeld=>?_);have iA:=gA;generalize w1.drew=q0 at hHeld jA x0 x1 gA iA ⊢;refine tk 0 (h:=tk 1 (h:=tk 2 (h:=tk 3 (h:=tk 4 (h:=tk 6 (h:=?_))))));refine rd [5] (rc (fun K hK=>?_) .nil);go_simp
 (try go_wp2_with fail)
 refine hK.out _ _ (jA.out _ (Below.refl _ _)) ?_;clear hK K;intro hHeld
 try simp only[Act.put,s1,s2,s3]
 refine rd [7] (rc (fun K hK=>?_) .nil);go_simp;go_at_call 153;refine(cA.out q0 iA).mono ?_;rintro e w3 ⟨b0,d0,b1,d1,rfl,rA,sA⟩;have nA:=zB rA;have dA:Below w1.heap.size w1 w3:=zA iA sA;have aA:=zB (HC.out.zO9 dA);have eA:=zB (HX.out.zO9 dA);clear rA
 (try go_wp2_with fail)
 refine hK.out _ _ ⟨eA.out.1.1,eA.out.2.1⟩ ?_;clear hK K hHeld;intro hHeld
 try simp only[Act.put,s1,s2,s3]
 have bB:=zMF (.slice b0 q.n d0) (.slice b1 q.hn d1) 0 0 0;refine tk 8 (h:=tk 9 (h:=tk 10 (h:=tk 11 (h:=?_))));refine rd [12] (rc (fun K hK=>?_) .nil);obtain⟨⟨t0,dB⟩,⟨t1,eB⟩,-⟩:=aA.out;go_simp
 (try go_wp2_with fail)
 have hT:=(zF.put w3 C 0 (.slice b0 q.n d0)).trans (zF.put (w3.setCell ⟨C,0,none⟩ (.slice b0 q.n d0)) C 1 (.slice b1 q.hn d1));have lA:=eA.out.zPF hT (fun h=>by omega);refine hK.out _ _ ⟨lA.1.1,lA.2.1⟩ ?_;clear hK K hHeld t0 dB t1 eB;intro hHeld
 try simp only[Act.put,s1,s2,s3]
 refine wpAnyH_done (by kernel_rfl) ?_ _;have bA:=zB (show yM ((w3.setCell ⟨C,0,none⟩ (.slice b0 q.n d0)).setCell ⟨C,1,none⟩ (.slice b1 q.hn d1)) C (.slice b0 q.n d0) (.slice b1 q.hn d1) (.int .i64 tm) (.int .i64 nx) z2 z3 (.int .i64 id) (.int .i64 m) u8 from⟨(aA.out.1.set _).zPA _ (Or.inr (by decide)),(aA.out.2.1.zPA _ (Or.inr (by decide))).set _,(aA.out.2.2.1.zPA _ (Or.inr (by decide))).zPA _ (Or.inr (by decide)),(aA.out.2.2.2.1.zPA _ (Or.inr (by decide))).zPA _ (Or.inr (by decide)),(aA.out.2.2.2.2.1.zPA _ (Or.inr (by decide))).zPA _ (Or.inr (by decide)),(aA.out.2.2.2.2.2.1.zPA _ (Or.inr (by decide))).zPA _ (Or.inr (by decide)),(aA.out.2.2.2.2.2.2.1.zPA _ (Or.inr (by decide))).zPA _ (Or.inr (by decide)),(aA.out.2.2.2.2.2.2.2.1.zPA _ (Or.inr (by decide))).zPA _ (Or.inr (by decide)),(aA.out.2.2.2.2.2.2.2.2.zPA _ (Or.inr (by decide))).zPA _ (Or.inr (by decide))⟩);have aB:Below w.heap.size w w3:=zA fA dA;have pA:=zB (show zF (fun j=>j=C) w ((w3.setCell ⟨C,0,none⟩ (.slice b0 q.n d0)).setCell ⟨C,1,none⟩ (.slice b1 q.hn d1))from(zF.zPB aB).trans hT);have kB:=sA.size;have jB:=iA.size;have oA:=zB ((nA.out.zPF hT (fun k e=>by omega)).wide (show w.heap.size<=q0.heap.size by omega) hT.size);clear lA hT bB aA eA nA;generalize ((w3.setCell ⟨C,0,none⟩ (.slice b0 q.n d0)).setCell ⟨C,1,none⟩ (.slice b1 q.hn d1))=w4 at bA pA oA ⊢;obtain⟨y7,lB⟩:=bA.out.2.2.2.2.2.2.2.1;go_wp2_with fail;have kA:=zF.put w4 C 7 (.int .i64 (m+1));go_end0;refine⟨⟨_,rfl⟩,_,_,⟨bA.out.1.zPA _ (Or.inr (by decide)),bA.out.2.1.zPA _ (Or.inr (by decide)),bA.out.2.2.1.zPA _ (Or.inr (by decide)),bA.out.2.2.2.1.zPA _ (Or.inr (by decide)),bA.out.2.2.2.2.1.zPA _ (Or.inr (by decide)),bA.out.2.2.2.2.2.1.zPA _ (Or.inr (by decide)),bA.out.2.2.2.2.2.2.1.zPA _ (Or.inr (by decide)),bA.out.2.2.2.2.2.2.2.1.set _,bA.out.2.2.2.2.2.2.2.2.zPA _ (Or.inr (by decide))⟩,?_,pA.out.trans kA⟩;exact(oA.out.zPF kA (fun k e=>by omega)).wide (Nat.le_refl _) kA.size
theorem zMR(C lo hi n:Nat)(P:Nat->Prop)(z0 z1 z2 z3 u8 v:Value)(tm nx id m t:Int)(p:zN)(f g:Nat->Int)(w:World)(hv:zR w lo hi v n f g)(jA:qN n f g)(ht:zA8 t)(hH:yN p (zy f g t n))(hC:yM w C z0 z1 (.int .i64 tm) (.int .i64 nx) z2 z3 (.int .i64 id) (.int .i64 m) u8)(hP:qi w P z0 z1 p)(lB:∀k,P k->C<k/\k<w.heap.size)(hm:0<=m)(pB:m<=900000) :
  Calls Tryz.prog 94 #[v,.int .i64 t,.func (.func 96) #[.pointer (some ⟨C,0,none⟩)] #[]] w fun e w'=>∃vo y0 y1,e = .returned vo/\qE w' w.heap.size vo (zAJ f g t n)/\yM w' C y0 y1 (.int .i64 tm) (.int .i64 nx) z2 z3 (.int .i64 id) (.int .i64 (m+((zy f g t n).length:Int))) u8/\qi w' (fun j=>P j\/(w.heap.size<=j/\j<w'.heap.size)) y0 y1 (zq p (zy f g t n))/\zF (fun j=>j=C) w w':=by
 have oB:=hC.1.lt;have mA:(zy f g t n).length<=200:=by have:=zBL f g t n;have:=jA.1;omega
 have HS:=zB (show Calls Tryz.prog 151 #[v,.int .i64 t] w fun e w'=>∃vy vo,e = .returned (.agg #[vy,vo])/\zCJ (zy f g t n) (zAJ f g t n) w w' vy vo by
  refine(zAa v n lo hi f g t w hv).mono ?_;rintro e w1 ⟨vy,vo,l,l',rfl,hy,ho,hr⟩;rw[hy.1 ⟨jA,ht⟩,ho.1 ⟨jA,ht⟩]at hr;exact⟨vy,vo,rfl,hr⟩)
 have HC:=zB hC;have HP:=zB hP;have HH:=zB hH;obtain⟨-,av,cv,rfl,-,-⟩:=(show zR w lo hi v n f g from hv);clear hv jA ht hC hP hH;generalize zy f g t n=l at HS HH mA ⊢;generalize zAJ f g t n=l' at HS ⊢;go_enter Tryz.func94,Tryz.ntmps94;go_wp2_with fail;refine HS.out.mono ?_;clear HS;rintro e w1 ⟨vy,vo,rfl,nA,oA,-,fB⟩;obtain⟨ay,cy,rfl,-⟩:=za nA;obtain⟨ao,co,rfl,-⟩:=za oA;obtain⟨bo,bA,gB⟩:=nA.own (by unfold maxLen;omega);have gA:=zC w1 (.cells #[.slice ay l.length cy,.slice ao l'.length co] 201);have HX:=zB (zp.new w1 (.slice ay l.length cy) (.slice ao l'.length co) 201);have iA:=zA fB gA;have pA:=zB (HC.out.zO9 iA);have tA:=zB (HP.out.zO9 iA);have lA:=zB (qE.zO9 oA gA);have sA:=zB (bA.zO9 gA);have kB:=zB gB;have rB:=fB.size;have nB:(w1.alloc (.cells #[.slice ay l.length cy,.slice ao l'.length co] 201)).heap.size=w1.heap.size+1:=World.size_alloc _ _;obtain⟨⟨x0,-⟩,⟨x1,-⟩⟩:=HX.out;clear nA oA bA gB HC HP;go_wp2_with fail;clear x0 x1;generalize w1.alloc (.cells #[.slice ay l.length cy,.slice ao l'.length co] 201)=w2 at gA HX iA pA tA lA sA nB ⊢
 go_loopw [16] (fun i wr=>∃(k:Nat) (y0 y1:Value),k<=l.length/\i = .int .i64 k/\yM wr C y0 y1 (.int .i64 tm) (.int .i64 nx) z2 z3 (.int .i64 id) (.int .i64 (m+(k:Int))) u8/\qi wr (fun j=>P j\/(w.heap.size<=j/\j<wr.heap.size)) y0 y1 (zq p (l.take k))/\zF (fun j=>j=C) w2 wr) (fun i _=>l.length - (intOf i).toNat)
 case atStart=>exact⟨0,_,_,Nat.zero_le _,rfl,by simpa using pA.out,tA.out.mono (fun j h=>Or.inl h),zF.refl _ _⟩
 case round=>
  obtain⟨k,y0,y1,hk,rfl,bB,dB,fA⟩:=hrel;have rA:=zB bB;have kA:=zB dB;have cA:=zB fA;have vB:=fA.size;have hX:=HX.out.zPF fA (fun h=>by omega);obtain⟨⟨x0,-⟩,⟨x1,-⟩⟩:=hX;clear bB dB fA;by_cases eA:k<l.length
  ·have mB:(k:Int)<(l.length:Int):=(by omega);have bA:=sA.out.zPF cA.out (fun h0 e=>by
    obtain⟨_,h,_⟩:=kB.out h0;omega)
   obtain⟨_,a,c,e1,_,hx⟩:=bA;obtain⟨off,rfl,dA⟩:=hx (by omega);simp only[Value.slice.injEq,true_and]at e1;obtain⟨rfl,rfl⟩:=e1;obtain⟨⟨q0,-⟩,⟨q1,-⟩⟩:=dA k eA;have hn:=HH.out.next eA;have e0:l[k]=(zk l k,zn l k):=by
    unfold zk zn;rw[List.getD_eq_getElem?_getD,List.getElem?_eq_getElem eA];rfl
   rw[e0]at hn;have HN:=zB hn;clear hn e0 dA hx;have aA:=zC wr (.cells #[.int .i64 (zk l k),.int .i64 (zn l k)] 61);obtain⟨⟨r0,-⟩,⟨r1,-⟩⟩:=zp.new wr (.int .i64 (zk l k)) (.int .i64 (zn l k)) 61;go_wp2_with fail;have sB:=aA.size;refine(zKs C 0 wr.heap.size y0 y1 z2 z3 u8 tm nx id (m+(k:Int)) (zq p (l.take k)) (zq p (l.take (k+1))) (zk l k,zn l k) _ (rA.out.zO9 aA) (((kA.out.at (lo:=0) (hi:=wr.heap.size) (fun j h=>⟨Nat.zero_le _,by
    rcases h with h | h
    ·have:=lB j h;omega
    ·omega⟩))).zO9 aA) (by have:=zKE HN.out.2;omega) HN.out.1 (by omega) (by omega)).mono ?_
   rintro e w4 ⟨⟨ve,rfl⟩,t0,t1,aB,cB,eB⟩;have iB:=zB aB;have jB:=zB cB;have vA:=zB eB;clear r0 r1 q0 q1 x0 x1 aB cB eB;go_wp2_with fail;go_roundw
   case rel=>
    have tB:=vA.out.size;refine⟨k+1,t0,t1,by omega,by go_num,?_,jB.out.isIn (fun j h1 h2=>Or.inr ⟨by omega,h2⟩),cA.out.trans ((zF.zPB aA).trans vA.out)⟩;have e:m+((k+1:Nat):Int)=m+(k:Int)+1:=(by omega);rw[e];exact iB.out
   case measure=>simp[intOf];omega
  ·obtain rfl:k=l.length:=(by omega);go_wp2_with fail;rw[List.take_length]at kA;go_ret;refine⟨_,y0,y1,rfl,?_,rA.out,kA.out,((zF.zPB iA).trans cA.out)⟩;exact lA.out.zPF (row:=some C) ⟨cA.out.os,cA.out.tape,cA.out.output,cA.out.size,fun k hk hn=>cA.out.block k hk (fun e=>hn (by rw[e]))⟩ (fun q hq e=>by
    injection e with e;have:=qE.lt lA.out hq;omega)
theorem zJo(v:Value)(s:zY)(w:World):(Instr.field 99 (.agg #[.int .i64 s.id,.string s.name,.string s.set,.int .i64 s.zPH,.int .i64 s.time,.int .i64 s.rs,.int .i64 s.rb,v]) 4).run Tryz.prog w = .ok (.int .i64 s.time) w:=by kernel_rfl
theorem zJe(C lo hi:Nat)(z0 z1 z2 z3 u6 u7 u8:Value)(W:zE)(x:Int)(w:World)(h:zd w lo hi z0 z1 z2 z3 W)(hC:yM w C z0 z1 (.int .i64 W.time) (.int .i64 W.next) z2 z3 u6 u7 u8)(hn:W.pn<=20)(eA:zD3 W.pn W.zPD)(hD:yy W)(hx:(Lit.int .i64 x).wf=true) :
  Calls Tryz.prog 95 #[.pointer (some ⟨C,0,none⟩),.int .i64 x] w fun e w'=>∃a c,e = .returned (qX (.slice a (zK W x).dn c) (zK W x))/\Below w.heap.size w w':=by
 have Hp:=zB h;obtain⟨l0,iA,l1,jA,l2,kA,l3,lA,rfl,rfl,rfl,rfl⟩:=h.zPO;have HD:=zB hD;have fA:=zB eA;have Hx:=zB hx;have ha:=zC w (.cells #[.int .i64 0,.string ⟨#[]⟩,.string ⟨#[]⟩,.int .i64 0,.int .i64 0,.int .i64 0,.int .i64 0,.slice none 0 0] 99);obtain⟨⟨x0,-⟩,⟨x1,-⟩,⟨x2,-⟩,⟨x3,-⟩,⟨x4,-⟩,⟨x5,-⟩,-⟩:=hC.zO9 ha;have HR:=zB (yx.new w (.int .i64 0) (.string ⟨#[]⟩) (.string ⟨#[]⟩) (.int .i64 0) (.int .i64 0) (.int .i64 0) (.int .i64 0) (.slice none 0 0) 99);clear h hD eA hx hC;obtain⟨S,hS⟩:∃S,S=zK W x:=⟨_,rfl⟩;rw[<-hS];unfold qX;have HS:=zB hS;clear hS;go_enter Tryz.func95,Tryz.ntmps95;go_wp2_with fail;clear x0 x1 x2 x3 x4 x5;generalize w.alloc (.cells #[.int .i64 0,.string ⟨#[]⟩,.string ⟨#[]⟩,.int .i64 0,.int .i64 0,.int .i64 0,.int .i64 0,.slice none 0 0] 99)=W1 at ha HR ⊢;refine(zFk _ _ _ _ lo hi W W1 (Hp.out.zO9 ha) hn fA.out).mono ?_;rintro e w2 ⟨A,rfl,hA,cA⟩;have HA:=zB hA;clear hA;go_wp2_with fail;refine(zA9 lo hi W A x w2 HA.out HD.out Hx.out hn).mono ?_;rw[<-HS.out];unfold qX;rintro e w3 ⟨a,c,rfl,gA,dA⟩;have hb:=zA (zA ha cA) dA;have bA:=zB ((HR.out.zO9 cA).zO9 dA);clear gA;obtain⟨⟨⟨r0,g0⟩,⟨r1,g1⟩,⟨r2,g2⟩,⟨r3,g3⟩⟩,⟨r4,g4⟩,⟨r5,g5⟩,⟨r6,g6⟩,⟨r7,g7⟩⟩:=bA.out;go_wp2_with fail;have aA:=bA.out.put (.int .i64 S.id) (.string S.name) (.string S.set) (.int .i64 S.zPH) (.int .i64 S.time) (.int .i64 S.rs) (.int .i64 S.rb) (.slice a S.dn c);have hT:=zF.put8 w3 w.heap.size (.int .i64 S.id) (.string S.name) (.string S.set) (.int .i64 S.zPH) (.int .i64 S.time) (.int .i64 S.rs) (.int .i64 S.rb) (.slice a S.dn c);clear r0 g0 r1 g1 r2 g2 r3 g3 r4 g4 r5 g5 r6 g6 r7 g7;refine bodyPost_ret (v:=.agg #[.int .i64 S.id,.string S.name,.string S.set,.int .i64 S.zPH,.int .i64 S.time,.int .i64 S.rs,.int .i64 S.rb,.slice a S.dn c]) (by simp[results,Tryz.results95,go_sem,aA.1.1.1,aA.1.2.1.1,aA.1.2.2.1.1,aA.1.2.2.2.1,aA.2.1.1,aA.2.2.1.1,aA.2.2.2.1.1,aA.2.2.2.2.1]) rfl ⟨a,c,rfl,?_⟩
 ·exact hb.trans (hT.zO9 (B:=w.heap.size) hb.size (fun k e=>by omega))
theorem zJx(C G PB gb lo hi n:Nat)(P:Nat->Prop)(z0 z1 z2 z3 v:Value)(ga:Option Addr)(gc:Nat)(m:Int)(W:zE)(g:zY)(f h:Nat->Int)(w:World)(oB:zd w 0 w.heap.size z0 z1 z2 z3 W)(fB:W.pn<=20)(kA:zD3 W.pn W.zPD)(cA:yy W)(hx:(Lit.int .i64 g.zPH).wf=true)(ht:zA8 (zK W g.zPH).time)(hC:yM w C z0 z1 (.int .i64 W.time) (.int .i64 W.next) z2 z3 (.int .i64 0) (.int .i64 m) .nilIface)(hP:qi w P z0 z1 W.zPE)(mB:∀k,P k->C<k/\k<w.heap.size)
  (hS:(fun w':World=>w'.cell? ⟨G,3,none⟩=some (.int .i64 g.zPH)/\w'.cell? ⟨G,7,none⟩=some (.slice ga g.dn gc)/\w'.cell? ⟨PB,0,none⟩=some (.pointer (some ⟨C,0,none⟩))) w) (hG:G≠C/\PB≠C) (jB:0<g.dn->gb≠C/\gb≠G/\gb≠PB/\gb<w.heap.size/\¬P gb) (hd:zj w gb (.slice ga g.dn gc) g.dn g.ds g.db) (hR:yU w 61 2 (.slice ga g.dn gc) g.dn) (sC:g.dn<=1048576) (hv:zR w lo hi v n f h) (eB:qN n f h) (hH:yN W.zPE (zy f h (zK W g.zPH).time n)) (hm:0<=m) (mC:m<=900000) :
  Calls Tryz.prog 125 #[v,.pointer (some ⟨G,0,none⟩),.pointer (some ⟨PB,0,none⟩)] w fun e w'=>∃a c nb y0 y1 sA,e = .returned (.slice a (g.dn+(zAJ f h (zK W g.zPH).time n).length) c)/\zj w' nb (.slice a (g.dn+(zAJ f h (zK W g.zPH).time n).length) c) ((qu g.dn g.ds g.db) ++ (zAJ f h (zK W g.zPH).time n)).length (zk ((qu g.dn g.ds g.db) ++ (zAJ f h (zK W g.zPH).time n))) (zn ((qu g.dn g.ds g.db) ++ (zAJ f h (zK W g.zPH).time n)))/\w.heap.size<=sA/\sA<=w'.heap.size/\(0<g.dn+(zAJ f h (zK W g.zPH).time n).length->(0<g.dn/\nb=gb)\/(sA<=nb/\nb<w'.heap.size))/\yM w' C y0 y1 (.int .i64 W.time) (.int .i64 W.next) z2 z3 (.int .i64 0) (.int .i64 (m+((zy f h (zK W g.zPH).time n).length:Int))) .nilIface/\qi w' (fun j=>P j\/(w.heap.size<=j/\j<sA)) y0 y1 (zq W.zPE (zy f h (zK W g.zPH).time n))/\zF (fun j=>j=C\/(0<g.dn/\j=gb)) w w'/\zj w' gb (.slice ga g.dn gc) g.dn g.ds g.db:=by
 have HC:=zB hC;have HP:=zB hP;have dC:=zB mB;have HD:=zB hd;have eC:=zB hR;have HV:=zB hv;have bC:=zB eB;have HH:=zB hH;have Ht:=zB ht;have tC:=eB.1;have pC:=hC.1.lt;obtain⟨iB,gC⟩:=hG;have kB:G<w.heap.size:=zD hS.1;have bB:PB<w.heap.size:=zD hS.2.2;have dA:=zB jB;have nA:=zB (show ∀w',Below w.heap.size w w'->(fun w':World=>w'.cell? ⟨G,3,none⟩=some (.int .i64 g.zPH)/\w'.cell? ⟨G,7,none⟩=some (.slice ga g.dn gc)/\w'.cell? ⟨PB,0,none⟩=some (.pointer (some ⟨C,0,none⟩))) w' from fun w' hb=>⟨(hb.cell (p:=⟨G,3,none⟩) kB).trans hS.1,(hb.cell (p:=⟨G,7,none⟩) kB).trans hS.2.1,(hb.cell (p:=⟨PB,0,none⟩) bB).trans hS.2.2⟩);have mA:=zB (show ∀w',Below w.heap.size w w'->Calls Tryz.prog 95 #[.pointer (some ⟨C,0,none⟩),.int .i64 g.zPH] w' fun e oC=>(∃a c,e = .returned (qX (.slice a (zK W g.zPH).dn c) (zK W g.zPH)))/\Below w'.heap.size w' oC from fun w' pB=>by
  refine(zJe C 0 w.heap.size _ _ _ _ _ _ _ W g.zPH w' (oB.zO9 pB) (hC.zO9 pB) fB kA cA hx).mono ?_;rintro e w2 ⟨a,c,rfl,iC⟩;exact⟨⟨a,c,rfl⟩,iC⟩)
 obtain⟨-,av,cv,rfl,-,-⟩:=id hv;have vC:∀(fn:Fn) (first cap:Array Value) (w:World),(Instr.makeFunc fn first cap).run Tryz.prog w = .ok (.func fn first cap) w:=fun _ _ _ _=>rfl
 have pA:Below w.heap.size w w.drew:=(Below.refl _ _).drew;generalize zK W g.zPH=A at mA HH Ht ⊢;unfold qX at mA;have lC:=fun (a:Option Addr) (c:Nat) (w:World)=>zJo (.slice a A.dn c) A w
 clear oB fB kA cA hx ht hC hP mB hS jB hd hR hv eB hH;go_enter Tryz.func125,Tryz.ntmps125;go_upto_region 1 with fail;refine wp_region_held_drew (S:=(fun w':World=>w'.cell? ⟨G,3,none⟩=some (.int .i64 g.zPH)/\w'.cell? ⟨G,7,none⟩=some (.slice ga g.dn gc)/\w'.cell? ⟨PB,0,none⟩=some (.pointer (some ⟨C,0,none⟩)))) (by kernel_rfl) (nA.out _ pA) (fun hHeld=>?_);generalize w.drew=q0 at hHeld pA ⊢;refine tk 0 (h:=tk 1 (h:=tk 2 (h:=tk 3 (h:=tk 4 (h:=tk 5 (h:=tk 8 (h:=tk 9 (h:=?_))))))));refine rd [6] (rc (fun K hK=>?_) .nil);go_simp;go_at_call 95;refine(mA.out _ pA).mono ?_;rintro e w6 ⟨⟨a6,c6,rfl⟩,jC⟩;have aA:=zA pA jC
 (try go_wp2_with fail)
 refine hK.out _ _ (nA.out _ aA) ?_;clear hK K;intro hHeld
 try simp only[Act.put,s1,s2,s3]
 refine tk 7 (h:=?_);refine rd [10] (rc (fun K hK=>?_) .nil);go_simp;go_at_call 94;have aD:=aA.size;refine(zMR C lo hi n P _ _ _ _ .nilIface _ W.time W.next 0 m A.time W.zPE f h w6 (HV.out.zO9 aA) bC.out Ht.out HH.out (HC.out.zO9 aA) (HP.out.zO9 aA) (fun k hk=>by have:=dC.out k hk;omega) hm mC).mono ?_;rintro e w7 ⟨v7,y0,y1,rfl,rA,gB,lB,gA⟩;obtain⟨a7,c7,rfl,-⟩:=za rA;have iA:(fun w':World=>w'.cell? ⟨G,3,none⟩=some (.int .i64 g.zPH)/\w'.cell? ⟨G,7,none⟩=some (.slice ga g.dn gc)/\w'.cell? ⟨PB,0,none⟩=some (.pointer (some ⟨C,0,none⟩))) w7:=by
  have hk:=nA.out _ aA;exact⟨(gA.cell (o:=3) (show G<w6.heap.size by omega) iB).trans hk.1,(gA.cell (o:=7) (show G<w6.heap.size by omega) iB).trans hk.2.1,(gA.cell (o:=0) (show PB<w6.heap.size by omega) gC).trans hk.2.2⟩
 have sB:=zB gB;have cC:=zB lB;have bA:zF (fun j=>j=C) w w7:=(zF.zPB aA).trans gA;have bD:=gA.size;have dB:=HD.out.zPF bA (fun h0=>(dA.out h0).1);have cB:=eC.out.turnedL (Below.refl _ _) bA (fun h0=>by
  obtain⟨_,a,c,hv,_,hx⟩:=HD.out;obtain⟨off,ha,_⟩:=hx h0;exact⟨gb,by rw[hv,ha];rfl,(dA.out h0).1⟩)
 obtain⟨L,hL⟩:∃L,L=zAJ f h A.time n:=⟨_,rfl⟩;have rC:L.length<=n:=by rw[hL];exact zGo f h A.time n
 rw[<-hL]at rA;have eA:zR w7 0 w7.heap.size (.slice a7 L.length c7) L.length (zk L) (zn L):=by
  obtain⟨bb,ho,kC⟩:=qE.own rA (by unfold maxLen;omega);exact ho.at (fun h0=>⟨Nat.zero_le _,(kC h0).2.2⟩)
 obtain⟨ra,cD,w8,nb,fA,lA,jA,rB⟩:=zFv (lo:=0) (hi:=w7.heap.size) dB cB eA (by omega) 62;have tB:=zB (zHR dB cB eA (by omega) _ fA);have nB:(fun w':World=>w'.cell? ⟨G,3,none⟩=some (.int .i64 g.zPH)/\w'.cell? ⟨G,7,none⟩=some (.slice ga g.dn gc)/\w'.cell? ⟨PB,0,none⟩=some (.pointer (some ⟨C,0,none⟩))) w8:=⟨(jA.cell (o:=3) (show G<w7.heap.size by omega) (fun hh=>(dA.out hh.1).2.1 hh.2.symm)).trans iA.1,(jA.cell (o:=7) (show G<w7.heap.size by omega) (fun hh=>(dA.out hh.1).2.1 hh.2.symm)).trans iA.2.1,(jA.cell (o:=0) (show PB<w7.heap.size by omega) (fun hh=>(dA.out hh.1).2.2.1 hh.2.symm)).trans iA.2.2⟩;have vA:=zB fA;have tA:=zB lA;have oA:=zB jA;have aC:=zB rB;have aB:=zB bA;have fC:=zB nB;clear gB lB rA fA lA jA rB dB cB nB bA eA
 (try go_wp2_with fail)
 refine hK.out _ _ iA ?_;clear hK K hHeld iA gA;intro hHeld
 try simp only[Act.put,s1,s2,s3]
 simp only[<-hL];have vB:=zB hL;clear hL;refine rd [11] (rc (fun K hK=>?_) .nil);refine ze rfl (.tmp 6) (.tmp 15) 62 rfl _ _ _ rfl rfl vA.out ?_
 (try go_wp2_with fail)
 refine hK.out _ _ (fC.out) ?_;clear hK K;intro hHeld
 try simp only[Act.put,s1,s2,s3]
 refine tk 12 (h:=?_);refine wpAnyH_done (by kernel_rfl) ?_ _;clear hHeld lC mA nA;go_wp2_with fail;go_ret;have nC:=oA.out.size;have hL:=vB.out;subst hL;refine⟨_,_,nb,y0,y1,w7.heap.size,rfl,tA.out,by omega,nC,aC.out,sB.out.zPF oA.out (fun hh=>(dA.out hh.1).1 hh.2.symm),?_,(aB.out.mono (fun j e=>Or.inl e)).trans (oA.out.mono (fun j e=>Or.inr e)),tB.out⟩;refine(cC.out.zPF oA.out (fun j hj hh=>?_)).mono (fun j hj=>hj.imp id (fun hh=>⟨by omega,hh.2⟩));have hg:=dA.out hh.1;rcases hj with hj | hj
 ·exact hg.2.2.2.2 (hh.2▸hj)
 ·omega
end Go.Proofs.YtmgeglgboadfiaaGreatDoor

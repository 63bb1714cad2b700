/- A part of the proof. -/
import Derived.Test.YtgabgheflgjgiaaGreatDoorU16
import Derived.Deep.RegionLawGrows
set_option linter.unusedVariables false
set_option maxRecDepth 20000
set_option maxHeartbeats 4000000
namespace Go.Proofs.YtgabgheflgjgiaaGreatDoor
open Go.RowKit
structure zGV where
 store:zBA
 code:Int
abbrev zN5(v0 v1 v2 v3 u0 u1 u2 u3:Value)(o:zGV):Value:=.agg #[v0,v1,.int .i64 o.store.zOx.time,.int .i64 o.store.zOx.next,v2,v3,u0,u1,.int .i64 o.store.zOz.time,.int .i64 o.store.zOz.next,u2,u3,.int .i64 o.code]
def zKl(o:zGV)(w:World)(e:Ending)(w':World):Prop:=∃v0 v1 v2 v3 u0 u1 u2 u3,e = .returned (zN5 v0 v1 v2 v3 u0 u1 u2 u3 o)/\zBk w' w.heap.size w'.heap.size v0 v1 v2 v3 u0 u1 u2 u3 o.store/\Below w.heap.size w w'
def noW:zH:={zOv:=zBn 0,time:=0,next:=0,sn:=0,zOy:=fun _=>⟨⟨#[]⟩,0,0,0,0,0,fun _=>0,fun _=>0⟩,pn:=0,zOw:=fun _=>⟨0,⟨#[]⟩,⟨#[]⟩,0,0,0,0,0,fun _=>0,fun _=>0⟩}
def zE7(c:Int):zGV:=⟨⟨noW,noW⟩,c⟩
theorem zi{w:World}{lo hi:Nat}:zf w lo hi (.slice none 0 0) (.slice none 0 0) (.slice none 0 0) (.slice none 0 0) noW:=by
 refine⟨fun k=>lo<=k/\k<hi,fun _=>False,fun _=>False,⟨(zJV (lo:=lo) (hi:=hi)).isIn (fun k h1 h2=>⟨h1,h2⟩),?_,?_,fun _ _ h=>h,fun _ _ h=>h,fun _ h=>h.elim⟩,fun k hk=>?_⟩
 ·exact⟨0,fun _=>0,fun _=>.slice none 0 0,⟨Nat.zero_le _,none,0,rfl,Nat.le_refl _,fun h=>absurd h (Nat.lt_irrefl _)⟩,fun i j hi=>absurd hi (Nat.not_lt_zero _),fun k hk=>by
   rcases hk with⟨h,_⟩ | ⟨i,h,_⟩
   ·exact absurd h (Nat.lt_irrefl _)
   ·exact absurd h (Nat.not_lt_zero _)⟩
 ·exact⟨0,fun _=>0,fun _=>.slice none 0 0,⟨Nat.zero_le _,none,0,rfl,Nat.le_refl _,fun h=>absurd h (Nat.lt_irrefl _)⟩,fun i j hi=>absurd hi (Nat.not_lt_zero _),fun k hk=>by
   rcases hk with⟨h,_⟩ | ⟨i,h,_⟩
   ·exact absurd h (Nat.lt_irrefl _)
   ·exact absurd h (Nat.not_lt_zero _)⟩
 ·rcases hk with h | h | h
  ·exact h
  ·exact h.elim
  ·exact h.elim
theorem zGy{w:World}{lo hi:Nat}(h:lo<=hi):zBk w lo hi (.slice none 0 0) (.slice none 0 0) (.slice none 0 0) (.slice none 0 0) (.slice none 0 0) (.slice none 0 0) (.slice none 0 0) (.slice none 0 0) ⟨noW,noW⟩:=
 ⟨lo,lo,lo,lo,zi,zi,Nat.le_refl _,h,Nat.le_refl _,h,Or.inl (Nat.le_refl _)⟩
theorem zHU{w:World}{lo mid hi:Nat}{v0 v1 v2 v3 u0 u1 u2 u3:Value}{S:zBA}(h1:zf w lo mid v0 v1 v2 v3 S.zOx)(h2:zf w mid hi u0 u1 u2 u3 S.zOz)(hl:lo<=mid)(hh:mid<=hi):zBk w lo hi v0 v1 v2 v3 u0 u1 u2 u3 S:=
 ⟨lo,mid,mid,hi,h1,h2,Nat.le_refl _,hh,hl,Nat.le_refl _,Or.inl (Nat.le_refl _)⟩
def zBi(w:World)(b:Nat)(v0 v1 v2 v3 v4 v5 v6 v7 v8:Value):Prop:=zT w b 0 v0/\zT w b 1 v1/\zT w b 2 v2/\zT w b 3 v3/\zT w b 4 v4/\zT w b 5 v5/\zT w b 6 v6/\zT w b 7 v7/\zT w b 8 v8
theorem zBi.zOp{w w':World}{b:Nat}{v0 v1 v2 v3 v4 v5 v6 v7 v8:Value}(h:zBi w b v0 v1 v2 v3 v4 v5 v6 v7 v8)(t:Below w.heap.size w w'):zBi w' b v0 v1 v2 v3 v4 v5 v6 v7 v8:=⟨h.1.zOp t,h.2.1.zOp t,h.2.2.1.zOp t,h.2.2.2.1.zOp t,h.2.2.2.2.1.zOp t,h.2.2.2.2.2.1.zOp t,h.2.2.2.2.2.2.1.zOp t,h.2.2.2.2.2.2.2.1.zOp t,h.2.2.2.2.2.2.2.2.zOp t⟩
theorem zBi.zOr{S:Nat->Prop}{w w':World}{b:Nat}{v0 v1 v2 v3 v4 v5 v6 v7 v8:Value}(h:zBi w b v0 v1 v2 v3 v4 v5 v6 v7 v8)(t:zE S w w')(hs:¬S b):zBi w' b v0 v1 v2 v3 v4 v5 v6 v7 v8:=⟨h.1.zOr t hs,h.2.1.zOr t hs,h.2.2.1.zOr t hs,h.2.2.2.1.zOr t hs,h.2.2.2.2.1.zOr t hs,h.2.2.2.2.2.1.zOr t hs,h.2.2.2.2.2.2.1.zOr t hs,h.2.2.2.2.2.2.2.1.zOr t hs,h.2.2.2.2.2.2.2.2.zOr t hs⟩
theorem zBi.zOt(w:World)(v0 v1 v2 v3 v4 v5 v6 v7 v8:Value)(t:TypeId):zBi (w.alloc (.cells #[v0,v1,v2,v3,v4,v5,v6,v7,v8] t)) w.heap.size v0 v1 v2 v3 v4 v5 v6 v7 v8:=by
 have hb:(w.alloc (.cells #[v0,v1,v2,v3,v4,v5,v6,v7,v8] t)).heap[w.heap.size]?=some (.cells #[v0,v1,v2,v3,v4,v5,v6,v7,v8] t):=heap_alloc_new _ _;exact⟨zL hb rfl,zL hb rfl,zL hb rfl,zL hb rfl,zL hb rfl,zL hb rfl,zL hb rfl,zL hb rfl,zL hb rfl⟩
abbrev put9(w:World)(b:Nat)(u0 u1 u2 u3 u4 u5 u6 u7 u8:Value):World:=((((((((w.setCell ⟨b,0,none⟩ u0).setCell ⟨b,1,none⟩ u1).setCell ⟨b,2,none⟩ u2).setCell ⟨b,3,none⟩ u3).setCell ⟨b,4,none⟩ u4).setCell ⟨b,5,none⟩ u5).setCell ⟨b,6,none⟩ u6).setCell ⟨b,7,none⟩ u7).setCell ⟨b,8,none⟩ u8
theorem zBi.put{w:World}{b:Nat}{v0 v1 v2 v3 v4 v5 v6 v7 v8:Value}(h:zBi w b v0 v1 v2 v3 v4 v5 v6 v7 v8)(u0 u1 u2 u3 u4 u5 u6 u7 u8:Value):zBi (put9 w b u0 u1 u2 u3 u4 u5 u6 u7 u8) b u0 u1 u2 u3 u4 u5 u6 u7 u8:=by
 obtain⟨h0,h1,h2,h3,h4,h5,h6,h7,h8⟩:=h;exact⟨(((((((((h0.set _).zOq _ (Or.inr (by omega))).zOq _ (Or.inr (by omega))).zOq _ (Or.inr (by omega))).zOq _ (Or.inr (by omega))).zOq _ (Or.inr (by omega))).zOq _ (Or.inr (by omega))).zOq _ (Or.inr (by omega))).zOq _ (Or.inr (by omega))),
  (((((((((h1.zOq _ (Or.inr (by omega))).set _).zOq _ (Or.inr (by omega))).zOq _ (Or.inr (by omega))).zOq _ (Or.inr (by omega))).zOq _ (Or.inr (by omega))).zOq _ (Or.inr (by omega))).zOq _ (Or.inr (by omega))).zOq _ (Or.inr (by omega))),
  (((((((((h2.zOq _ (Or.inr (by omega))).zOq _ (Or.inr (by omega))).set _).zOq _ (Or.inr (by omega))).zOq _ (Or.inr (by omega))).zOq _ (Or.inr (by omega))).zOq _ (Or.inr (by omega))).zOq _ (Or.inr (by omega))).zOq _ (Or.inr (by omega))),
  (((((((((h3.zOq _ (Or.inr (by omega))).zOq _ (Or.inr (by omega))).zOq _ (Or.inr (by omega))).set _).zOq _ (Or.inr (by omega))).zOq _ (Or.inr (by omega))).zOq _ (Or.inr (by omega))).zOq _ (Or.inr (by omega))).zOq _ (Or.inr (by omega))),
  (((((((((h4.zOq _ (Or.inr (by omega))).zOq _ (Or.inr (by omega))).zOq _ (Or.inr (by omega))).zOq _ (Or.inr (by omega))).set _).zOq _ (Or.inr (by omega))).zOq _ (Or.inr (by omega))).zOq _ (Or.inr (by omega))).zOq _ (Or.inr (by omega))),
  (((((((((h5.zOq _ (Or.inr (by omega))).zOq _ (Or.inr (by omega))).zOq _ (Or.inr (by omega))).zOq _ (Or.inr (by omega))).zOq _ (Or.inr (by omega))).set _).zOq _ (Or.inr (by omega))).zOq _ (Or.inr (by omega))).zOq _ (Or.inr (by omega))),
  (((((((((h6.zOq _ (Or.inr (by omega))).zOq _ (Or.inr (by omega))).zOq _ (Or.inr (by omega))).zOq _ (Or.inr (by omega))).zOq _ (Or.inr (by omega))).zOq _ (Or.inr (by omega))).set _).zOq _ (Or.inr (by omega))).zOq _ (Or.inr (by omega))),
  (((((((((h7.zOq _ (Or.inr (by omega))).zOq _ (Or.inr (by omega))).zOq _ (Or.inr (by omega))).zOq _ (Or.inr (by omega))).zOq _ (Or.inr (by omega))).zOq _ (Or.inr (by omega))).zOq _ (Or.inr (by omega))).set _).zOq _ (Or.inr (by omega))),
  (((((((((h8.zOq _ (Or.inr (by omega))).zOq _ (Or.inr (by omega))).zOq _ (Or.inr (by omega))).zOq _ (Or.inr (by omega))).zOq _ (Or.inr (by omega))).zOq _ (Or.inr (by omega))).zOq _ (Or.inr (by omega))).zOq _ (Or.inr (by omega))).set _)⟩
theorem zE.put9(w:World)(b:Nat)(u0 u1 u2 u3 u4 u5 u6 u7 u8:Value):zE (fun k=>k=b) w (put9 w b u0 u1 u2 u3 u4 u5 u6 u7 u8):=((((((((zE.put w b 0 u0).trans (zE.put _ b 1 u1)).trans (zE.put _ b 2 u2)).trans (zE.put _ b 3 u3)).trans (zE.put _ b 4 u4)).trans (zE.put _ b 5 u5)).trans (zE.put _ b 6 u6)).trans (zE.put _ b 7 u7)).trans (zE.put _ b 8 u8)
structure zCW where
 world:zH
 id:Int
 many:Int
 code:Int
abbrev zIK(v0 v1 v2 v3:Value)(o:zCW):Value:=.agg #[v0,v1,.int .i64 o.world.time,.int .i64 o.world.next,v2,v3,.int .i64 o.id,.int .i64 o.many,.int .i64 o.code]
def zw(o:zCW)(w:World)(e:Ending)(w':World):Prop:=∃v0 v1 v2 v3,e = .returned (zIK v0 v1 v2 v3 o)/\zf w' w.heap.size w'.heap.size v0 v1 v2 v3 o.world/\Below w.heap.size w w'
def yB(c:Int):zCW:=⟨noW,0,0,c⟩
def zHg(r:Option Nat)(o:zCW):zCW:=match r with
 | some i=>yB (zEU i)
 | none=>o
def zHF(name:ByteArray):zu:={name:=name,origin:=0,zO0:=0,rs:=0,rb:=0,dn:=0,ds:=fun _=>0,db:=fun _=>0}
def zDs(name:ByteArray)(id:Int)(rs rb:Int):zu:={name:=name,origin:=id,zO0:=id,rs:=rs,rb:=rb,dn:=0,ds:=fun _=>0,db:=fun _=>0}
def zAA(W:zH)(name:ByteArray)(w:World)(e:Ending)(w':World):Prop:=∃r o,zCj W (∃i,i<1/\8000<((fun (_:Nat)=>name) i).size) (∃i,i<1/\¬qV ((fun i=>match i with  | _=>name) i)) 2 (fun i=>match i with | 0=>¬zx W name | _=>W.sn<8) (fun i=>match i with | 0=>3 | _=>4) r/\(r=none->∃k,zDU W name k/\o=⟨zBg W k (zHF name),0,0,0⟩)/\zw (zHg r o) w e w'
theorem zAA.ill{W:zH}{name:ByteArray}{w w':World}{e:Ending}{i:Nat}(hr:zCj W (∃i,i<1/\8000<((fun (_:Nat)=>name) i).size) (∃i,i<1/\¬qV ((fun i=>match i with  | _=>name) i)) 2 (fun i=>match i with | 0=>¬zx W name | _=>W.sn<8) (fun i=>match i with | 0=>3 | _=>4) (some i))(h:zw (yB (zEU i)) w e w'):zAA W name w e w':=⟨some i,yB 0,hr,fun e=>(by cases e),h⟩
def qz(W:zH)(sid:Int)(name:ByteArray)(w:World)(e:Ending)(w':World):Prop:=∃r o,zCj W (∃i,i<1/\8000<((fun (_:Nat)=>name) i).size) (∃i,i<1/\¬qV ((fun i=>match i with  | _=>name) i)) 3 (fun i=>match i with | 0=>qL W sid | 1=>¬zx W name | _=>W.sn<8) (fun i=>match i with | 0=>2 | 1=>3 | _=>4) r/\(r=none->∃k,zDU W name k/\o=⟨zBg W k (zDs name sid (zN W sid).rs (zN W sid).rb),0,0,0⟩)/\zw (zHg r o) w e w'
theorem qz.ill{W:zH}{aA:Int}{name:ByteArray}{w w':World}{e:Ending}{i:Nat}(hr:zCj W (∃i,i<1/\8000<((fun (_:Nat)=>name) i).size) (∃i,i<1/\¬qV ((fun i=>match i with  | _=>name) i)) 3 (fun i=>match i with | 0=>qL W aA | 1=>¬zx W name | _=>W.sn<8) (fun i=>match i with | 0=>2 | 1=>3 | _=>4) (some i))(h:zw (yB (zEU i)) w e w'):qz W aA name w e w':=⟨some i,yB 0,hr,fun e=>(by cases e),h⟩
noncomputable def comeN(W:zH)(st:ByteArray):Nat->Int->List zd
 | 0,_=>[]
 | n+1,x=>open Classical in if (zN W x).id=0\/(zN W x).set≠st then [] else zN W x :: comeN W st n (zN W x).zO0
noncomputable def zED(W:zH)(st:ByteArray)(x:Int):List zd:=comeN W st (x.toNat+1) x
theorem zFn{W:zH}(h:zDK W){x:Int}(h0:(zN W x).id≠0):(zN W x).id=x/\1<=x/\(zN W x).zO0<x/\∃k,qo W x k:=by
 by_cases hx:∃k,qo W x k
 ·obtain⟨k,hk⟩:=hx;rw[qX hk];have h1:=(h.range k hk.1).1;have h2:=(h.zOw.2.1 k hk.1).2.2.1;have h3:=hk.2.1;exact⟨hk.2.1,by omega,by omega,k,hk⟩
 ·have e:zN W x=qu:=(by unfold zN;rw[dif_neg hx]);rw[e]at h0;exact absurd rfl h0
theorem zJ6{W:zH}(h:zDK W)(st:ByteArray):∀(n:Nat) (x:Int),x.toNat+1<=n->comeN W st n x=comeN W st (x.toNat+1) x:=by
 intro n
 induction n using Nat.strongRecOn with
 | _ n ih=>
  intro x hn;obtain⟨m,rfl⟩:∃m,n=m+1:=⟨n - 1,by omega⟩;unfold comeN;by_cases hq:(zN W x).id=0\/(zN W x).set≠st
  ·rw[if_pos hq,if_pos hq]
  ·rw[if_neg hq,if_neg hq];have hf:=zFn h (fun e=>hq (Or.inl e));congr 1;by_cases e:m=x.toNat
   ·rw[e]
   ·have hp:(zN W x).zO0.toNat+1<=x.toNat:=(by omega);rw[ih m (by omega) _ (by omega),ih x.toNat (by omega) _ hp]
theorem zGf{W:zH}{st:ByteArray}{x:Int}(hq:(zN W x).id=0\/(zN W x).set≠st):zED W st x = []:=by
 unfold zED comeN;rw[if_pos hq]
theorem zGe{W:zH}(h:zDK W){st:ByteArray}{x:Int}(hq:¬((zN W x).id=0\/(zN W x).set≠st)):zED W st x=zN W x :: zED W st (zN W x).zO0:=by
 have hf:=zFn h (fun e=>hq (Or.inl e));unfold zED;rw[show comeN W st (x.toNat+1) x=zN W x :: comeN W st x.toNat (zN W x).zO0 by
  show(if _ then _ else _)=_;rw[if_neg hq]]
 rw[zJ6 h st x.toNat _ (by omega)]
open Go.Maps
theorem qG{P:Program}{w w1:World}{bA:Array Oper}{zO8:List Oper}{o:Oper}{a:Act}{Q:Exit->Act->World->Prop}(cA:o.guard=none)(s x:Operand)(t:TypeId)
  (ho:o.op = .call {callee:=.builtin .append,args:=#[s,x],argTypes:=#[t,t]}) (vs vx v':Value) (hs:a.eval s=vs) (hx:a.eval x=vx) (aA:(Builtin.append_ #[t,t] o.type #[vs,vx]).run P w = .ok v' w1)
  (h:wpList P bA Q zO8 (a.put o.dst v') w1):wpList P bA Q (o :: zO8) a w:=by
 refine wpList_plain cA fun K hK=>?_
 unfold Oper.wp;simp[execOp,ho,resolve,invoke,builtin,hs,hx,aA,Result.andThen];exact hK _ _ h
theorem zEL(w:World)(lo hi:Nat)(a:Option Addr)(n c:Nat)(f g:Nat->Int)(h:zp w lo hi (.slice a n c) n f g)(hn:n<=1048576)(ty:TypeId):∃a' c' kb w1,
  (Builtin.append_ #[100,100] ty #[.slice (some ⟨w.heap.size,0,none⟩) 0 0,.slice a n c]).run Tryz.prog (w.alloc (.cells #[] 99)) = .ok (.slice a' n c') w1/\ze w1 kb (.slice a' n c') n f g/\(0<n->w.heap.size<=kb/\kb<w1.heap.size)/\Below w.heap.size w w1/\w.heap.size<w1.heap.size:=by
 obtain⟨m1,a0,c0,hv,mc,g1⟩:=h;simp only[Value.slice.injEq,true_and]at hv;obtain⟨rfl,rfl⟩:=hv;obtain⟨i0,eA,fA⟩:=Option.map_eq_some_iff.1 zDg;simp only[Prod.mk.injEq]at fA;obtain⟨hz,hs,iA⟩:=fA;have ht:Tryz.prog.underlying 100=some (.slice 99):=by kernel_rfl
 have aA:(w.alloc (.cells #[] 99)).ownsRow w.heap.size 99 2 (.slice (some ⟨w.heap.size,0,none⟩) 0 0) 0 []:=World.ownsRow_made w #[] 0 (Nat.le_refl _) (Nat.zero_le _) (by simp);have dA:=zC w (.cells #[] 99);by_cases h0:0<n
 ·obtain⟨b,off,rfl,_,_,hc⟩:=g1 h0;have cA:∀j,(⟨b,off,none⟩:Addr).add j=⟨b,off+j,none⟩:=fun j=>by unfold Addr.add;split<;>simp_all
  obtain⟨v',w1,hr,r1,r2,_⟩:=run_append_own (P:=Tryz.prog) (w.alloc (.cells #[] 99)) w.heap.size 100 ty 99 i0 (.agg #[.int .i64 0,.int .i64 0]) 2 16 ht eA hz hs iA rfl (by decide) _ 0 [] aA ⟨b,off,none⟩ n c (kc f g n) (zEZ f g n) (fun j u hj=>by
    have:=zGl hc j u hj;rw[cA]at this ⊢;exact(dA.cell (zD this)).trans this) (zKG f g n) (by unfold maxLen;omega) (by omega) (by simp)
  have bA:w1.ownsRow w.heap.size 99 2 v' n (kc f g n):=(by simpa using r1);obtain⟨kb,hp,hk⟩:=zDF m1 bA;obtain⟨_,a',c',rfl,_⟩:=id hp;have gA:Below w.heap.size w w1:=dA.grown r2 (by simp) (fun q hq=>by have:=aA.lt q hq;omega);exact⟨a',c',kb,w1,hr,hp,hk,gA,by have:=hk h0;omega⟩
 ·obtain rfl:n=0:=(by omega);have hr:=yl (P:=Tryz.prog) (w:=w.alloc (.cells #[] 99)) w.heap.size 100 ty 99 i0 2 c a ht eA _ 0 [] aA;exact⟨_,0,0,_,hr,⟨Nat.zero_le _,_,0,rfl,Nat.le_refl _,fun h=>absurd h (Nat.lt_irrefl _)⟩,fun h=>absurd h (Nat.lt_irrefl _),dA,by simp⟩
def zJz:zu:=⟨⟨#[]⟩,0,0,0,0,0,fun _=>0,fun _=>0⟩
open Classical in
noncomputable def qi(W:zH)(x:ByteArray):zu:=if h:∃k,zAO W x k then W.zOy h.choose else zJz
theorem zHE{W:zH}{x:ByteArray}{k:Nat}(h:zAO W x k):qi W x=W.zOy k:=by
 have hx:∃k,zAO W x k:=⟨k,h⟩;unfold qi;rw[dif_pos hx,hx.choose_spec.uniq h]
theorem zM{P:Program}{w w1:World}{bA:Array Oper}{o:Oper}{a:Act}{K:Act->World->Prop}{Q:Exit->Act->World->Prop}{E:Prop}(cA:o.guard=none)(s x:Operand)(t:TypeId)
  (ho:o.op = .call {callee:=.builtin .append,args:=#[s,x],argTypes:=#[t,t]}) (vs vx v':Value) (hs:a.eval s=vs) (hx:a.eval x=vx) (aA:(Builtin.append_ #[t,t] o.type #[vs,vx]).run P w = .ok v' w1)
  (h:K (a.put o.dst v') w1):if Region.wanted o (yielded bA a.tmps)=true then Oper.wp P o a w K Q else E:=by
 have hw:Region.wanted o (yielded bA a.tmps)=true:=by simp[Region.wanted,cA]
 rw[if_pos hw];unfold Oper.wp;simp[execOp,ho,resolve,invoke,builtin,hs,hx,aA,Result.andThen];exact h
def zGC(G:Nat->Value)(i n:Nat):List Value:=(List.range n).map (fun j=>G (i+j))
theorem qh(G:Nat->Value)(i n:Nat):(zGC G i n).length=n:=by simp[zGC]
theorem zB0{G:Nat->Value}{i n j:Nat}(h:j<n):(zGC G i n)[j]?=some (G (i+j)):=by simp[zGC,h]
theorem zNE:Tryz.prog.underlying 38=some (.slice 111):=by kernel_rfl
theorem zH8(w:World)(base:Nat)(v:Value)(n:Nat)(xs:List Value)(aA:w.ownsRow base 111 8 v n xs)(hb:base<=w.heap.size)(ad:Option Addr)(b off i m c:Nat)(G:Nat->Value)(fA:0<m->ad=some ⟨b,off+i,none⟩)(hG:∀j,j<m*8->w.cell? ⟨b,off+(i+j),none⟩=some (G (i+j))/\(G (i+j)).oneCell'=true)(hn:n+m<=1000)(ty:TypeId) :
  ∃v' w',(Builtin.append_ #[38,38] ty #[v,.slice ad m c]).run Tryz.prog w = .ok v' w'/\w'.ownsRow base 111 8 v' (n+m) (xs ++ zGC G i (m*8))/\w.grownBy w' v.ownBlock:=by
 obtain⟨i0,cA,eA⟩:=Option.map_eq_some_iff.1 zDy;simp only[Prod.mk.injEq]at eA;obtain⟨hz,hs,gA⟩:=eA;by_cases h0:0<m
 ·obtain rfl:=fA h0;have bA:∀j,(⟨b,off+i,none⟩:Addr).add j=⟨b,off+(i+j),none⟩:=fun j=>by
   unfold Addr.add;split
   ·simp_all
   ·simp[Nat.add_assoc]
  obtain⟨v',w1,hr,r1,r2,_⟩:=run_append_own (P:=Tryz.prog) w base 38 ty 111 i0 _ 8 96 zNE cA hz hs gA rfl (by decide) v n xs aA ⟨b,off+i,none⟩ m c (zGC G i (m*8)) (qh _ _ _) (fun j u hj=>by
    have dA:j<m*8:=by
     have:=(List.getElem?_eq_some_iff.1 hj).1
     rwa [qh]at this
    rw[zB0 dA]at hj;cases hj;rw[bA];exact(hG j dA).1) (fun u hu=>by
    unfold zGC at hu;obtain⟨j,hj,rfl⟩:=List.mem_map.1 hu;exact(hG j (List.mem_range.1 hj)).2) (by unfold maxLen;omega) (by omega) hb
  exact⟨v',w1,hr,r1,r2⟩
 ·obtain rfl:m=0:=(by omega);exact⟨v,w,yl (P:=Tryz.prog) (w:=w) base 38 ty 111 i0 8 c ad zNE cA v n xs aA,by simpa[zGC]using aA,World.grownBy.refl _ _⟩
def zEB(W:zH)(name:ByteArray)(l:List zd):Prop:=∀i,i<l.length->∀k,k<W.pn->¬((W.zOw k).set=name/\(W.zOw k).name=(l.getD i qu).name)
def setTo(f:Nat->zd)(j:Nat)(name:ByteArray):Nat->zd:=fun i=>if i=j then {f j with set:=name}else f i
theorem qI.setTo{w:World}{bs off c:Nat}{kb:Nat->Nat}{kv:Nat->Value}{n:Nat}{f:Nat->zd}(h:qI w bs kb kv (.slice (some ⟨bs,off,none⟩) n c) n f){j:Nat}(hj:j<n){name:ByteArray}(bA:name.size<=maxLen):qI (w.setCell ⟨bs,off+j*8+2,none⟩ (.string name)) bs kb kv (.slice (some ⟨bs,off,none⟩) n c) n (setTo f j name):=by
 obtain⟨h0,a,cap,hv,aA,hc⟩:=h;cases hv;refine⟨h0,_,_,rfl,aA,fun hn=>?_⟩;obtain⟨cA,e,h3⟩:=hc hn;cases e;refine⟨off,rfl,fun i hi=>?_⟩;have hs:=h3 i hi;have hd:ze (w.setCell ⟨bs,off+j*8+2,none⟩ (.string name)) (kb i) (kv i) (f i).dn (f i).ds (f i).db:=hs.zO5.zOr (zE.put w bs _ _) (fun h0=>hs.zO4 h0);by_cases e:i=j
 ·subst e;have e1:Go.Proofs.YtgabgheflgjgiaaGreatDoor.setTo f i name i = {f i with set:=name}:=if_pos rfl;rw[e1];exact⟨hs.c0.zOq _ (Or.inr (by omega)),hs.c1.zOq _ (Or.inr (by omega)),hs.c2.set _,hs.c3.zOq _ (Or.inr (by omega)),hs.c4.zOq _ (Or.inr (by omega)),hs.c5.zOq _ (Or.inr (by omega)),hs.c6.zOq _ (Or.inr (by omega)),hs.c7.zOq _ (Or.inr (by omega)),hd,⟨hs.zO6.1,bA⟩,hs.zO4⟩
 ·have e1:Go.Proofs.YtgabgheflgjgiaaGreatDoor.setTo f j name i=f i:=if_neg e;rw[e1];exact⟨hs.c0.zOq _ (Or.inr (by omega)),hs.c1.zOq _ (Or.inr (by omega)),hs.c2.zOq _ (Or.inr (by omega)),hs.c3.zOq _ (Or.inr (by omega)),hs.c4.zOq _ (Or.inr (by omega)),hs.c5.zOq _ (Or.inr (by omega)),hs.c6.zOq _ (Or.inr (by omega)),hs.c7.zOq _ (Or.inr (by omega)),hd,hs.zO6,hs.zO4⟩
def orgTo(f:Nat->zu)(j:Nat)(x:Int):Nat->zu:=fun i=>if i=j then {f j with origin:=x}else f i
theorem zBY(f:Nat->zu)(j:Nat)(x:Int)(i:Nat):(orgTo f j x i).dn=(f i).dn/\(orgTo f j x i).ds=(f i).ds/\(orgTo f j x i).db=(f i).db/\(orgTo f j x i).name=(f i).name/\(orgTo f j x i).zO0=(f i).zO0/\(orgTo f j x i).rs=(f i).rs/\(orgTo f j x i).rb=(f i).rb:=by
 unfold orgTo;by_cases e:i=j
 ·rw[if_pos e,e];exact⟨rfl,rfl,rfl,rfl,rfl,rfl,rfl⟩
 ·rw[if_neg e];exact⟨rfl,rfl,rfl,rfl,rfl,rfl,rfl⟩
theorem yo.orgTo{bs:Nat}{kb:Nat->Nat}{n:Nat}{f:Nat->zu}{j:Nat}{x:Int}(k:Nat):yo bs kb n (orgTo f j x) k↔yo bs kb n f k:=by
 unfold yo;constructor
 ·rintro(h | ⟨i,h1,h2,h3⟩)
  ·exact Or.inl h
  ·exact Or.inr ⟨i,h1,by rw[<-(zBY f j x i).1];exact h2,h3⟩
 ·rintro(h | ⟨i,h1,h2,h3⟩)
  ·exact Or.inl h
  ·exact Or.inr ⟨i,h1,by rw[(zBY f j x i).1];exact h2,h3⟩
theorem qy.orgTo{kb:Nat->Nat}{n:Nat}{f:Nat->zu}(h:qy kb n f)(j:Nat)(x:Int):qy kb n (orgTo f j x):=fun a b ha hb aA h1 h2=>h a b ha hb aA (by rw[<-(zBY f j x a).1];exact h1) (by rw[<-(zBY f j x b).1];exact h2)
theorem qK.orgTo{w:World}{bs off c:Nat}{kb:Nat->Nat}{kv:Nat->Value}{n:Nat}{f:Nat->zu}(h:qK w bs kb kv (.slice (some ⟨bs,off,none⟩) n c) n f){j:Nat}(hj:j<n)(x:Int):qK (w.setCell ⟨bs,off+j*6+1,none⟩ (.int .i64 x)) bs kb kv (.slice (some ⟨bs,off,none⟩) n c) n (orgTo f j x):=by
 obtain⟨h0,a,cap,hv,aA,hc⟩:=h;cases hv;refine⟨h0,_,_,rfl,aA,fun hn=>?_⟩;obtain⟨bA,e,h3⟩:=hc hn;cases e;refine⟨off,rfl,fun i hi=>?_⟩;have hs:=h3 i hi;have hd:ze (w.setCell ⟨bs,off+j*6+1,none⟩ (.int .i64 x)) (kb i) (kv i) (f i).dn (f i).ds (f i).db:=hs.zO5.zOr (zE.put w bs _ _) (fun h0=>hs.zO4 h0);by_cases e:i=j
 ·subst e;have e1:Go.Proofs.YtgabgheflgjgiaaGreatDoor.orgTo f i x i = {f i with origin:=x}:=if_pos rfl;rw[e1];exact⟨hs.c0.zOq _ (Or.inr (by omega)),hs.c1.set _,hs.c2.zOq _ (Or.inr (by omega)),hs.c3.zOq _ (Or.inr (by omega)),hs.c4.zOq _ (Or.inr (by omega)),hs.c5.zOq _ (Or.inr (by omega)),hd,hs.zO6,hs.zO4⟩
 ·have e1:Go.Proofs.YtgabgheflgjgiaaGreatDoor.orgTo f j x i=f i:=if_neg e;rw[e1];exact⟨hs.c0.zOq _ (Or.inr (by omega)),hs.c1.zOq _ (Or.inr (by omega)),hs.c2.zOq _ (Or.inr (by omega)),hs.c3.zOq _ (Or.inr (by omega)),hs.c4.zOq _ (Or.inr (by omega)),hs.c5.zOq _ (Or.inr (by omega)),hd,hs.zO6,hs.zO4⟩
def zHk(l:List zd)(x:Int):Prop:=∃i,i<l.length/\(l.getD i qu).id=x
open Classical in
noncomputable def zAa(W:zH)(name:ByteArray)(l:List zd)(m:Nat):Nat->zd:=fun j=>if j<m/\zHk l (W.zOw j).id then {W.zOw j with set:=name}else W.zOw j
noncomputable def zDo(W:zH)(name:ByteArray)(k k2:Nat)(l:List zd):zH:={W with zOy:=orgTo (orgTo W.zOy k (W.zOy k2).origin) k2 (l.getD 0 qu).id,zOw:=zAa W name l W.pn}
noncomputable def yW(W:zH)(name:ByteArray):List zd:=zED W (zN W (qi W name).origin).set (qi W name).origin
theorem zIo{W:zH}(h:zAi W){name:ByteArray}(h0:(qi W name).origin≠0):qL W (qi W name).origin:=by
 by_cases hx:∃k,zAO W name k
 ·obtain⟨k,hk⟩:=hx;rw[zHE hk]at h0 ⊢;exact(h.2.2.2.2.1 k hk.1).2.2.2 h0
 ·have e:qi W name=zJz:=(by unfold qi;rw[dif_neg hx]);rw[e]at h0;exact absurd rfl h0
theorem zKE{W:zH}(h:zAi W){k:Nat}(hk:k<W.pn):(W.zOw k).id≠0:=by
 have:=((h.2.2.2.2.2 k hk).1).1;omega
theorem zDn{W:zH}(h:zEn W){name:ByteArray}(h0:(qi W name).origin≠0):0<(yW W name).length/\(yW W name).getD 0 qu=zN W (qi W name).origin/\(zN W (qi W name).origin).id=(qi W name).origin/\∃k2,zAO W (zN W (qi W name).origin).set k2:=by
 have hS:=((qM W).1 h).zO3;obtain⟨j,hj⟩:=(zIo hS h0).no;have e:=qX hj;have hn:=zGe h.zO3 (st:=(zN W (qi W name).origin).set) (x:=(qi W name).origin) (by
  rintro(e1 | e1)
  ·rw[e]at e1;exact zKE hS hj.1 e1
  ·exact e1 rfl)
 refine⟨?_,?_,by rw[e];exact hj.2.1,?_⟩
 ·unfold yW;rw[hn];exact Nat.succ_pos _
 ·unfold yW;rw[hn];rfl
 ·rw[e];exact zLt ((hS.2.2.2.2.2 j hj.1).1).2.2.2.2.2
theorem zJY{W:zH}(h:zKk W)(name:ByteArray)(l:List zd){j:Nat}(hj:j<W.pn):zAa W name (l ++ [W.zOw j]) W.pn=setTo (zAa W name l W.pn) j name:=by
 have hc:∀x,zHk (l ++ [W.zOw j]) x↔zHk l x\/(W.zOw j).id=x:=fun x=>by
  constructor
  ·rintro⟨i,hi,e⟩;rw[List.length_append,List.length_singleton]at hi;by_cases h1:i<l.length
   ·refine Or.inl ⟨i,h1,?_⟩;rw[List.getD_eq_getElem?_getD,List.getElem?_append_left h1,<-List.getD_eq_getElem?_getD]at e;exact e
   ·obtain rfl:i=l.length:=(by omega);rw[List.getD_eq_getElem?_getD,List.getElem?_append_right (Nat.le_refl _),Nat.sub_self]at e;exact Or.inr e
  ·rintro(⟨i,hi,e⟩ | e)
   ·refine⟨i,by rw[List.length_append];omega,?_⟩;rw[List.getD_eq_getElem?_getD,List.getElem?_append_left hi,<-List.getD_eq_getElem?_getD];exact e
   ·refine⟨l.length,by rw[List.length_append,List.length_singleton];omega,?_⟩;rw[List.getD_eq_getElem?_getD,List.getElem?_append_right (Nat.le_refl _),Nat.sub_self];exact e
 funext i;unfold setTo;by_cases e:i=j
 ·subst e;rw[if_pos rfl];have hy:zAa W name (l ++ [W.zOw i]) W.pn i = {W.zOw i with set:=name}:=by
   unfold zAa;rw[if_pos ⟨hj,(hc _).2 (Or.inr rfl)⟩]
  rw[hy];unfold zAa;by_cases hq:i<W.pn/\zHk l (W.zOw i).id
  ·rw[if_pos hq]
  ·rw[if_neg hq]
 ·rw[if_neg e];unfold zAa;by_cases hq:i<W.pn/\zHk l (W.zOw i).id
  ·rw[if_pos hq,if_pos ⟨hq.1,(hc _).2 (Or.inl hq.2)⟩]
  ·rw[if_neg hq,if_neg (fun h'=>hq ⟨h'.1,((hc _).1 h'.2).resolve_right (fun e2=>by
    rcases Nat.lt_or_gt_of_ne e with h1 | h1
    ·exact h j hj i h1 e2.symm
    ·exact h i h'.1 j h1 e2)⟩)]
theorem zKW(W:zH)(name:ByteArray)(m:Nat):zAa W name [] m=W.zOw:=by
 funext j;unfold zAa;rw[if_neg (fun h=>by obtain⟨i,hi,-⟩:=h.2;exact absurd hi (Nat.not_lt_zero _))]
def yX(W:zH)(name:ByteArray)(w:World)(e:Ending)(w':World):Prop:=∃r o,zCj W (∃i,i<1/\8000<((fun (_:Nat)=>name) i).size) (∃i,i<0/\¬qV ((fun _=>⟨#[]⟩) i)) 3 (fun i=>match i with | 0=>zx W name | 1=>(qi W name).origin≠0 | _=>zEB W name (yW W name)) (fun i=>match i with | 0=>2 | 1=>5 | _=>3) r/\(r=none->∃k k2,zAO W name k/\zAO W (zN W (qi W name).origin).set k2/\o=⟨zDo W name k k2 (yW W name),(qi W name).origin,0,0⟩)/\zw (zHg r o) w e w'
theorem yX.ill{W:zH}{name:ByteArray}{w w':World}{e:Ending}{i:Nat}(hr:zCj W (∃i,i<1/\8000<((fun (_:Nat)=>name) i).size) (∃i,i<0/\¬qV ((fun _=>⟨#[]⟩) i)) 3 (fun i=>match i with | 0=>zx W name | 1=>(qi W name).origin≠0 | _=>zEB W name (yW W name)) (fun i=>match i with | 0=>2 | 1=>5 | _=>3) (some i))(h:zw (yB (zEU i)) w e w'):yX W name w e w':=⟨some i,yB 0,hr,fun e=>(by cases e),h⟩
def zBs(p:zI)(xs:Int):zI:={n:=p.n,s:=p.s,hn:=p.hn+1,h:=fun i=>if i=p.hn then xs else p.h i}
theorem zMc{f g:Nat->Int}{n:Nat}(h:∀i,i<n->f i=g i):ic f n=ic g n:=by
 induction n with
 | zero=>rfl
 | succ n ih=>
  unfold ic;rw[ih (fun i hi=>h i (by omega)),h n (by omega)]
theorem zNb(p:zI)(xs:Int):ic (zBs p xs).h (p.hn+1)=ic p.h p.hn ++ [.int .i64 xs]:=by
 show ic (zBs p xs).h p.hn ++ [.int .i64 ((zBs p xs).h p.hn)]=_;rw[zMc (f:=(zBs p xs).h) (g:=p.h) (fun i hi=>if_neg (by omega)),show(zBs p xs).h p.hn=xs from if_pos rfl]
theorem zF7{b:Nat}{w w':World}(t:zE (fun k=>k=b) w w'):w.grownBy w' (some b):=⟨t.os,t.tape,t.output,t.size,fun k hk aA=>t.block k hk (fun e=>aA (by rw[e]))⟩
theorem zOb(x:Int):∀u∈[Value.int .i64 x],u.oneCell'=true:=by
 intro u hu;simp only[List.mem_cons,List.not_mem_nil,or_false]at hu;rw[hu];rfl
theorem zGx{w:World}{b:Nat}{x:Value}(h:w.cell? ⟨b,0,none⟩=some x):∀j u,[x][j]?=some u->w.cell? ((⟨b,0,none⟩:Addr).add j)=some u:=by
 intro j u hj
 match j,hj with
 | 0,hj=>simp at hj;subst hj;rw[add_lit];exact h
 | (j+1),hj=>simp at hj
theorem zF3{p:zI}(h:∀i,i<p.n->qJ (p.s i)\/ym p (p.s i)):∀k,k<=p.n->zAo p.s k<=24*k
 | 0,_=>Nat.le_refl _
 | k+1,hk=>by
  have ih:=zF3 h k (by omega);have hs:zAn (p.s k)<=24:=by
   unfold zAn;rcases h k (by omega)with hf | hf
   ·have h1:=hf.2.1;have h2:(p.s k).data.size=0:=by
     have:=hf.2.2;rw[Go.ByteArray.toList_eq]at this;have e:(p.s k).data.data=#[]:=(by simpa using this);show(p.s k).data.data.size=0;rw[e];rfl
    omega
   ·rcases hf.2 with h2 | h2
    ·omega
    ·have h3:(p.s k).data.size=0:=by
      have:=h2.2.1;rw[Go.ByteArray.toList_eq]at this;have e:(p.s k).data.data=#[]:=(by simpa using this);show(p.s k).data.data.size=0;rw[e];rfl
     omega
  show zAo p.s k+zAn (p.s k)<=_;omega
theorem zDp{p:zI}(h:zt p):qA p<=10000:=by
 have h1:=zF3 h.2.1 p.n (Nat.le_refl _);have h2:=((zC0 p).2 h).2.1;have h3:=h.1;unfold qA;omega
end Go.Proofs.YtgabgheflgjgiaaGreatDoor

/- A part of the proof. -/
import Derived.Test.YtnfjcaoclahfjaaGreatDoorF19
import Derived.LaidEql
import Derived.Stop.Asserts
import Derived.RowKitTokens
set_option linter.unusedVariables false
set_option maxRecDepth 20000
set_option maxHeartbeats 4000000
namespace Go.Proofs.YtnfjcaoclahfjaaGreatDoor
noncomputable section
open Go.RowKit
def noW:A4:={pool:=Ce 0,time:=0,next:=0,sn:=0,A2:=fun _=>⟨⟨#[]⟩,0,0,0,0,0,fun _=>0,fun _=>0⟩,pn:=0,A0:=fun _=>⟨0,⟨#[]⟩,⟨#[]⟩,0,0,0,0,0,fun _=>0,fun _=>0⟩}
variable{w:World}
theorem SW{lo hi:Nat}:EX w lo hi (.slice none 0 0) (.slice none 0 0) (.slice none 0 0) (.slice none 0 0) noW:=by
 refine⟨fun k=>lo<=k/\k<hi,fun _=>False,fun _=>False,⟨(U5 (lo:=lo) (hi:=hi)).isIn (fun k b c=>⟨b,c⟩),?_,?_,fun _ _ h=>h,fun _ _ h=>h,fun _ h=>h.elim⟩,fun k a=>?_⟩
 ·exact⟨0,fun _=>0,fun _=>.slice none 0 0,⟨Nat.zero_le _,none,0,rfl,Nat.le_refl _,fun h=>absurd h (Nat.lt_irrefl _)⟩,fun i j hi=>absurd hi (Nat.not_lt_zero _),fun k a=>by
   rcases a with⟨h,_⟩ | ⟨i,h,_⟩
   ·exact absurd h (Nat.lt_irrefl _)
   ·exact absurd h (Nat.not_lt_zero _)⟩
 ·exact⟨0,fun _=>0,fun _=>.slice none 0 0,⟨Nat.zero_le _,none,0,rfl,Nat.le_refl _,fun h=>absurd h (Nat.lt_irrefl _)⟩,fun i j hi=>absurd hi (Nat.not_lt_zero _),fun k a=>by
   rcases a with⟨h,_⟩ | ⟨i,h,_⟩
   ·exact absurd h (Nat.lt_irrefl _)
   ·exact absurd h (Nat.not_lt_zero _)⟩
 ·rcases a with h | h | h
  ·exact h
  ·exact h.elim
  ·exact h.elim
def BR(w:World)(b:Nat)(v0 v1 v2 v3 v4 v5 v6 v7 v8:Value):Prop:=AF w b 0 v0/\AF w b 1 v1/\AF w b 2 v2/\AF w b 3 v3/\AF w b 4 v4/\AF w b 5 v5/\AF w b 6 v6/\AF w b 7 v7/\AF w b 8 v8
variable{b:Nat}{v0 v1 v2 v3 v4 v5 v6 v7 v8:Value}
theorem BR.c(h:BR w b v0 v1 v2 v3 v4 v5 v6 v7 v8):w.cell? ⟨b,0,none⟩=some v0/\w.cell? ⟨b,1,none⟩=some v1/\w.cell? ⟨b,2,none⟩=some v2/\w.cell? ⟨b,3,none⟩=some v3/\w.cell? ⟨b,4,none⟩=some v4/\w.cell? ⟨b,5,none⟩=some v5/\w.cell? ⟨b,6,none⟩=some v6/\w.cell? ⟨b,7,none⟩=some v7/\w.cell? ⟨b,8,none⟩=some v8:=
 ⟨h.1.1,h.2.1.1,h.2.2.1.1,h.2.2.2.1.1,h.2.2.2.2.1.1,h.2.2.2.2.2.1.1,h.2.2.2.2.2.2.1.1,h.2.2.2.2.2.2.2.1.1,h.2.2.2.2.2.2.2.2.1⟩
variable{w':World}
theorem BR.A1(h:BR w b v0 v1 v2 v3 v4 v5 v6 v7 v8)(t:Below w.heap.size w w'):BR w' b v0 v1 v2 v3 v4 v5 v6 v7 v8:=⟨h.1.A1 t,h.2.1.A1 t,h.2.2.1.A1 t,h.2.2.2.1.A1 t,h.2.2.2.2.1.A1 t,h.2.2.2.2.2.1.A1 t,h.2.2.2.2.2.2.1.A1 t,h.2.2.2.2.2.2.2.1.A1 t,h.2.2.2.2.2.2.2.2.A1 t⟩
theorem BR.AD{S:Nat->Prop}(h:BR w b v0 v1 v2 v3 v4 v5 v6 v7 v8)(t:AC S w w')(hs:¬S b):BR w' b v0 v1 v2 v3 v4 v5 v6 v7 v8:=⟨h.1.AD t hs,h.2.1.AD t hs,h.2.2.1.AD t hs,h.2.2.2.1.AD t hs,h.2.2.2.2.1.AD t hs,h.2.2.2.2.2.1.AD t hs,h.2.2.2.2.2.2.1.AD t hs,h.2.2.2.2.2.2.2.1.AD t hs,h.2.2.2.2.2.2.2.2.AD t hs⟩
theorem BR.new(w:World)(b v1 c d e f g h i:Value)(t:TypeId):BR (w.alloc (.cells #[b,v1,c,d,e,f,g,h,i] t)) w.heap.size b v1 c d e f g h i:=by
 have a:(w.alloc (.cells #[b,v1,c,d,e,f,g,h,i] t)).heap[w.heap.size]?=some (.cells #[b,v1,c,d,e,f,g,h,i] t):=heap_alloc_new _ _;exact⟨At a rfl,At a rfl,At a rfl,At a rfl,At a rfl,At a rfl,At a rfl,At a rfl,At a rfl⟩
abbrev put9(w:World)(b:Nat)(u0 u1 u2 u3 u4 u5 u6 u7 u8:Value):World:=((((((((w.setCell ⟨b,0,none⟩ u0).setCell ⟨b,1,none⟩ u1).setCell ⟨b,2,none⟩ u2).setCell ⟨b,3,none⟩ u3).setCell ⟨b,4,none⟩ u4).setCell ⟨b,5,none⟩ u5).setCell ⟨b,6,none⟩ u6).setCell ⟨b,7,none⟩ u7).setCell ⟨b,8,none⟩ u8
theorem BR.put(h:BR w b v0 v1 v2 v3 v4 v5 v6 v7 v8)(a d u2 u3 u4 f g j u8:Value):BR (put9 w b a d u2 u3 u4 f g j u8) b a d u2 u3 u4 f g j u8:=
 have H (i:Nat) (u v:Value) (e:[a,d,u2,u3,u4,f,g,j,u8][i]?=some u) (c:AF w b i v):AF (put9 w b a d u2 u3 u4 f g j u8) b i u:=LU [a,d,u2,u3,u4,f,g,j,u8] w 0 i i e (Nat.zero_add i) c
 ⟨H 0 _ _ rfl h.1,H 1 _ _ rfl h.2.1,H 2 _ _ rfl h.2.2.1,H 3 _ _ rfl h.2.2.2.1,H 4 _ _ rfl h.2.2.2.2.1,H 5 _ _ rfl h.2.2.2.2.2.1,H 6 _ _ rfl h.2.2.2.2.2.2.1,H 7 _ _ rfl h.2.2.2.2.2.2.2.1,H 8 _ _ rfl h.2.2.2.2.2.2.2.2⟩
theorem AC.put9(w:World)(b:Nat)(a c u2 u3 u4 d e f u8:Value):AC (fun k=>k=b) w (put9 w b a c u2 u3 u4 d e f u8):=((((((((AC.put w b 0 a).trans (AC.put _ b 1 c)).trans (AC.put _ b 2 u2)).trans (AC.put _ b 3 u3)).trans (AC.put _ b 4 u4)).trans (AC.put _ b 5 d)).trans (AC.put _ b 6 e)).trans (AC.put _ b 7 f)).trans (AC.put _ b 8 u8)
open Go.Extern.Stop Go.Stop Go.Extern
theorem AU{P:Prop}(h:P):Hid P:=h
abbrev Aq(a:Addr):Value:=.iface 229 (.pointer (some a))
def Ee:Nat->Nat
 | 0=>3
 | 1=>2
 | 2=>0
 | 3=>4
 | 4=>5
 | 5=>1
 | _=>6
def Dq:Nat->Int
 | 0=>1
 | 1=>2
 | 2=>4
 | 3=>5
 | 4=>6
 | 5=>7
 | _=>8
structure Do (w:World) (p:Nat->Addr):Prop where
 cell:∀i,i<7->w.cell? ⟨Ee i,0,none⟩=some (Aq (p i))
 row:∀i,i<7->∃cs t,w.heap[(p i).block]?=some (.cells cs t (0,0))
 ne:∀i j,i<7->j<7->i≠j->p i≠p j
variable{p:Nat->Addr}
theorem Do.A1(h:Do w p)(t:Below w.heap.size w w'):Do w' p:=
 ⟨fun i hi=>(t.cell (AM (h.cell i hi))).trans (h.cell i hi),fun i hi=>by
  obtain⟨cs,ty,a⟩:=h.row i hi;exact⟨cs,ty,(t.block _ (Array.getElem?_eq_some_iff.1 a).1).trans a⟩,h.ne⟩
theorem Uk(v:Value)(w:World):(Extern.ReflectliteType.typeOf #[.iface 229 v]).run Tryz.prog w = .ok (.iface 217 (.agg #[.pointer (some ⟨7,229,none⟩)])) w:=by kernel_rfl
def Rz:Array Value->Sem Value:=Extern.ReflectliteType.method fun t=>do Extern.Rtype.noPackHeld "Comparable" t;pure (.bool (<-typeInfo t).comparable)
theorem YL(w:World):(Rz #[.agg #[.pointer (some ⟨7,229,none⟩)]]).run Tryz.prog w = .ok (.bool true) w:=by kernel_rfl
theorem Yi(v:Value)(w:World):(Go.method 367 217 v "Comparable").run Tryz.prog w = .ok (209,v) w:=by kernel_rfl
theorem Z4:(Tryz.prog.info? 229).map (·.comparable)=some true:=by kernel_rfl
theorem Z5:(Tryz.prog.info? 255).map (·.size)=some 1:=by kernel_rfl
theorem zIa(v:Value)(a:TypeId)(w:World):(Instr.typeAssert (.iface 229 v) a 219 true).run Tryz.prog w = .ok (.tuple #[.nilIface,.bool false]) w:=run_typeAssert_lacksB Tryz.underlying219 (by kernel_rfl) (by kernel_rfl) v a w
theorem zDL(v:Value)(a:TypeId)(w:World):(Instr.typeAssert (.iface 229 v) a 222 true).run Tryz.prog w = .ok (.tuple #[.nilIface,.bool false]) w:=run_typeAssert_lacksB Tryz.underlying222 (by kernel_rfl) (by kernel_rfl) v a w
theorem zAJ(v:Value)(a:TypeId)(w:World):(Instr.typeAssert (.iface 229 v) a 224 true).run Tryz.prog w = .ok (.tuple #[.nilIface,.bool false]) w:=run_typeAssert_lacksB Tryz.underlying224 (by kernel_rfl) (by kernel_rfl) v a w
theorem zGe(a:Addr)(w:World):Calls Tryz.prog 114 #[Aq a,Aq a] w fun e w'=>e = .returned (.bool true)/\w'=w:=by
 obtain⟨i,hi,b⟩:=Option.map_eq_some_iff.1 Z4;obtain⟨j,f,g⟩:=Option.map_eq_some_iff.1 Z5;have k:=@run_callFunc_extern Tryz.prog 151 _ Extern.ReflectliteType.typeOf Tryz.func151 (by kernel_rfl) (by kernel_rfl) (by kernel_rfl) (by kernel_rfl);have c:=@run_callFunc_extern Tryz.prog 209 _ Rz Tryz.func209 (by kernel_rfl) (by kernel_rfl) (by kernel_rfl) (by kernel_rfl);have tT:=Uk;have h:=YL;have l:=Yi;have d:=run_eql_iface_ptr_same (P:=Tryz.prog) w a Tryz.underlying52 Tryz.underlying229 hi b f;go_enter Tryz.func114,Tryz.ntmps114;go_wp2;refine wp_loop_rounds 1 ?_;rw[rounds_succ];go_wp2;go_ret;exact⟨rfl,rfl⟩
theorem zEW(a b:Addr)(g h:Array Value)(p tb:TypeId)(w:World)(f:a≠b)(l:w.heap[a.block]?=some (.cells g p (0,0)))(m:w.heap[b.block]?=some (.cells h tb (0,0))):Calls Tryz.prog 114 #[Aq a,Aq b] w fun e w'=>e = .returned (.bool false)/\w'=w:=by
 obtain⟨i,hi,c⟩:=Option.map_eq_some_iff.1 Z4;obtain⟨j,o,d⟩:=Option.map_eq_some_iff.1 Z5;have r:=@run_callFunc_extern Tryz.prog 151 _ Extern.ReflectliteType.typeOf Tryz.func151 (by kernel_rfl) (by kernel_rfl) (by kernel_rfl) (by kernel_rfl);have k:=@run_callFunc_extern Tryz.prog 209 _ Rz Tryz.func209 (by kernel_rfl) (by kernel_rfl) (by kernel_rfl) (by kernel_rfl);have tT:=Uk;have q:=YL;have s:=Yi;have t:=zIa;have u:=zDL;have v:=zAJ;have n:=run_eql_iface_ptr_other (P:=Tryz.prog) w Tryz.underlying52 Tryz.underlying229 hi c o (by rw[d];decide) f l m;go_enter Tryz.func114,Tryz.ntmps114;go_wp2;refine wp_loop_rounds 1 ?_;rw[rounds_succ];go_wp2;go_ret;exact⟨rfl,rfl⟩
def MY(p:Nat->Addr):Array Value:=#[Aq (p 0),.int .i64 1,Aq (p 1),.int .i64 2,Aq (p 2),.int .i64 4,Aq (p 3),.int .i64 5,Aq (p 4),.int .i64 6,Aq (p 5),.int .i64 7,Aq (p 6),.int .i64 8]
variable{i:Nat}
theorem Si(p:Nat->Addr)(hi:i<7):(MY p)[i*2]?=some (Aq (p i))/\(MY p)[i*2+1]?=some (.int .i64 (Dq i)):=by
 match i,hi with
 | 0,_=>exact⟨rfl,rfl⟩
 | 1,_=>exact⟨rfl,rfl⟩
 | 2,_=>exact⟨rfl,rfl⟩
 | 3,_=>exact⟨rfl,rfl⟩
 | 4,_=>exact⟨rfl,rfl⟩
 | 5,_=>exact⟨rfl,rfl⟩
 | 6,_=>exact⟨rfl,rfl⟩
theorem zBv(p:Nat->Addr)(w:World)(h:Do w p):Calls Tryz.prog 113 #[] w fun e w'=>e = .returned (.slice (some ⟨w.heap.size,0,none⟩) 7 7)/\w'=w.alloc (.cells (MY p) 159):=by
 have a:w.cell? ⟨3,0,none⟩=some (Aq (p 0)):=h.cell 0 (by omega);have b:w.cell? ⟨2,0,none⟩=some (Aq (p 1)):=h.cell 1 (by omega);have c:w.cell? ⟨0,0,none⟩=some (Aq (p 2)):=h.cell 2 (by omega);have d:w.cell? ⟨4,0,none⟩=some (Aq (p 3)):=h.cell 3 (by omega);have f:w.cell? ⟨5,0,none⟩=some (Aq (p 4)):=h.cell 4 (by omega);have g:w.cell? ⟨1,0,none⟩=some (Aq (p 5)):=h.cell 5 (by omega);have i:w.cell? ⟨6,0,none⟩=some (Aq (p 6)):=h.cell 6 (by omega);clear h;go_enter Tryz.func113,Tryz.ntmps113;go_wp2;go_ret;exact⟨rfl,rfl⟩
structure BQ where
 world:A4
 id:Int
 many:Int
 code:Int
abbrev zIt(v0 v1 v2 v3:Value)(o:BQ):Value:=.agg #[v0,v1,.int .i64 o.world.time,.int .i64 o.world.next,v2,v3,.int .i64 o.id,.int .i64 o.many,.int .i64 o.code]
def KL(o:BQ)(w:World)(e:Ending)(w':World):Prop:=∃v0 v1 v2 v3,e = .returned (zIt v0 v1 v2 v3 o)/\EX w' w.heap.size w'.heap.size v0 v1 v2 v3 o.world/\Below w.heap.size w w'
theorem BR.six(h:BR w b v0 v1 v2 v3 v4 v5 v6 v7 v8)(d f u2 u3 u4 g:Value):BR (put6 w b d f u2 u3 u4 g) b d f u2 u3 u4 g v6 v7 v8:=
 have H (i j:Nat) (u v:Value) (e:[d,f,u2,u3,u4,g][i]?=some u) (a:0+i=j) (c:AF w b j v):AF (MU w b 0 [d,f,u2,u3,u4,g]) b j u:=LU [d,f,u2,u3,u4,g] w 0 i j e a c;have K (j:Nat) (v:Value) (a:j<0\/6<=j) (c:AF w b j v):AF (MU w b 0 [d,f,u2,u3,u4,g]) b j v:=QR [d,f,u2,u3,u4,g] w 0 c a
 ⟨H 0 0 _ _ rfl rfl h.1,H 1 1 _ _ rfl rfl h.2.1,H 2 2 _ _ rfl rfl h.2.2.1,H 3 3 _ _ rfl rfl h.2.2.2.1,H 4 4 _ _ rfl rfl h.2.2.2.2.1,H 5 5 _ _ rfl rfl h.2.2.2.2.2.1,K 6 _ (by omega) h.2.2.2.2.2.2.1,K 7 _ (by omega) h.2.2.2.2.2.2.2.1,K 8 _ (by omega) h.2.2.2.2.2.2.2.2⟩
variable{v:Value}
theorem AF.under{B o:Nat}(h:AF w b o v)(t:Below B w w')(a:b<B):AF w' b o v:=⟨(t.cell (p:=⟨b,o,none⟩) a).trans h.1,(t.frozen (p:=⟨b,o,none⟩) a).trans h.2⟩
def BL(c:Int):BQ:=⟨noW,0,0,c⟩
def Gi(r:Option Nat)(o:BQ):BQ:=match r with
 | some i=>BL (Dq i)
 | none=>o
def B3(n:Nat)(f g:Nat->Int):List (Int×Int):=(List.range n).map fun i=>(f i,g i)
theorem Eo(n:Nat)(f g:Nat->Int):(B3 n f g).length=n:=by
 unfold B3;rw[List.length_map,List.length_range]
variable{n:Nat}
theorem Lu(f g:Nat->Int)(hi:i<n):AI (B3 n f g) i=f i/\AK (B3 n f g) i=g i:=by
 unfold AI AK B3;rw[List.getD_eq_getElem?_getD,List.getElem?_map,List.getElem?_range hi];exact⟨rfl,rfl⟩
theorem U6(f g:Nat->Int)(t:Int):∀n,(BS f g t n).length<=n
 | 0=>Nat.le_refl _
 | n+1=>by
  have:=U6 f g t n;unfold BS;split
  ·omega
  ·rw[List.length_append,List.length_singleton];omega
theorem UL(p:A7)(xs xb:Int)(n:Nat)(b:Int)(o:Es):As (E4 p xs xb n b o).pool<=As o.pool+16/\(E4 p xs xb n b o).old.length<=3:=by
 have c:=VT p xs xb n b o 2;have a:(J5 p xs xb n 3).length<=3:=Iw _ _ 3;unfold E4;split
 ·exact⟨Nat.zero_le _,Nat.zero_le _⟩
 ·split
  ·exact⟨Nat.zero_le _,Nat.zero_le _⟩
  ·exact⟨by show As (Bl p xs xb n b o 2).pool<=_;omega,a⟩
theorem RM(p:A7)(xs xb a:Int)(d:ByteArray)(b:Int):As (EA p xs xb a d b).pool<=As p+40/\(EA p xs xb a d b).old.length<=3:=by
 unfold EA;split
 ·exact⟨Nat.zero_le _,Nat.zero_le _⟩
 ·split
  ·split
   ·rename_i f
    split
    ·have c:=UL p xs xb a.toNat b ⟨(Cj p (Bi b d)).pool,(Cj p (Bi b d)).ps,(Cj p (Bi b d)).pb,0⟩;have g:=Vz p (Bi b d);have h:Ci (Bi b d)=16:=(by show 0+d.size=16;rw[f.2]);exact⟨by have e:=c.1;simp only at e;omega,c.2⟩
    ·exact⟨Nat.zero_le _,Nat.zero_le _⟩
   ·exact⟨Nat.zero_le _,Nat.zero_le _⟩
  ·exact⟨Nat.zero_le _,Nat.zero_le _⟩
theorem RC(p:A7)(xs xb a b:Int):As (FU p xs xb a b).pool<=As p+40/\(FU p xs xb a b).old.length<=3:=by
 unfold FU;split
 ·split
  ·split
   ·exact⟨Nat.zero_le _,Nat.zero_le _⟩
   ·have c:=UL p xs xb a.toNat b ⟨p,0,0,0⟩;exact⟨by have d:=c.1;simp only at d;omega,c.2⟩
  ·exact⟨Nat.zero_le _,Nat.zero_le _⟩
 ·exact⟨Nat.zero_le _,Nat.zero_le _⟩
def P6(W:A4)(k:Nat)(y:Dt):List (Int×Int):=BE (AI y.old) (AK y.old) (AB W (W.A2 k).A5).time y.old.length
def qm(W:A4)(k:Nat)(y:Dt):List (Int×Int):=BS (AI y.old) (AK y.old) (AB W (W.A2 k).A5).time y.old.length
def MQ(W:A4)(k:Nat)(y:Dt):List (Int×Int):=B3 (W.A2 k).dn (W.A2 k).ds (W.A2 k).db ++ qm W k y
def LK(W:A4)(k:Nat)(y:Dt):Ac:={W.A2 k with rs:=y.rs,rb:=y.rb,dn:=(MQ W k y).length,ds:=AI (MQ W k y),db:=AK (MQ W k y)}
def qn(W:A4)(k:Nat)(y:Dt):A4:={W with pool:=Ak y.pool (P6 W k y),A2:=fun j=>if j=k then LK W k y else W.A2 j}
open Classical in
def GS(W:A4)(k:Nat)(y:Dt):BQ:=if y.code=0 then⟨qn W k y,0,((P6 W k y).length:Int),0⟩else BL y.code
open Go.Maps
def Bd(f:Nat->Int)(x:Int):Nat->Nat
 | 0=>0
 | k+1=>Bd f x k+(if f k=x then 1 else 0)
variable{f:Nat->Int}
theorem Ny{x:Int}{k:Nat}(h:f k=x):Bd f x (k+1)=Bd f x k+1:=by simp[Bd,h]
theorem NZ{x:Int}{k:Nat}(h:¬f k=x):Bd f x (k+1)=Bd f x k:=by simp[Bd,h]
theorem TB(f:Nat->Int)(x:Int):∀k,Bd f x k<=k
 | 0=>Nat.le_refl _
 | k+1=>by
  have:=TB f x k;by_cases h:f k=x
  ·rw[Ny h];omega
  ·rw[NZ h];omega
theorem RG{f g:Nat->Int}{x:Int}:∀{k:Nat},(∀i,i<k->f i=g i)->Bd f x k=Bd g x k
 | 0,_=>rfl
 | k+1,h=>by
  show Bd f x k+_=Bd g x k+_;rw[RG (fun i hi=>h i (by omega)),h k (by omega)]
theorem UX(f:Nat->Int)(x:Int)(n:Nat):∀m,Bd f x (n+m)=Bd f x n+Bd (fun i=>f (n+i)) x m
 | 0=>rfl
 | m+1=>by
  show Bd f x (n+m)+(if f (n+m)=x then 1 else 0)=Bd f x n+(Bd (fun i=>f (n+i)) x m+(if f (n+m)=x then 1 else 0));rw[UX f x n m];omega
def D4(W:A4)(x:Int):Nat:=Bd (fun i=>(W.A2 i).A5) x W.sn+Bd (fun i=>(W.A0 i).A5) x W.pn
theorem zDK(W:A4)(x:Int):Bd (fun i=>(A6 W i).A5) x (memN W)=D4 W x:=by
 unfold memN D4;rw[UX,RG (g:=fun i=>(W.A0 i).A5) (fun i hi=>by show(A6 W i).A5=_;rw[B9 hi];rfl),RG (f:=fun i=>(A6 W (W.pn+i)).A5) (g:=fun i=>(W.A2 i).A5) (fun i hi=>by show(A6 W (W.pn+i)).A5=_;rw[By];rfl)];omega
def Eu(w:World)(base:Nat)(v:Value)(n:Nat):Prop:=∃xs,w.ownsRow base 143 5 v n xs
variable{w1:World}{base:Nat}
theorem Eu.A1(h:Eu w base v n)(a:Below w.heap.size w w1):Eu w1 base v n:=by
 obtain⟨xs,h⟩:=h;exact⟨xs,h.kept (Dg a none) (by cases v.ownBlock<;>simp)⟩
theorem Eu.lt(h:Eu w base v n){q:Nat}(a:v.ownBlock=some q):base<=q/\q<w.heap.size:=by
 obtain⟨xs,h⟩:=h;rcases h.2 with⟨rfl,_⟩ | ⟨g,cap,b,rfl,c,d,_⟩
 ·simp[Value.ownBlock]at a
 ·simp only[Value.ownBlock,Option.some.injEq]at a;subst a;exact⟨c,(Array.getElem?_eq_some_iff.1 d).1⟩
theorem Eu.AD{row:Option Nat}(h:Eu w base v n)(b:w.grownBy w1 row)(a:∀q,v.ownBlock=some q->row≠some q):Eu w1 base v n:=by
 obtain⟨xs,h⟩:=h;refine⟨xs,h.kept b ?_⟩;cases hv:v.ownBlock with
 | none=>simp
 | some q=>exact Or.inr (fun e=>a q hv e.symm)
def zJC(w w':World)(v v':Value)(n n':Nat):Prop:=Eu w' w.heap.size v n/\Eu w' w.heap.size v' n'/\(∀q,v.ownBlock=some q->v'.ownBlock≠some q)/\Below w.heap.size w w'
theorem Uv{w2:World}{g cap n':Nat}{v':Value}{xs:List Value}(d:Eu w1 base v' n')(f:∀q,v.ownBlock=some q->v'.ownBlock≠some q)
 (a:w2.ownsRow base 143 5 (.slice (some ⟨g,0,none⟩) (n+1) cap) (n+1) xs) (i:w1.grownBy w2 v.ownBlock) (c:v.ownBlock=some g\/g=w1.heap.size) :
 Eu w2 base (.slice (some ⟨g,0,none⟩) (n+1) cap) (n+1)/\Eu w2 base v' n'/\(∀q,(Value.slice (some ⟨g,0,none⟩) (n+1) cap).ownBlock=some q->v'.ownBlock≠some q):=by
 refine⟨⟨xs,a⟩,d.AD i (fun q b e=>f q e b),fun q b e=>?_⟩;simp only[Value.ownBlock,Option.some.injEq]at b;subst b;rcases c with h | h
 ·exact f _ h e
 ·have:=(d.lt e).2;omega
theorem zAL(a:Option Addr)(c:Nat)(m:DJ)(x:Int)(T:Nat)(w:World)(f:w.cell? ⟨T,0,none⟩=some (.int .i64 x)) :
 Calls Tryz.prog 102 #[.agg #[.int .i64 m.A5,.int .i64 m.time,.int .i64 m.rs,.int .i64 m.rb,.slice a m.dn c],.pointer (some ⟨T,0,none⟩)] w fun e w'=>AJ (m.A5=x) e/\Below w.heap.size w w':=by
 have d:=A9 w (.cells #[.int .i64 m.A5,.int .i64 m.time,.int .i64 m.rs,.int .i64 m.rb,.slice a m.dn c] 143);have g:=(d.cell (p:=⟨T,0,none⟩) (AM f)).trans f;obtain⟨⟨y0,-⟩,-⟩:=Ez.new w (.int .i64 m.A5) (.int .i64 m.time) (.int .i64 m.rs) (.int .i64 m.rb) (.slice a m.dn c) 143;clear f;have b:=A3 (show(m.A5 == x)=true↔m.A5=x by simp);go_enter Tryz.func102,Tryz.ntmps102;go_wp2;go_ret;exact⟨⟨_,rfl,b.out⟩,d⟩
theorem zBr(v:Value)(lo hi:Nat)(W:A4)(vd:Nat->Value)(x:Int)(T:Nat)(w:World)(h:Ia w lo hi v W vd)(hs:W.sn<=8)(hp:W.pn<=20)(hT:w.cell? ⟨T,0,none⟩=some (.int .i64 x)) :
 Calls Tryz.prog 100 #[v,.func (.func 102) #[] #[.pointer (some ⟨T,0,none⟩)]] w fun e w'=>∃a c vo,e = .returned (.tuple #[.slice a (Bd (fun i=>(A6 W i).A5) x (memN W)) c,vo])/\Below w.heap.size w w':=by
 have Hp:=A3 h;have HT:=A3 hT;have hM:memN W<=28:=by unfold memN;omega
 obtain⟨a,c,rfl,mc⟩:=h.Bv;clear h hT;obtain⟨i0,M,E⟩:=Option.map_eq_some_iff.1 TN;simp only[Prod.mk.injEq]at E;have u:=A3 (And.intro M E);clear M E;have tA:∀(fn:Fn) (first cap:Array Value) (w:World),(Instr.makeFunc fn first cap).run Tryz.prog w = .ok (.func fn first cap) w:=fun _ _ _ _=>rfl
 go_enter Tryz.func100,Tryz.ntmps100;go_wp2
 go_loopw [6,7,12] (fun vy vo i wr=>∃k:Nat,k<=memN W/\i = .int .i64 k/\zJC w wr vy vo (Bd (fun i=>(A6 W i).A5) x k) (k - Bd (fun i=>(A6 W i).A5) x k)) (fun _ _ i _=>memN W - (intOf i).toNat)
 case atStart=>exact⟨0,Nat.zero_le _,rfl,⟨[],World.ownsRow_nil _ _ _ _⟩,⟨[],World.ownsRow_nil _ _ _ _⟩,fun q l=>by simp[Value.ownBlock]at l,Below.refl _ _⟩
 case round=>
  obtain⟨k,hk,rfl,hy,ho,L,Y⟩:=hrel;have U:=A3 hy;have Ho:=A3 ho;have G:=A3 L;have iA:=TB (fun i=>(A6 W i).A5) x k;clear hy ho L;by_cases N:k<memN W
  ·have jA:(k:Int)<(memN W:Int):=(by omega);obtain⟨g,c',hv,q0,q1,q2,q3,q4⟩:=(Hp.out.A1 Y).cells k N;simp only[Value.slice.injEq,true_and]at hv;obtain⟨rfl,rfl⟩:=hv;obtain⟨-,B,C,I,-,-⟩:=Hp.out.dead k N;rw[I]at q4;clear I;have t:=A9 wr (.cells #[.int .i64 (A6 W k).A5,.int .i64 (A6 W k).time,.int .i64 (A6 W k).rs,.int .i64 (A6 W k).rb,.slice B (A6 W k).dn C] 143);have Q:=A3 (Ez.new wr (.int .i64 (A6 W k).A5) (.int .i64 (A6 W k).time) (.int .i64 (A6 W k).rs) (.int .i64 (A6 W k).rb) (.slice B (A6 W k).dn C) 143);have D:=A8 Y t;have F:=A3 ((D.cell (p:=⟨T,0,none⟩) (AM HT.out)).trans HT.out);obtain⟨⟨y0,-⟩,⟨y1,-⟩,⟨y2,-⟩,⟨y3,-⟩,⟨y4,-⟩⟩:=Q.out;go_wp2_with fail;clear q0 q1 q2 q3 q4 y0 y1 y2 y3 y4;refine(zAL B C (A6 W k) x T _ F.out).mono ?_;rintro e P ⟨⟨s,rfl,hs⟩,n⟩;have V:=A3 ((U.out.A1 t).A1 n);have S:=A3 ((Ho.out.A1 t).A1 n);have R:=A3 (Q.out.A1 n);have K:=A8 D n;clear n D t U Ho Q F;have vA:=K.size;obtain⟨⟨y0,-⟩,⟨y1,-⟩,⟨y2,-⟩,⟨y3,-⟩,⟨y4,-⟩⟩:=R.out;have o:=A9 P (.cells #[.int .i64 (A6 W k).A5,.int .i64 (A6 W k).time,.int .i64 (A6 W k).rs,.int .i64 (A6 W k).rb,.slice B (A6 W k).dn C] 143);have A:=A3 (V.out.A1 o);have y:=A3 (S.out.A1 o);have r:=A8 K o;have aB:=o.size;have HN:=A3 (World.news_of_block (heap_alloc_last P (.cells #[.int .i64 (A6 W k).A5,.int .i64 (A6 W k).time,.int .i64 (A6 W k).rs,.int .i64 (A6 W k).rb,.slice B (A6 W k).dn C] 143)));clear o;by_cases l:(A6 W k).A5=x
   ·obtain rfl:s=true:=hs.2 l;have J:=A3 (Ny (f:=fun i=>(A6 W i).A5) l);clear hs l;obtain⟨xs,d⟩:=A.out;have z:=A3 d;clear d;go_wp2_with (first
     | (at_builtin;refine wpList_append_lies _ rfl _ _ 139 rfl w.heap.size 143 i0 (.agg #[.int .i64 0,.int .i64 0,.int .i64 0,.int .i64 0,.slice none 0 0]) 5 56 (by kernel_rfl) u.out.1 u.out.2.1 u.out.2.2.1 u.out.2.2.2 rfl (by decide) _ _ _ rfl z.out ⟨P.heap.size,0,none⟩ 1 1 [.int .i64 (A6 W k).A5,.int .i64 (A6 W k).time,.int .i64 (A6 W k).rs,.int .i64 (A6 W k).rb,.slice B (A6 W k).dn C] rfl rfl HN.out (by simp[Value.oneCell']) (by decide) (by unfold maxLen;omega) (by omega) (by omega) _ rfl ?_;intro g' H w4 j b m O)
     | go_in)
    go_roundw
    case rel=>
     obtain⟨r1,Z,r3⟩:=Uv y.out G.out j b m;refine⟨k+1,by omega,by go_num,by rw[J.out];exact r1,?_,r3,r.grown b r.size (fun q l=>(A.out.lt l).1)⟩;rw[J.out,show k+1 - (Bd (fun i=>(A6 W i).A5) x k+1)=k - Bd (fun i=>(A6 W i).A5) x k by omega];exact Z
    case measure=>simp[intOf];omega
   ·obtain rfl:s=false:=Bb hs l;have J:=A3 (NZ (f:=fun i=>(A6 W i).A5) l);clear hs l;obtain⟨xs,d⟩:=y.out;have z:=A3 d;clear d;go_wp2_with (first
     | (at_builtin;refine wpList_append_lies _ rfl _ _ 139 rfl w.heap.size 143 i0 (.agg #[.int .i64 0,.int .i64 0,.int .i64 0,.int .i64 0,.slice none 0 0]) 5 56 (by kernel_rfl) u.out.1 u.out.2.1 u.out.2.2.1 u.out.2.2.2 rfl (by decide) _ _ _ rfl z.out ⟨P.heap.size,0,none⟩ 1 1 [.int .i64 (A6 W k).A5,.int .i64 (A6 W k).time,.int .i64 (A6 W k).rs,.int .i64 (A6 W k).rb,.slice B (A6 W k).dn C] rfl rfl HN.out (by simp[Value.oneCell']) (by decide) (by unfold maxLen;omega) (by omega) (by omega) _ rfl ?_;intro g' H w4 j b m O)
     | go_in)
    go_roundw
    case rel=>
     obtain⟨r1,Z,r3⟩:=Uv A.out (fun q h X=>G.out q X h) j b m;refine⟨k+1,by omega,by go_num,by rw[J.out];exact Z,?_,fun q h X=>r3 q X h,r.grown b r.size (fun q l=>(y.out.lt l).1)⟩;rw[J.out,show k+1 - Bd (fun i=>(A6 W i).A5) x k=k - Bd (fun i=>(A6 W i).A5) x k+1 by omega];exact r1
    case measure=>simp[intOf];omega
  ·obtain rfl:k=memN W:=(by omega);obtain⟨xs,d⟩:=U.out;obtain⟨ay,cy,rfl,-⟩:=C6 d;clear d;go_wp2
   go_ret2
   exact⟨ay,cy,_,rfl,Y⟩
def EV(w:World)(v:Value)(n:Nat)(f:Nat->ByteArray):Prop:=
 n<=1000/\∃a c,v = .slice a n c/\(∀i,i<n->(f i).size<=maxLen)/\(0<n->∃b off,a=some ⟨b,off,none⟩/\∀i,i<n->w.cell? ⟨b,off+i,none⟩=some (.string (f i)))
variable{f:Nat->ByteArray}
theorem EV.A1(h:EV w v n f)(t:Below w.heap.size w w'):EV w' v n f:=by
 obtain⟨m,a,c,hv,hs,j⟩:=h;refine⟨m,a,c,hv,hs,fun e=>?_⟩;obtain⟨b,off,g,d⟩:=j e;exact⟨b,off,g,fun i hi=>(t.cell (AM (d i hi))).trans (d i hi)⟩
variable{a:Option Addr}
theorem EV.cells{c:Nat}(h:EV w (.slice a n c) n f)(hi:i<n):∃b off,a=some ⟨b,off,none⟩/\w.cell? ⟨b,off+i,none⟩=some (.string (f i)):=by
 obtain⟨m,j,c0,hv,hs,g⟩:=h;simp only[Value.slice.injEq,true_and]at hv;obtain⟨rfl,rfl⟩:=hv;obtain⟨b,off,d,e⟩:=g (by omega);exact⟨b,off,d,e i hi⟩
theorem zI(s:ByteArray)(w:World)(hs:s.size<=maxLen):Calls Tryz.prog 107 #[.string s] w fun e w'=>AJ (8000<s.size) e/\Below w.heap.size w w':=by
 unfold maxLen at hs;by_cases h:8000<s.size
 ·have a:(8000:Int)<(s.size:Int):=(by omega);have H:=AU h;clear h;go_enter Tryz.func107,Tryz.ntmps107;go_wp2;go_ret;exact⟨AJ.yes H.out,Below.refl _ _⟩
 ·have a:¬(8000:Int)<(s.size:Int):=(by omega);have H:=AU h;clear h;go_enter Tryz.func107,Tryz.ntmps107;go_wp2;go_ret;exact⟨AJ.no H.out,Below.refl _ _⟩
theorem zE4(s:ByteArray)(w:World)(hs:s.size<=maxLen):Calls Tryz.prog 108 #[.string s] w fun e w'=>AJ (¬Bp s) e/\Below w.heap.size w w':=by
 go_enter Tryz.func108,Tryz.ntmps108;go_wp2_with fail;refine(RS s w hs).mono ?_;rintro e d ⟨⟨t,rfl,b⟩,rfl⟩;by_cases a:Bp s
 ·obtain rfl:t=true:=b.2 a;have c:=AU a;clear b a;go_wp2;go_ret;exact⟨AJ.no (fun h=>h c.out),Below.refl _ _⟩
 ·obtain rfl:t=false:=Bb b a;have c:=AU a;clear b a;go_wp2;go_ret;exact⟨AJ.yes c.out,Below.refl _ _⟩
theorem zBc(v:Value)(n:Nat)(f:Nat->ByteArray)(w:World)(h:EV w v n f) :
 Calls Tryz.prog 147 #[v,.func (.func 107) #[] #[]] w fun e w'=>((∃i:Nat,i<n/\8000<(f i).size/\e = .returned (.int .i64 (i:Int)))\/((∀j,j<n->¬8000<(f j).size)/\e = .returned (.int .i64 (-1))))/\Below w.heap.size w w':=by
 have z:=AU h;obtain⟨D,a,c,rfl,hs,-⟩:=h;have A:=AU hs;clear hs;go_enter Tryz.func147,Tryz.ntmps147;go_wp2
 go_loopw [8] (fun i wr=>∃k:Nat,k<=n/\i = .int .i64 k/\(∀j,j<k->¬8000<(f j).size)/\Below w.heap.size w wr) (fun i _=>n - (intOf i).toNat)
 case atStart=>exact⟨0,Nat.zero_le _,rfl,fun j x=>absurd x (Nat.not_lt_zero _),Below.refl _ _⟩
 case round=>
  obtain⟨k,C,rfl,g,s⟩:=hrel;have d:=AU g;clear g;by_cases l:k<n
  ·have y:(k:Int)<(n:Int):=(by omega);obtain⟨b,off,rfl,B⟩:=(z.out.A1 s).cells l;have u:=A.out k l;go_wp2_with fail;refine(zI (f k) _ u).mono ?_;rintro e E ⟨⟨t,rfl,q⟩,o⟩;have p:=A8 s o;clear o B;by_cases m:8000<(f k).size
   ·obtain rfl:t=true:=q.2 m;have r:=AU m;clear q m;go_wp2;go_ret;exact⟨Or.inl ⟨k,l,r.out,rfl⟩,p⟩
   ·obtain rfl:t=false:=Bb q m;have r:=AU m;clear q m;go_wp2;go_roundw
    case rel=>
     refine⟨k+1,by omega,by go_num,fun j x=>?_,p⟩;by_cases e:j=k
     ·subst e;exact r.out
     ·exact d.out j (by omega)
    case measure=>simp[intOf];omega
  ·obtain rfl:k=n:=(by omega);go_wp2;go_ret;exact⟨Or.inr ⟨d.out,rfl⟩,s⟩
theorem yo(v:Value)(n:Nat)(f:Nat->ByteArray)(w:World)(h:EV w v n f) :
 Calls Tryz.prog 106 #[v,.func (.func 107) #[] #[]] w fun e w'=>AJ (∃i,i<n/\8000<(f i).size) e/\Below w.heap.size w w':=by
 have k:=AU h;obtain⟨o,a,c,rfl,hs,-⟩:=h;go_enter Tryz.func106,Tryz.ntmps106;go_wp2_with fail;refine(zBc _ n f w k.out).mono ?_;rintro e p ⟨l,b⟩;rcases l with⟨i,hi,j,rfl⟩ | ⟨d,rfl⟩
 ·have g:=AU (show ∃i,i<n/\8000<(f i).size from⟨i,hi,j⟩);have m:(0:Int)<=(i:Int):=(by omega);clear j;go_wp2;go_ret;exact⟨AJ.yes g.out,b⟩
 ·have g:=AU d;clear d;go_wp2;go_ret;exact⟨AJ.no fun ⟨i,hi,hq⟩=>g.out i hi hq,b⟩
theorem zBd(v:Value)(n:Nat)(f:Nat->ByteArray)(w:World)(h:EV w v n f) :
 Calls Tryz.prog 147 #[v,.func (.func 108) #[] #[]] w fun e w'=>((∃i:Nat,i<n/\¬Bp (f i)/\e = .returned (.int .i64 (i:Int)))\/((∀j,j<n->¬¬Bp (f j))/\e = .returned (.int .i64 (-1))))/\Below w.heap.size w w':=by
 have z:=AU h;obtain⟨D,a,c,rfl,hs,-⟩:=h;have A:=AU hs;clear hs;go_enter Tryz.func147,Tryz.ntmps147;go_wp2
 go_loopw [8] (fun i wr=>∃k:Nat,k<=n/\i = .int .i64 k/\(∀j,j<k->¬¬Bp (f j))/\Below w.heap.size w wr) (fun i _=>n - (intOf i).toNat)
 case atStart=>exact⟨0,Nat.zero_le _,rfl,fun j x=>absurd x (Nat.not_lt_zero _),Below.refl _ _⟩
 case round=>
  obtain⟨k,C,rfl,g,s⟩:=hrel;have d:=AU g;clear g;by_cases l:k<n
  ·have y:(k:Int)<(n:Int):=(by omega);obtain⟨b,off,rfl,B⟩:=(z.out.A1 s).cells l;have u:=A.out k l;go_wp2_with fail;refine(zE4 (f k) _ u).mono ?_;rintro e E ⟨⟨t,rfl,q⟩,o⟩;have p:=A8 s o;clear o B;by_cases m:¬Bp (f k)
   ·obtain rfl:t=true:=q.2 m;have r:=AU m;clear q m;go_wp2;go_ret;exact⟨Or.inl ⟨k,l,r.out,rfl⟩,p⟩
   ·obtain rfl:t=false:=Bb q m;have r:=AU m;clear q m;go_wp2;go_roundw
    case rel=>
     refine⟨k+1,by omega,by go_num,fun j x=>?_,p⟩;by_cases e:j=k
     ·subst e;exact r.out
     ·exact d.out j (by omega)
    case measure=>simp[intOf];omega
  ·obtain rfl:k=n:=(by omega);go_wp2;go_ret;exact⟨Or.inr ⟨d.out,rfl⟩,s⟩
theorem yp(v:Value)(n:Nat)(f:Nat->ByteArray)(w:World)(h:EV w v n f) :
 Calls Tryz.prog 106 #[v,.func (.func 108) #[] #[]] w fun e w'=>AJ (∃i,i<n/\¬Bp (f i)) e/\Below w.heap.size w w':=by
 have k:=AU h;obtain⟨o,a,c,rfl,hs,-⟩:=h;go_enter Tryz.func106,Tryz.ntmps106;go_wp2_with fail;refine(zBd _ n f w k.out).mono ?_;rintro e p ⟨l,b⟩;rcases l with⟨i,hi,j,rfl⟩ | ⟨d,rfl⟩
 ·have g:=AU (show ∃i,i<n/\¬Bp (f i)from⟨i,hi,j⟩);have m:(0:Int)<=(i:Int):=(by omega);clear j;go_wp2;go_ret;exact⟨AJ.yes g.out,b⟩
 ·have g:=AU d;clear d;go_wp2;go_ret;exact⟨AJ.no fun ⟨i,hi,hq⟩=>g.out i hi hq,b⟩
def J7(w:World)(b:Nat)(v0 v1 v2 v3:Value):Prop:=AF w b 0 v0/\AF w b 1 v1/\AF w b 2 v2/\AF w b 3 v3
theorem J7.A1(h:J7 w b v0 v1 v2 v3)(t:Below w.heap.size w w'):J7 w' b v0 v1 v2 v3:=⟨h.1.A1 t,h.2.1.A1 t,h.2.2.1.A1 t,h.2.2.2.A1 t⟩
theorem J7.new(w:World)(b v1 c d:Value)(t:TypeId):J7 (w.alloc (.cells #[b,v1,c,d] t)) w.heap.size b v1 c d:=by
 have a:(w.alloc (.cells #[b,v1,c,d] t)).heap[w.heap.size]?=some (.cells #[b,v1,c,d] t):=heap_alloc_new _ _;exact⟨At a rfl,At a rfl,At a rfl,At a rfl⟩
def Il(w:World)(p:Nat->Addr)(v:Value)(m:Nat)(g:Nat->Nat)(lb:Nat->Array Value)(ei:Nat->Nat):Prop:=
 m<=1000/\∃a c,v = .slice a m c/\(0<m->∃b off,a=some ⟨b,off,none⟩/\∀i,i<m->w.cell? ⟨b,off+i*2,none⟩=some (.func (.func (g i)) #[] (lb i))/\w.cell? ⟨b,off+i*2+1,none⟩=some (Aq (p (ei i))))
variable{g ei:Nat->Nat}{lb:Nat->Array Value}
theorem Il.A1{m:Nat}(h:Il w p v m g lb ei)(t:Below w.heap.size w w'):Il w' p v m g lb ei:=by
 obtain⟨k,a,c,hv,j⟩:=h;refine⟨k,a,c,hv,fun e=>?_⟩;obtain⟨b,off,f,d⟩:=j e;exact⟨b,off,f,fun i hi=>⟨(t.cell (AM (d i hi).1)).trans (d i hi).1,(t.cell (AM (d i hi).2)).trans (d i hi).2⟩⟩
theorem Il.cells{c m:Nat}(h:Il w p (.slice a m c) m g lb ei)(hi:i<m):∃b off,a=some ⟨b,off,none⟩/\w.cell? ⟨b,off+i*2,none⟩=some (.func (.func (g i)) #[] (lb i))/\w.cell? ⟨b,off+i*2+1,none⟩=some (Aq (p (ei i))):=by
 obtain⟨k,j,c0,hv,f⟩:=h;simp only[Value.slice.injEq,true_and]at hv;obtain⟨rfl,rfl⟩:=hv;obtain⟨b,off,d,e⟩:=f (by omega);exact⟨b,off,d,e i hi⟩
def Gq(W:A4)(long bad:Prop)(m:Nat)(Q:Nat->Prop)(ei:Nat->Nat)(r:Option Nat):Prop:=
 (long/\r=some 1)\/(¬long/\(¬Cf W\/bad)/\r=some 0)\/(¬long/\Cf W/\¬bad/\∃i,i<m/\¬Q i/\(∀j,j<i->Q j)/\r=some (ei i))\/(¬long/\Cf W/\¬bad/\(∀j,j<m->Q j)/\r=none)
def SC(p:Nat->Addr):Option Nat->Value
 | none=>.nilIface
 | some i=>Aq (p i)
theorem zBH(p:Nat->Addr)(tv nv qv N:Value)(A z m:Nat)(tx nx:Nat->ByteArray)(g:Nat->Nat)(lb:Nat->Array Value)(ei:Nat->Nat)(Q:Nat->Prop)(J v1 K L:Value)(lo hi:Nat)(W:A4)(w:World)(hE:Do w p)(h:BM w lo hi J v1 K L W)(fB:F6 W)
 (ht:EV w tv A tx) (hn:EV w nv z nx) (hq:Il w p qv m g lb ei) (eg:∀i,i<m->Enters Tryz.prog (g i))
 (hQ:∀i,i<m->∀w',Below w.heap.size w w'->Cf W->(∀j,j<i->Q j)->Calls Tryz.prog (g i) (#[Bh J v1 K L W] ++ lb i) w' fun e iB=>AJ (Q i) e/\Below w'.heap.size w' iB) :
 Calls Tryz.prog 54 #[.agg #[tv,nv,qv,N],Bh J v1 K L W] w fun e w'=>∃r,e = .returned (SC p r)/\Gq W (∃i,i<A/\8000<(tx i).size) (∃i,i<z/\¬Bp (nx i)) m Q ei r/\Below w.heap.size w w':=by
 have Hp:=AU h;have HE:=AU hE;have Ht:=AU ht;have Hn:=AU hn;have Hq:=AU hq;have HQ:=AU hQ;have Hg:=AU eg;obtain⟨t1,ta,tc,rfl,-⟩:=ht;obtain⟨n1,na,nc,rfl,-⟩:=hn;obtain⟨m1,qa,qc,rfl,-⟩:=hq;clear h hE hQ eg;have bA:=A9 w (.cells #[.slice ta A tc,.slice na z nc,.slice qa m qc,N] 62);have I:=A9 (w.alloc (.cells #[.slice ta A tc,.slice na z nc,.slice qa m qc,N] 62)) (.cells #[J,v1,.int .i64 W.time,.int .i64 W.next,K,L] 30);have C:=A8 bA I;have hd:=(J7.new w (.slice ta A tc) (.slice na z nc) (.slice qa m qc) (N) 62).A1 I;have hx:=Af.new (w.alloc (.cells #[.slice ta A tc,.slice na z nc,.slice qa m qc,N] 62)) (J) (v1) (.int .i64 W.time) (.int .i64 W.next) (K) (L) 30;rw[World.size_alloc]at hx;have HD:=AU hd;have HX:=AU hx;clear hd hx;obtain⟨⟨U,-⟩,⟨X,-⟩,⟨Y,-⟩,⟨Z,-⟩⟩:=HD.out;go_enter Tryz.func54,Tryz.ntmps54;go_wp2_with fail;clear U X Y Z;generalize ((w.alloc (.cells #[.slice ta A tc,.slice na z nc,.slice qa m qc,N] 62)).alloc (.cells #[J,v1,.int .i64 W.time,.int .i64 W.next,K,L] 30))=W1 at C HD HX ⊢;clear bA I;refine(yo _ A tx W1 (Ht.out.A1 C)).mono ?_;rintro e w2 ⟨⟨t,rfl,d⟩,q⟩;have n:=A8 C q;have R:=AU (HD.out.A1 q);have E:=AU (HX.out.A1 q);clear q C HD HX;by_cases l:∃i,i<A/\8000<(tx i).size
 ·obtain rfl:t=true:=d.2 l;have M:=AU l;have cA:w2.cell? ⟨2,0,none⟩=some (Aq (p 1)):=(HE.out.A1 n).cell 1 (by omega);clear d l;go_wp2;go_ret;exact⟨some 1,rfl,Or.inl ⟨M.out,rfl⟩,n⟩
 obtain rfl:t=false:=Bb d l;have M:=AU l;clear d l;obtain⟨x0,x1,x2,x3,x4,x5⟩:=E.out.c;go_wp2_with fail;clear x0 x1 x2 x3 x4 x5;refine(MO _ _ _ _ lo hi W w2 (Hp.out.A1 n) fB).mono ?_;rintro e w3 ⟨⟨t,rfl,d⟩,s⟩;have o:=A8 n s;have D:=AU (R.out.A1 s);have T:=AU (E.out.A1 s);clear s n R E;by_cases P:Cf W;rotate_left
 ·obtain rfl:t=false:=Bb d P;have S:=AU P;have cA:w3.cell? ⟨3,0,none⟩=some (Aq (p 0)):=(HE.out.A1 o).cell 0 (by omega);clear d P;go_wp2;go_ret;exact⟨some 0,rfl,Or.inr (Or.inl ⟨M.out,Or.inl S.out,rfl⟩),o⟩
 obtain rfl:t=true:=d.2 P;have S:=AU P;clear d P;obtain⟨⟨U,-⟩,⟨X,-⟩,⟨Y,-⟩,⟨Z,-⟩⟩:=D.out;go_wp2_with fail;clear U X Y Z;refine(yp _ z nx w3 (Hn.out.A1 o)).mono ?_;rintro e w4 ⟨⟨t,rfl,d⟩,u⟩;have G:=A8 o u;have pA:=AU (D.out.A1 u);have aB:=AU (T.out.A1 u);clear u o D T;by_cases l:∃i,i<z/\¬Bp (nx i)
 ·obtain rfl:t=true:=d.2 l;have HN:=AU l;have cA:w4.cell? ⟨3,0,none⟩=some (Aq (p 0)):=(HE.out.A1 G).cell 0 (by omega);clear d l;go_wp2;go_ret;exact⟨some 0,rfl,Or.inr (Or.inl ⟨M.out,Or.inr HN.out,rfl⟩),G⟩
 obtain rfl:t=false:=Bb d l;have HN:=AU l;clear d l;obtain⟨⟨U,-⟩,⟨X,-⟩,⟨Y,-⟩,⟨Z,-⟩⟩:=pA.out;go_wp2;clear U X Y Z
 go_loopw [23] (fun i wr=>∃k:Nat,k<=m/\i = .int .i64 k/\(∀j,j<k->Q j)/\Af wr (w.heap.size+1) (J) (v1) (.int .i64 W.time) (.int .i64 W.next) (K) (L)/\Below w.heap.size w wr) (fun i _=>m - (intOf i).toNat)
 case atStart=>exact⟨0,Nat.zero_le _,rfl,fun j hj=>absurd hj (Nat.not_lt_zero _),aB.out,G⟩
 case round=>
  obtain⟨k,hk,rfl,B,hX,C⟩:=hrel;have f:=AU B;have cB:=AU hX;clear B hX;by_cases y:k<m
  ·have bC:(k:Int)<(m:Int):=(by omega);obtain⟨b,off,rfl,q0,q1⟩:=(Hq.out.A1 C).cells y;have H:=A9 wr (.cells #[.func (.func (g k)) #[] (lb k),Aq (p (ei k))] 54);have HV:=AU (Ad.new wr (.func (.func (g k)) #[] (lb k)) (Aq (p (ei k))) 54);have F:=AU (cB.out.A1 H);have x:=A8 C H;have e0:∀(args:Array Value) (w:World),(callFunc (g k) args).run Tryz.prog w = .ok (.enter (g k) args) w:=Hg.out k y;have eB:=fun (w:World) (a:Addr)=>run_store Tryz.prog w a (.func (.func (g k)) #[] (lb k)) .plain rfl
   obtain⟨⟨z0,-⟩,⟨z1,-⟩⟩:=HV.out;obtain⟨x0,x1,x2,x3,x4,x5⟩:=F.out.c;go_wp2_with fail;clear x0 x1 x2 x3 x4 x5 z0 z1 q0 q1 eB;generalize wr.alloc (.cells #[.func (.func (g k)) #[] (lb k),Aq (p (ei k))] 54)=W5 at HV F x ⊢;generalize wr.heap.size=V at HV ⊢;refine(HQ.out k y W5 x S.out f.out).mono ?_;rintro e w6 ⟨⟨t,rfl,d⟩,v⟩;have aA:=A8 x v;have tA:=AU (HV.out.A1 v);have bB:=AU (F.out.A1 v);clear v x H e0;by_cases O:Q k
   ·obtain rfl:t=true:=d.2 O;have HF:=AU O;clear d O;go_wp2;go_roundw
    case rel=>
     refine⟨k+1,by omega,by go_num,fun j hj=>?_,bB.out,aA⟩;by_cases e:j=k
     ·subst e;exact HF.out
     ·exact f.out j (by omega)
    case measure=>simp[intOf];omega
   ·obtain rfl:t=false:=Bb d O;have HF:=AU O;clear d O;obtain⟨⟨z0,-⟩,⟨z1,-⟩⟩:=tA.out;go_wp2;go_ret;exact⟨some (ei k),rfl,Or.inr (Or.inr (Or.inl ⟨M.out,S.out,HN.out,k,y,HF.out,f.out,rfl⟩)),aA⟩
  ·obtain rfl:k=m:=(by omega);go_wp2;go_ret;exact⟨none,rfl,Or.inr (Or.inr (Or.inr ⟨M.out,S.out,HN.out,f.out,rfl⟩)),C⟩
theorem zCZ(g:Nat)(lb:Array Value)(z:Enters Tryz.prog g)(P:Nat->Prop)(v:Value)(n lo hi:Nat)(f:Nat->AT)(w:World)(h:D8 w lo hi v n f)(hn:n<=1000)
 (A:∀i,i<n->∀a c w',Below w.heap.size w w'->Ay w' lo hi (.slice a (f i).dn c) (f i).dn (f i).ds (f i).db->Calls Tryz.prog g (#[.agg #[.int .i64 (f i).id,.string (f i).name,.string (f i).set,.int .i64 (f i).A5,.int .i64 (f i).time,.int .i64 (f i).rs,.int .i64 (f i).rb,.slice a (f i).dn c]] ++ lb) w' fun e x=>AJ (P i) e/\Below w'.heap.size w' x) :
 Calls Tryz.prog 105 #[v,.func (.func g) #[] lb] w fun e w'=>((∃i:Nat,i<n/\P i/\(∀j,j<i->¬P j)/\e = .returned (.int .i64 (i:Int)))\/((∀j,j<n->¬P j)/\e = .returned (.int .i64 (-1))))/\Below w.heap.size w w':=by
 have E:=A3 h;obtain⟨-,a,c,rfl,-,-⟩:=h;have D:=A3 A;clear A;have e0:∀(args:Array Value) (w:World),(callFunc g args).run Tryz.prog w = .ok (.enter g args) w:=z;clear z;go_enter Tryz.func105,Tryz.ntmps105;go_wp2
 go_loopw [8] (fun i wr=>∃k:Nat,k<=n/\i = .int .i64 k/\(∀j,j<k->¬P j)/\Below w.heap.size w wr) (fun i _=>n - (intOf i).toNat)
 case atStart=>exact⟨0,Nat.zero_le _,rfl,fun j B=>absurd B (Nat.not_lt_zero _),Below.refl _ _⟩
 case round=>
  obtain⟨k,O,rfl,l,r⟩:=hrel;have d:=A3 l;clear l;by_cases m:k<n
  ·have C:(k:Int)<(n:Int):=(by omega);obtain⟨b,off,vd,rfl,hs⟩:=(E.out.A1 r).cells m;obtain⟨-,F,G,rfl,-,-⟩:=id hs.dead;have y:=A3 hs.dead;obtain⟨H,q1,I,J,K,L,M,N,-,-⟩:=hs;go_wp2_with fail;clear H q1 I J K L M N;refine(D.out k m F G wr r y.out).mono ?_;rintro e Q ⟨⟨t,rfl,s⟩,p⟩;have q:=A8 r p;clear p y;by_cases o:P k
   ·obtain rfl:t=true:=s.2 o;have u:=A3 o;clear s o;go_wp2;go_ret;exact⟨Or.inl ⟨k,m,u.out,d.out,rfl⟩,q⟩
   ·obtain rfl:t=false:=Bb s o;have u:=A3 o;clear s o;go_wp2;go_roundw
    case rel=>
     refine⟨k+1,by omega,by go_num,fun j B=>?_,q⟩;by_cases e:j=k
     ·subst e;exact u.out
     ·exact d.out j (by omega)
    case measure=>simp[intOf];omega
  ·obtain rfl:k=n:=(by omega);go_wp2;go_ret;exact⟨Or.inr ⟨d.out,rfl⟩,r⟩
theorem RU(a:Option Addr)(n c:Nat)(xs:List Value)(w:World)(G:xs.length=n*6)(m:∀u∈xs,u.oneCell'=true)(hn:n<=1048576)
 (E:0<n->∃b off,a=some ⟨b,off,none⟩/\∀j u,xs[j]?=some u->w.cell? ⟨b,off+j,none⟩=some u) :
 Calls Tryz.prog 111 #[.slice a n c] w fun e w'=>∃o,e = .returned o/\w'.ownsRow w.heap.size 70 6 o n xs/\Below w.heap.size w w'/\(n=0->∃a,o = .slice a 0 0):=by
 have D:Hid (0<n->∃b off,a=some ⟨b,off,none⟩/\∀j u,xs[j]?=some u->w.cell? ⟨b,off+j,none⟩=some u):=E;have x:Hid (xs.length=n*6/\∀u∈xs,u.oneCell'=true):=⟨G,m⟩;clear E G m;have J:=fun w=>Lib.run_eql_slice_nil (P:=Tryz.prog) w 27 70 a n c 0 0 (by kernel_rfl)
 cases a with
 | none=>
  have A:n=0:=by
   by_cases h:0<n
   ·obtain⟨b,off,y,_⟩:=D.out h;simp at y
   ·omega
  subst A;have B:xs = []:=List.eq_nil_of_length_eq_zero (by simpa using x.out.1);subst B;go_enter Tryz.func111,Tryz.ntmps111;go_wp2;go_ret;exact⟨_,rfl,World.ownsRow_nil _ _ _ _,Below.refl _ _,fun _=>⟨_,rfl⟩⟩
 | some ad=>
  obtain⟨i0,hi,t⟩:=Option.map_eq_some_iff.1 zES;simp only[Prod.mk.injEq]at t;obtain⟨H,hs,s⟩:=t;have v:Hid (Tryz.prog.info? 70=some i0/\i0.zero=some (.agg #[.string ⟨#[]⟩,.int .i64 0,.int .i64 0,.int .i64 0,.int .i64 0,.slice none 0 0])/\i0.size=6/\i0.bytes=72):=⟨hi,H,hs,s⟩;have d:Hid ((w.alloc (.cells #[] 70)).ownsRow w.heap.size 70 6 (.slice (some ⟨w.heap.size,0,none⟩) 0 0) 0 []):=World.ownsRow_made w #[] 0 (Nat.le_refl _) (Nat.zero_le _) (by simp);clear hi H hs s;go_enter Tryz.func111,Tryz.ntmps111;go_wp2_with (first
   | (at_builtin;refine L1 rfl _ _ 27 rfl w.heap.size 70 i0 (.agg #[.string ⟨#[]⟩,.int .i64 0,.int .i64 0,.int .i64 0,.int .i64 0,.slice none 0 0]) 6 72 (by kernel_rfl) v.out.1 v.out.2.1 v.out.2.2.1 v.out.2.2.2 rfl (by decide) _ _ _ rfl d.out (some ad) n c xs rfl x.out.1 x.out.2 ?c1 ?c3 ?c4 ?c5 ?_))
  case c1=>
   intro I;obtain⟨b,off,y,f⟩:=D.out I;exact⟨b,off,y,fun j u F=>(((Below.refl _ _).alloc (Nat.le_refl _) _).cell (AM (f j u F))).trans (f j u F)⟩
  case c3=>unfold maxLen;omega
  case c4=>omega
  case c5=>simp
  intro o C i g l;have z:Below w.heap.size w C:=((Below.refl _ _).alloc (Nat.le_refl _) _).grown g (by simp) (fun q K=>by have:=d.out.lt q K;omega);have k:C.ownsRow w.heap.size 70 6 o n xs:=(by simpa using i);have p:Hid (C.ownsRow w.heap.size 70 6 o n xs):=k;have r:Hid (n=0->o = .slice (some ⟨w.heap.size,0,none⟩) 0 0):=l;clear i k g l;go_wp2;go_ret;exact⟨o,rfl,p.out,z,fun e=>⟨_,r.out e⟩⟩
theorem Ov(a:Option Addr)(n c:Nat)(xs:List Value)(w:World)(G:xs.length=n*8)(m:∀u∈xs,u.oneCell'=true)(hn:n<=1048576)
 (E:0<n->∃b off,a=some ⟨b,off,none⟩/\∀j u,xs[j]?=some u->w.cell? ⟨b,off+j,none⟩=some u) :
 Calls Tryz.prog 112 #[.slice a n c] w fun e w'=>∃o,e = .returned o/\w'.ownsRow w.heap.size 43 8 o n xs/\Below w.heap.size w w'/\(n=0->∃a,o = .slice a 0 0):=by
 have D:Hid (0<n->∃b off,a=some ⟨b,off,none⟩/\∀j u,xs[j]?=some u->w.cell? ⟨b,off+j,none⟩=some u):=E;have x:Hid (xs.length=n*8/\∀u∈xs,u.oneCell'=true):=⟨G,m⟩;clear E G m;have J:=fun w=>Lib.run_eql_slice_nil (P:=Tryz.prog) w 28 43 a n c 0 0 (by kernel_rfl)
 cases a with
 | none=>
  have A:n=0:=by
   by_cases h:0<n
   ·obtain⟨b,off,y,_⟩:=D.out h;simp at y
   ·omega
  subst A;have B:xs = []:=List.eq_nil_of_length_eq_zero (by simpa using x.out.1);subst B;go_enter Tryz.func112,Tryz.ntmps112;go_wp2;go_ret;exact⟨_,rfl,World.ownsRow_nil _ _ _ _,Below.refl _ _,fun _=>⟨_,rfl⟩⟩
 | some ad=>
  obtain⟨i0,hi,t⟩:=Option.map_eq_some_iff.1 yz;simp only[Prod.mk.injEq]at t;obtain⟨H,hs,s⟩:=t;have v:Hid (Tryz.prog.info? 43=some i0/\i0.zero=some (.agg #[.int .i64 0,.string ⟨#[]⟩,.string ⟨#[]⟩,.int .i64 0,.int .i64 0,.int .i64 0,.int .i64 0,.slice none 0 0])/\i0.size=8/\i0.bytes=96):=⟨hi,H,hs,s⟩;have d:Hid ((w.alloc (.cells #[] 43)).ownsRow w.heap.size 43 8 (.slice (some ⟨w.heap.size,0,none⟩) 0 0) 0 []):=World.ownsRow_made w #[] 0 (Nat.le_refl _) (Nat.zero_le _) (by simp);clear hi H hs s;go_enter Tryz.func112,Tryz.ntmps112;go_wp2_with (first
   | (at_builtin;refine L1 rfl _ _ 28 rfl w.heap.size 43 i0 (.agg #[.int .i64 0,.string ⟨#[]⟩,.string ⟨#[]⟩,.int .i64 0,.int .i64 0,.int .i64 0,.int .i64 0,.slice none 0 0]) 8 96 (by kernel_rfl) v.out.1 v.out.2.1 v.out.2.2.1 v.out.2.2.2 rfl (by decide) _ _ _ rfl d.out (some ad) n c xs rfl x.out.1 x.out.2 ?c1 ?c3 ?c4 ?c5 ?_))
  case c1=>
   intro I;obtain⟨b,off,y,f⟩:=D.out I;exact⟨b,off,y,fun j u F=>(((Below.refl _ _).alloc (Nat.le_refl _) _).cell (AM (f j u F))).trans (f j u F)⟩
  case c3=>unfold maxLen;omega
  case c4=>omega
  case c5=>simp
  intro o C i g l;have z:Below w.heap.size w C:=((Below.refl _ _).alloc (Nat.le_refl _) _).grown g (by simp) (fun q K=>by have:=d.out.lt q K;omega);have k:C.ownsRow w.heap.size 43 8 o n xs:=(by simpa using i);have p:Hid (C.ownsRow w.heap.size 43 8 o n xs):=k;have r:Hid (n=0->o = .slice (some ⟨w.heap.size,0,none⟩) 0 0):=l;clear i k g l;go_wp2;go_ret;exact⟨o,rfl,p.out,z,fun e=>⟨_,r.out e⟩⟩
theorem Ya(v:Value)(n lo hi:Nat)(f g:Nat->Int)(w:World)(R:Ay w lo hi v n f g)(hn:n<=1048576) :
 Calls Tryz.prog 37 #[v] w fun e w'=>(∃x kb,e = .returned x/\C3 w' 40 2 x n/\Bm w' kb x n f g/\(0<n->w.heap.size<=kb/\kb<w'.heap.size))/\Below w.heap.size w w':=by
 obtain⟨O,a,c,rfl,W,K⟩:=R;have F:Hid (0<n->∃b off,a=some ⟨b,off,none⟩/\lo<=b/\b<hi/\∀i,i<n->w.cell? ⟨b,off+i*2,none⟩=some (.int .i64 (f i))/\w.cell? ⟨b,off+i*2+1,none⟩=some (.int .i64 (g i))):=K;have Q:Hid (n<=maxLen):=O;clear K O;have U:=fun w=>Lib.run_eql_slice_nil (P:=Tryz.prog) w 41 40 a n c 0 0 (by kernel_rfl)
 cases a with
 | none=>
  have I:n=0:=by
   by_cases h:0<n
   ·obtain⟨b,off,r,_⟩:=F.out h;simp at r
   ·omega
  subst I;go_enter Tryz.func37,Tryz.ntmps37;go_wp2;go_ret;exact⟨⟨_,0,rfl,Or.inl ⟨rfl,_,rfl⟩,⟨Nat.zero_le _,none,0,rfl,Nat.le_refl _,fun h=>absurd h (Nat.lt_irrefl _)⟩,fun h=>absurd h (Nat.lt_irrefl _)⟩,Below.refl _ _⟩
 | some ad=>
  obtain⟨i0,hi,B⟩:=Option.map_eq_some_iff.1 Kb;simp only[Prod.mk.injEq]at B;obtain⟨N,hs,A⟩:=B;have t:∀(w':World),Below w.heap.size w w'->∀j u,(kc f g n)[j]?=some u->w'.cell? (ad.add j)=some u:=fun w' S j u E=>by
   by_cases z:0<n
   ·obtain⟨b,off,r,_,_,T⟩:=F.out z;simp only[Option.some.injEq]at r;subst r;have:=Um T j u E;have l:(⟨b,off,none⟩:Addr).add j=⟨b,off+j,none⟩:=(by unfold Addr.add;split<;>simp_all);rw[l]at this ⊢;exact(S.cell (AM this)).trans this
   ·obtain rfl:n=0:=(by omega);simp[kc]at E
  have y:Hid (∀(w':World),Below w.heap.size w w'->∀j u,(kc f g n)[j]?=some u->w'.cell? (ad.add j)=some u):=t;have D:Hid (Tryz.prog.info? 40=some i0/\i0.zero=some (.agg #[.int .i64 0,.int .i64 0])/\i0.size=2/\i0.bytes=16):=⟨hi,N,hs,A⟩;have p:(w.alloc (.cells #[] 40)).ownsRow w.heap.size 40 2 (.slice (some ⟨w.heap.size,0,none⟩) 0 0) 0 []:=World.ownsRow_made w #[] 0 (Nat.le_refl _) (Nat.zero_le _) (by simp);have k:Hid ((w.alloc (.cells #[] 40)).ownsRow w.heap.size 40 2 (.slice (some ⟨w.heap.size,0,none⟩) 0 0) 0 []):=p;clear hi N hs A t p;go_enter Tryz.func37,Tryz.ntmps37;go_wp2_with (first
   | (at_builtin;refine L1 rfl _ _ 41 rfl w.heap.size 40 i0 (.agg #[.int .i64 0,.int .i64 0]) 2 16 (by kernel_rfl) D.out.1 D.out.2.1 D.out.2.2.1 D.out.2.2.2 rfl (by decide) _ _ _ rfl k.out (some ad) n c (kc f g n) rfl (KI f g n) (Z6 f g n) ?c1 ?c3 ?c4 ?c5 ?_))
  case c1=>
   intro z;obtain⟨b,off,r,_,_,_⟩:=F.out z;simp only[Option.some.injEq]at r;refine⟨b,off,by rw[r],fun j u E=>?_⟩;have:=y.out _ ((Below.refl _ _).alloc (Nat.le_refl _) (.cells #[] 40)) j u E;have l:(⟨b,off,none⟩:Addr).add j=⟨b,off+j,none⟩:=(by unfold Addr.add;split<;>simp_all);rw[r,l]at this;exact this
  case c3=>unfold maxLen;omega
  case c4=>omega
  case c5=>simp
  intro x C o m s;have H:Below w.heap.size w C:=((Below.refl _ _).alloc (Nat.le_refl _) _).grown m (by simp) (fun q V=>by have:=k.out.lt q V;omega);have d:C.ownsRow w.heap.size 40 2 x n (kc f g n):=(by simpa using o);obtain⟨kb,M,L⟩:=YF Q.out d;have G:Hid (C3 C 40 2 x n):=J0 d (fun z=>⟨_,s z⟩);have J:Hid (Bm C kb x n f g/\(0<n->w.heap.size<=kb/\kb<C.heap.size)):=⟨M,L⟩;clear M L o d m s;go_wp2;go_ret;exact⟨⟨x,kb,rfl,G.out,J.out.1,J.out.2⟩,H⟩
end
end Go.Proofs.YtnfjcaoclahfjaaGreatDoor

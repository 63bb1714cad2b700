/- A part of the proof. -/
import Derived.LaidEql
import Derived.Stop.Asserts
import Derived.RowKitTokens
import Derived.Test.YtibhefllijahkaaGreatDoorF17
import Derived.WideKeyEntry
set_option linter.unusedVariables false
set_option maxRecDepth 20000
set_option maxHeartbeats 4000000
namespace Go.Proofs.YtibhefllijahkaaGreatDoor
noncomputable section
open Go.RowKit
def Bp(w:World)(b:Nat)(v0 v1 v2 v3 v4 v5 v6 v7 v8:Value):Prop:=AJ w b 0 v0/\AJ w b 1 v1/\AJ w b 2 v2/\AJ w b 3 v3/\AJ w b 4 v4/\AJ w b 5 v5/\AJ w b 6 v6/\AJ w b 7 v7/\AJ w b 8 v8
variable{w:World}{b:Nat}{v0 v1 v2 v3 v4 v5 v6 v7 v8:Value}
theorem Bp.c(h:Bp w b v0 v1 v2 v3 v4 v5 v6 v7 v8):w.cell? ⟨b,0,none⟩=some v0/\w.cell? ⟨b,1,none⟩=some v1/\w.cell? ⟨b,2,none⟩=some v2/\w.cell? ⟨b,3,none⟩=some v3/\w.cell? ⟨b,4,none⟩=some v4/\w.cell? ⟨b,5,none⟩=some v5/\w.cell? ⟨b,6,none⟩=some v6/\w.cell? ⟨b,7,none⟩=some v7/\w.cell? ⟨b,8,none⟩=some v8:=
 ⟨h.1.1,h.2.1.1,h.2.2.1.1,h.2.2.2.1.1,h.2.2.2.2.1.1,h.2.2.2.2.2.1.1,h.2.2.2.2.2.2.1.1,h.2.2.2.2.2.2.2.1.1,h.2.2.2.2.2.2.2.2.1⟩
variable{w':World}
theorem Bp.A0(h:Bp w b v0 v1 v2 v3 v4 v5 v6 v7 v8)(t:Below w.heap.size w w'):Bp w' b v0 v1 v2 v3 v4 v5 v6 v7 v8:=⟨h.1.A0 t,h.2.1.A0 t,h.2.2.1.A0 t,h.2.2.2.1.A0 t,h.2.2.2.2.1.A0 t,h.2.2.2.2.2.1.A0 t,h.2.2.2.2.2.2.1.A0 t,h.2.2.2.2.2.2.2.1.A0 t,h.2.2.2.2.2.2.2.2.A0 t⟩
theorem Bp.AH{S:Nat->Prop}(h:Bp w b v0 v1 v2 v3 v4 v5 v6 v7 v8)(t:AI S w w')(hs:¬S b):Bp w' b v0 v1 v2 v3 v4 v5 v6 v7 v8:=⟨h.1.AH t hs,h.2.1.AH t hs,h.2.2.1.AH t hs,h.2.2.2.1.AH t hs,h.2.2.2.2.1.AH t hs,h.2.2.2.2.2.1.AH t hs,h.2.2.2.2.2.2.1.AH t hs,h.2.2.2.2.2.2.2.1.AH t hs,h.2.2.2.2.2.2.2.2.AH t hs⟩
theorem Bp.new(w:World)(b v1 c d e g h i j:Value)(t:TypeId):Bp (w.alloc (.cells #[b,v1,c,d,e,g,h,i,j] t)) w.heap.size b v1 c d e g h i j:=by
 have a:(w.alloc (.cells #[b,v1,c,d,e,g,h,i,j] t)).heap[w.heap.size]?=some (.cells #[b,v1,c,d,e,g,h,i,j] t):=heap_alloc_new _ _;exact⟨B2 a rfl,B2 a rfl,B2 a rfl,B2 a rfl,B2 a rfl,B2 a rfl,B2 a rfl,B2 a rfl,B2 a rfl⟩
abbrev put9(w:World)(b:Nat)(u0 u1 u2 u3 u4 u5 u6 u7 u8:Value):World:=((((((((w.setCell ⟨b,0,none⟩ u0).setCell ⟨b,1,none⟩ u1).setCell ⟨b,2,none⟩ u2).setCell ⟨b,3,none⟩ u3).setCell ⟨b,4,none⟩ u4).setCell ⟨b,5,none⟩ u5).setCell ⟨b,6,none⟩ u6).setCell ⟨b,7,none⟩ u7).setCell ⟨b,8,none⟩ u8
theorem Bp.put(h:Bp w b v0 v1 v2 v3 v4 v5 v6 v7 v8)(a d g j k l m n u8:Value):Bp (put9 w b a d g j k l m n u8) b a d g j k l m n u8:=
 have H (i:Nat) (u v:Value) (e:[a,d,g,j,k,l,m,n,u8][i]?=some u) (c:AJ w b i v):AJ (put9 w b a d g j k l m n u8) b i u:=Nd [a,d,g,j,k,l,m,n,u8] w 0 i i e (Nat.zero_add i) c
 ⟨H 0 _ _ rfl h.1,H 1 _ _ rfl h.2.1,H 2 _ _ rfl h.2.2.1,H 3 _ _ rfl h.2.2.2.1,H 4 _ _ rfl h.2.2.2.2.1,H 5 _ _ rfl h.2.2.2.2.2.1,H 6 _ _ rfl h.2.2.2.2.2.2.1,H 7 _ _ rfl h.2.2.2.2.2.2.2.1,H 8 _ _ rfl h.2.2.2.2.2.2.2.2⟩
theorem AI.put9(w:World)(b:Nat)(a c d e g h i j u8:Value):AI (fun k=>k=b) w (put9 w b a c d e g h i j u8):=((((((((AI.put w b 0 a).trans (AI.put _ b 1 c)).trans (AI.put _ b 2 d)).trans (AI.put _ b 3 e)).trans (AI.put _ b 4 g)).trans (AI.put _ b 5 h)).trans (AI.put _ b 6 i)).trans (AI.put _ b 7 j)).trans (AI.put _ b 8 u8)
open Go.Extern.Stop Go.Stop Go.Extern
theorem AP{P:Prop}(h:P):Hid P:=h
abbrev AY(a:Addr):Value:=.iface 256 (.pointer (some a))
def Er:Nat->Nat
 | 0=>5
 | 1=>4
 | 2=>0
 | 3=>2
 | 4=>3
 | 5=>1
 | _=>6
def EB:Nat->Int
 | 0=>1
 | 1=>2
 | 2=>4
 | 3=>5
 | 4=>6
 | 5=>7
 | _=>8
structure Cr (w:World) (p:Nat->Addr):Prop where
 cell:∀i,i<7->w.cell? ⟨Er i,0,none⟩=some (AY (p i))
 row:∀i,i<7->∃cs t,w.heap[(p i).block]?=some (.cells cs t (0,0))
 ne:∀i j,i<7->j<7->i≠j->p i≠p j
theorem Cr.A0{p:Nat->Addr}(h:Cr w p)(t:Below w.heap.size w w'):Cr w' p:=
 ⟨fun i hi=>(t.cell (AZ (h.cell i hi))).trans (h.cell i hi),fun i hi=>by
  obtain⟨cs,ty,a⟩:=h.row i hi;exact⟨cs,ty,(t.block _ (Array.getElem?_eq_some_iff.1 a).1).trans a⟩,h.ne⟩
theorem V9(v:Value)(w:World):(Extern.ReflectliteType.typeOf #[.iface 256 v]).run Tryz.prog w = .ok (.iface 226 (.agg #[.pointer (some ⟨8,256,none⟩)])) w:=by kernel_rfl
def SX:Array Value->Sem Value:=Extern.ReflectliteType.method fun t=>do Extern.Rtype.noPackHeld "Comparable" t;pure (.bool (<-typeInfo t).comparable)
theorem Z8(w:World):(SX #[.agg #[.pointer (some ⟨8,256,none⟩)]]).run Tryz.prog w = .ok (.bool true) w:=by kernel_rfl
theorem Za(v:Value)(w:World):(Go.method 392 226 v "Comparable").run Tryz.prog w = .ok (241,v) w:=by kernel_rfl
theorem Zu:(Tryz.prog.info? 256).map (·.comparable)=some true:=by kernel_rfl
theorem Zv:(Tryz.prog.info? 280).map (·.size)=some 1:=by kernel_rfl
theorem zJN(v:Value)(a:TypeId)(w:World):(Instr.typeAssert (.iface 256 v) a 228 true).run Tryz.prog w = .ok (.tuple #[.nilIface,.bool false]) w:=run_typeAssert_lacksB Tryz.underlying228 (by kernel_rfl) (by kernel_rfl) v a w
theorem zEH(v:Value)(a:TypeId)(w:World):(Instr.typeAssert (.iface 256 v) a 231 true).run Tryz.prog w = .ok (.tuple #[.nilIface,.bool false]) w:=run_typeAssert_lacksB Tryz.underlying231 (by kernel_rfl) (by kernel_rfl) v a w
theorem zu(v:Value)(a:TypeId)(w:World):(Instr.typeAssert (.iface 256 v) a 233 true).run Tryz.prog w = .ok (.tuple #[.nilIface,.bool false]) w:=run_typeAssert_lacksB Tryz.underlying233 (by kernel_rfl) (by kernel_rfl) v a w
theorem zHa(a:Addr)(w:World):Calls Tryz.prog 108 #[AY a,AY a] w fun e w'=>e = .returned (.bool true)/\w'=w:=by
 obtain⟨i,hi,b⟩:=Option.map_eq_some_iff.1 Zu;obtain⟨j,g,h⟩:=Option.map_eq_some_iff.1 Zv;have l:=@run_callFunc_extern Tryz.prog 155 _ Extern.ReflectliteType.typeOf Tryz.func155 (by kernel_rfl) (by kernel_rfl) (by kernel_rfl) (by kernel_rfl);have c:=@run_callFunc_extern Tryz.prog 241 _ SX Tryz.func241 (by kernel_rfl) (by kernel_rfl) (by kernel_rfl) (by kernel_rfl);have tT:=V9;have k:=Z8;have m:=Za;have d:=run_eql_iface_ptr_same (P:=Tryz.prog) w a Tryz.underlying55 Tryz.underlying256 hi b g;go_enter Tryz.func108,Tryz.ntmps108;go_wp2;refine wp_loop_rounds 1 ?_;rw[rounds_succ];go_wp2;go_ret;exact⟨rfl,rfl⟩
theorem zFb(a b:Addr)(h k:Array Value)(q tb:TypeId)(w:World)(g:a≠b)(m:w.heap[a.block]?=some (.cells h q (0,0)))(n:w.heap[b.block]?=some (.cells k tb (0,0))):Calls Tryz.prog 108 #[AY a,AY b] w fun e w'=>e = .returned (.bool false)/\w'=w:=by
 obtain⟨i,hi,c⟩:=Option.map_eq_some_iff.1 Zu;obtain⟨j,p,d⟩:=Option.map_eq_some_iff.1 Zv;have s:=@run_callFunc_extern Tryz.prog 155 _ Extern.ReflectliteType.typeOf Tryz.func155 (by kernel_rfl) (by kernel_rfl) (by kernel_rfl) (by kernel_rfl);have l:=@run_callFunc_extern Tryz.prog 241 _ SX Tryz.func241 (by kernel_rfl) (by kernel_rfl) (by kernel_rfl) (by kernel_rfl);have tT:=V9;have r:=Z8;have t:=Za;have u:=zJN;have v:=zEH;have x:=zu;have o:=run_eql_iface_ptr_other (P:=Tryz.prog) w Tryz.underlying55 Tryz.underlying256 hi c p (by rw[d];decide) g m n;go_enter Tryz.func108,Tryz.ntmps108;go_wp2;refine wp_loop_rounds 1 ?_;rw[rounds_succ];go_wp2;go_ret;exact⟨rfl,rfl⟩
def Mu(p:Nat->Addr):Array Value:=#[AY (p 0),.int .i64 1,AY (p 1),.int .i64 2,AY (p 2),.int .i64 4,AY (p 3),.int .i64 5,AY (p 4),.int .i64 6,AY (p 5),.int .i64 7,AY (p 6),.int .i64 8]
variable{i:Nat}
theorem Ss(p:Nat->Addr)(hi:i<7):(Mu p)[i*2]?=some (AY (p i))/\(Mu p)[i*2+1]?=some (.int .i64 (EB i)):=by
 match i,hi with
 | 0,_=>exact⟨rfl,rfl⟩
 | 1,_=>exact⟨rfl,rfl⟩
 | 2,_=>exact⟨rfl,rfl⟩
 | 3,_=>exact⟨rfl,rfl⟩
 | 4,_=>exact⟨rfl,rfl⟩
 | 5,_=>exact⟨rfl,rfl⟩
 | 6,_=>exact⟨rfl,rfl⟩
theorem zBp(p:Nat->Addr)(w:World)(h:Cr w p):Calls Tryz.prog 107 #[] w fun e w'=>e = .returned (.slice (some ⟨w.heap.size,0,none⟩) 7 7)/\w'=w.alloc (.cells (Mu p) 145):=by
 have a:w.cell? ⟨5,0,none⟩=some (AY (p 0)):=h.cell 0 (by omega);have b:w.cell? ⟨4,0,none⟩=some (AY (p 1)):=h.cell 1 (by omega);have c:w.cell? ⟨0,0,none⟩=some (AY (p 2)):=h.cell 2 (by omega);have d:w.cell? ⟨2,0,none⟩=some (AY (p 3)):=h.cell 3 (by omega);have g:w.cell? ⟨3,0,none⟩=some (AY (p 4)):=h.cell 4 (by omega);have i:w.cell? ⟨1,0,none⟩=some (AY (p 5)):=h.cell 5 (by omega);have j:w.cell? ⟨6,0,none⟩=some (AY (p 6)):=h.cell 6 (by omega);clear h;go_enter Tryz.func107,Tryz.ntmps107;go_wp2;go_ret;exact⟨rfl,rfl⟩
structure BV where
 world:A5
 id:Int
 many:Int
 code:Int
abbrev zJW(v0 v1 v2 v3:Value)(o:BV):Value:=.agg #[v0,v1,.int .i64 o.world.time,.int .i64 o.world.next,v2,v3,.int .i64 o.id,.int .i64 o.many,.int .i64 o.code]
def Iw(o:BV)(w:World)(e:Ending)(w':World):Prop:=∃v0 v1 v2 v3,e = .returned (zJW v0 v1 v2 v3 o)/\EJ w' w.heap.size w'.heap.size v0 v1 v2 v3 o.world/\Below w.heap.size w w'
theorem Bp.six(h:Bp w b v0 v1 v2 v3 v4 v5 v6 v7 v8)(d g k l m n:Value):Bp (put6 w b d g k l m n) b d g k l m n v6 v7 v8:=
 have H (i j:Nat) (u v:Value) (e:[d,g,k,l,m,n][i]?=some u) (a:0+i=j) (c:AJ w b j v):AJ (Mt w b 0 [d,g,k,l,m,n]) b j u:=Nd [d,g,k,l,m,n] w 0 i j e a c;have K (j:Nat) (v:Value) (a:j<0\/6<=j) (c:AJ w b j v):AJ (Mt w b 0 [d,g,k,l,m,n]) b j v:=QO [d,g,k,l,m,n] w 0 c a
 ⟨H 0 0 _ _ rfl rfl h.1,H 1 1 _ _ rfl rfl h.2.1,H 2 2 _ _ rfl rfl h.2.2.1,H 3 3 _ _ rfl rfl h.2.2.2.1,H 4 4 _ _ rfl rfl h.2.2.2.2.1,H 5 5 _ _ rfl rfl h.2.2.2.2.2.1,K 6 _ (by omega) h.2.2.2.2.2.2.1,K 7 _ (by omega) h.2.2.2.2.2.2.2.1,K 8 _ (by omega) h.2.2.2.2.2.2.2.2⟩
variable{v:Value}
theorem AJ.under{B o:Nat}(h:AJ w b o v)(t:Below B w w')(a:b<B):AJ w' b o v:=⟨(t.cell (p:=⟨b,o,none⟩) a).trans h.1,(t.frozen (p:=⟨b,o,none⟩) a).trans h.2⟩
def BG(c:Int):BV:=⟨noW,0,0,c⟩
def F6(r:Option Nat)(o:BV):BV:=match r with
 | some i=>BG (EB i)
 | none=>o
def Dx(n:Nat)(f g:Nat->Int):List (Int×Int):=(List.range n).map fun i=>(f i,g i)
theorem VE(p:A8)(xs xb:Int)(n:Nat)(b:Int)(o:G0):Az (EK p xs xb n b o).pool<=Az o.pool+16/\(EK p xs xb n b o).old.length<=3:=by
 have c:=X4 p xs xb n b o 2;have a:(JG p xs xb n 3).length<=3:=J9 _ _ 3;unfold EK;split
 ·exact⟨Nat.zero_le _,Nat.zero_le _⟩
 ·split
  ·exact⟨Nat.zero_le _,Nat.zero_le _⟩
  ·exact⟨by show Az (Bk p xs xb n b o 2).pool<=_;omega,a⟩
theorem Rf(p:A8)(xs xb a:Int)(d:ByteArray)(b:Int):Az (EU p xs xb a d b).pool<=Az p+40/\(EU p xs xb a d b).old.length<=3:=by
 unfold EU;split
 ·exact⟨Nat.zero_le _,Nat.zero_le _⟩
 ·split
  ·split
   ·rename_i g
    split
    ·have c:=VE p xs xb a.toNat b ⟨(Cj p (Bh b d)).pool,(Cj p (Bh b d)).ps,(Cj p (Bh b d)).pb,0⟩;have h:=Xk p (Bh b d);have i:Cu (Bh b d)=16:=(by show 0+d.size=16;rw[g.2]);exact⟨by have e:=c.1;simp only at e;omega,c.2⟩
    ·exact⟨Nat.zero_le _,Nat.zero_le _⟩
   ·exact⟨Nat.zero_le _,Nat.zero_le _⟩
  ·exact⟨Nat.zero_le _,Nat.zero_le _⟩
theorem Rd(p:A8)(xs xb a b:Int):Az (FZ p xs xb a b).pool<=Az p+40/\(FZ p xs xb a b).old.length<=3:=by
 unfold FZ;split
 ·split
  ·split
   ·exact⟨Nat.zero_le _,Nat.zero_le _⟩
   ·have c:=VE p xs xb a.toNat b ⟨p,0,0,0⟩;exact⟨by have d:=c.1;simp only at d;omega,c.2⟩
  ·exact⟨Nat.zero_le _,Nat.zero_le _⟩
 ·exact⟨Nat.zero_le _,Nat.zero_le _⟩
def PG(W:A5)(k:Nat)(y:EC):List (Int×Int):=Bz (AO y.old) (AS y.old) (AC W (W.A3 k).A6).time y.old.length
def zA(W:A5)(k:Nat)(y:EC):List (Int×Int):=Ce (AO y.old) (AS y.old) (AC W (W.A3 k).A6).time y.old.length
def Mq(W:A5)(k:Nat)(y:EC):List (Int×Int):=Dx (W.A3 k).dn (W.A3 k).ds (W.A3 k).db ++ zA W k y
def Lg(W:A5)(k:Nat)(y:EC):AM:={W.A3 k with rs:=y.rs,rb:=y.rb,dn:=(Mq W k y).length,ds:=AO (Mq W k y),db:=AS (Mq W k y)}
def zB(W:A5)(k:Nat)(y:EC):A5:={W with pool:=Bd y.pool (PG W k y),A3:=fun j=>if j=k then Lg W k y else W.A3 j}
open Classical in
def GS(W:A5)(k:Nat)(y:EC):BV:=if y.code=0 then⟨zB W k y,0,((PG W k y).length:Int),0⟩else BG y.code
open Go.Maps
def Di(f:Nat->Int)(x:Int):Nat->Nat
 | 0=>0
 | k+1=>Di f x k+(if f k=x then 1 else 0)
variable{f:Nat->Int}
theorem Uu{x:Int}{k:Nat}(h:f k=x):Di f x (k+1)=Di f x k+1:=by simp[Di,h]
theorem UA{x:Int}{k:Nat}(h:¬f k=x):Di f x (k+1)=Di f x k:=by simp[Di,h]
def N8(W:A5)(x:Int):Nat:=Di (fun i=>(W.A3 i).A6) x W.sn+Di (fun i=>(W.A1 i).A6) x W.pn
def E8(w:World)(v:Value)(n:Nat)(f:Nat->ByteArray):Prop:=
 n<=1000/\∃a c,v = .slice a n c/\(∀i,i<n->(f i).size<=maxLen)/\(0<n->∃b off,a=some ⟨b,off,none⟩/\∀i,i<n->w.cell? ⟨b,off+i,none⟩=some (.string (f i)))
variable{n:Nat}{f:Nat->ByteArray}
theorem E8.A0(h:E8 w v n f)(t:Below w.heap.size w w'):E8 w' v n f:=by
 obtain⟨m,a,c,hv,hs,j⟩:=h;refine⟨m,a,c,hv,hs,fun e=>?_⟩;obtain⟨b,off,g,d⟩:=j e;exact⟨b,off,g,fun i hi=>(t.cell (AZ (d i hi))).trans (d i hi)⟩
theorem E8.cells{a:Option Addr}{c:Nat}(h:E8 w (.slice a n c) n f)(hi:i<n):∃b off,a=some ⟨b,off,none⟩/\w.cell? ⟨b,off+i,none⟩=some (.string (f i)):=by
 obtain⟨m,j,c0,hv,hs,g⟩:=h;simp only[Value.slice.injEq,true_and]at hv;obtain⟨rfl,rfl⟩:=hv;obtain⟨b,off,d,e⟩:=g (by omega);exact⟨b,off,d,e i hi⟩
theorem zE0(s:ByteArray)(w:World)(hs:s.size<=maxLen):Calls Tryz.prog 100 #[.string s] w fun e w'=>AG (8000<s.size) e/\Below w.heap.size w w':=by
 unfold maxLen at hs;by_cases h:8000<s.size
 ·have a:(8000:Int)<(s.size:Int):=(by omega);have H:=AP h;clear h;go_enter Tryz.func100,Tryz.ntmps100;go_wp2;go_ret;exact⟨AG.yes H.out,Below.refl _ _⟩
 ·have a:¬(8000:Int)<(s.size:Int):=(by omega);have H:=AP h;clear h;go_enter Tryz.func100,Tryz.ntmps100;go_wp2;go_ret;exact⟨AG.no H.out,Below.refl _ _⟩
theorem zF6(s:ByteArray)(w:World)(hs:s.size<=maxLen):Calls Tryz.prog 101 #[.string s] w fun e w'=>AG (¬BK s) e/\Below w.heap.size w w':=by
 go_enter Tryz.func101,Tryz.ntmps101;go_wp2_with fail;refine(Rh s w hs).mono ?_;rintro e d ⟨⟨t,rfl,b⟩,rfl⟩;by_cases a:BK s
 ·obtain rfl:t=true:=b.2 a;have c:=AP a;clear b a;go_wp2;go_ret;exact⟨AG.no (fun h=>h c.out),Below.refl _ _⟩
 ·obtain rfl:t=false:=Bc b a;have c:=AP a;clear b a;go_wp2;go_ret;exact⟨AG.yes c.out,Below.refl _ _⟩
theorem zBY(v:Value)(n:Nat)(f:Nat->ByteArray)(w:World)(h:E8 w v n f) :
 Calls Tryz.prog 150 #[v,.func (.func 100) #[] #[]] w fun e w'=>((∃i:Nat,i<n/\8000<(f i).size/\e = .returned (.int .i64 (i:Int)))\/((∀j,j<n->¬8000<(f j).size)/\e = .returned (.int .i64 (-1))))/\Below w.heap.size w w':=by
 have z:=AP h;obtain⟨D,a,c,rfl,hs,-⟩:=h;have A:=AP hs;clear hs;go_enter Tryz.func150,Tryz.ntmps150;go_wp2
 go_loopw [8] (fun i wr=>∃k:Nat,k<=n/\i = .int .i64 k/\(∀j,j<k->¬8000<(f j).size)/\Below w.heap.size w wr) (fun i _=>n - (intOf i).toNat)
 case atStart=>exact⟨0,Nat.zero_le _,rfl,fun j x=>absurd x (Nat.not_lt_zero _),Below.refl _ _⟩
 case round=>
  obtain⟨k,C,rfl,g,s⟩:=hrel;have d:=AP g;clear g;by_cases l:k<n
  ·have y:(k:Int)<(n:Int):=(by omega);obtain⟨b,off,rfl,B⟩:=(z.out.A0 s).cells l;have u:=A.out k l;go_wp2_with fail;refine(zE0 (f k) _ u).mono ?_;rintro e E ⟨⟨t,rfl,q⟩,o⟩;have p:=A7 s o;clear o B;by_cases m:8000<(f k).size
   ·obtain rfl:t=true:=q.2 m;have r:=AP m;clear q m;go_wp2;go_ret;exact⟨Or.inl ⟨k,l,r.out,rfl⟩,p⟩
   ·obtain rfl:t=false:=Bc q m;have r:=AP m;clear q m;go_wp2;go_roundw
    case rel=>
     refine⟨k+1,by omega,by go_num,fun j x=>?_,p⟩;by_cases e:j=k
     ·subst e;exact r.out
     ·exact d.out j (by omega)
    case measure=>simp[intOf];omega
  ·obtain rfl:k=n:=(by omega);go_wp2;go_ret;exact⟨Or.inr ⟨d.out,rfl⟩,s⟩
theorem zDm(v:Value)(n:Nat)(f:Nat->ByteArray)(w:World)(h:E8 w v n f) :
 Calls Tryz.prog 99 #[v,.func (.func 100) #[] #[]] w fun e w'=>AG (∃i,i<n/\8000<(f i).size) e/\Below w.heap.size w w':=by
 have k:=AP h;obtain⟨o,a,c,rfl,hs,-⟩:=h;go_enter Tryz.func99,Tryz.ntmps99;go_wp2_with fail;refine(zBY _ n f w k.out).mono ?_;rintro e p ⟨l,b⟩;rcases l with⟨i,hi,j,rfl⟩ | ⟨d,rfl⟩
 ·have g:=AP (show ∃i,i<n/\8000<(f i).size from⟨i,hi,j⟩);have m:(0:Int)<=(i:Int):=(by omega);clear j;go_wp2;go_ret;exact⟨AG.yes g.out,b⟩
 ·have g:=AP d;clear d;go_wp2;go_ret;exact⟨AG.no fun ⟨i,hi,hq⟩=>g.out i hi hq,b⟩
theorem zBZ(v:Value)(n:Nat)(f:Nat->ByteArray)(w:World)(h:E8 w v n f) :
 Calls Tryz.prog 150 #[v,.func (.func 101) #[] #[]] w fun e w'=>((∃i:Nat,i<n/\¬BK (f i)/\e = .returned (.int .i64 (i:Int)))\/((∀j,j<n->¬¬BK (f j))/\e = .returned (.int .i64 (-1))))/\Below w.heap.size w w':=by
 have z:=AP h;obtain⟨D,a,c,rfl,hs,-⟩:=h;have A:=AP hs;clear hs;go_enter Tryz.func150,Tryz.ntmps150;go_wp2
 go_loopw [8] (fun i wr=>∃k:Nat,k<=n/\i = .int .i64 k/\(∀j,j<k->¬¬BK (f j))/\Below w.heap.size w wr) (fun i _=>n - (intOf i).toNat)
 case atStart=>exact⟨0,Nat.zero_le _,rfl,fun j x=>absurd x (Nat.not_lt_zero _),Below.refl _ _⟩
 case round=>
  obtain⟨k,C,rfl,g,s⟩:=hrel;have d:=AP g;clear g;by_cases l:k<n
  ·have y:(k:Int)<(n:Int):=(by omega);obtain⟨b,off,rfl,B⟩:=(z.out.A0 s).cells l;have u:=A.out k l;go_wp2_with fail;refine(zF6 (f k) _ u).mono ?_;rintro e E ⟨⟨t,rfl,q⟩,o⟩;have p:=A7 s o;clear o B;by_cases m:¬BK (f k)
   ·obtain rfl:t=true:=q.2 m;have r:=AP m;clear q m;go_wp2;go_ret;exact⟨Or.inl ⟨k,l,r.out,rfl⟩,p⟩
   ·obtain rfl:t=false:=Bc q m;have r:=AP m;clear q m;go_wp2;go_roundw
    case rel=>
     refine⟨k+1,by omega,by go_num,fun j x=>?_,p⟩;by_cases e:j=k
     ·subst e;exact r.out
     ·exact d.out j (by omega)
    case measure=>simp[intOf];omega
  ·obtain rfl:k=n:=(by omega);go_wp2;go_ret;exact⟨Or.inr ⟨d.out,rfl⟩,s⟩
theorem zDn(v:Value)(n:Nat)(f:Nat->ByteArray)(w:World)(h:E8 w v n f) :
 Calls Tryz.prog 99 #[v,.func (.func 101) #[] #[]] w fun e w'=>AG (∃i,i<n/\¬BK (f i)) e/\Below w.heap.size w w':=by
 have k:=AP h;obtain⟨o,a,c,rfl,hs,-⟩:=h;go_enter Tryz.func99,Tryz.ntmps99;go_wp2_with fail;refine(zBZ _ n f w k.out).mono ?_;rintro e p ⟨l,b⟩;rcases l with⟨i,hi,j,rfl⟩ | ⟨d,rfl⟩
 ·have g:=AP (show ∃i,i<n/\¬BK (f i)from⟨i,hi,j⟩);have m:(0:Int)<=(i:Int):=(by omega);clear j;go_wp2;go_ret;exact⟨AG.yes g.out,b⟩
 ·have g:=AP d;clear d;go_wp2;go_ret;exact⟨AG.no fun ⟨i,hi,hq⟩=>g.out i hi hq,b⟩
open Go.ChangeMaps Go.MapKept
open Go.WideElems (Fit rd rg pl rd_val elemAt findIdx_arr findIdx_born modify_last set_self)
open Go.WideMaps (KeyLaw)
theorem zD2(w:World)(b:Nat)(o o':Obj):setBlock (setBlock w b o) b o'=setBlock w b o':=by simp[setBlock]
theorem zCk{o:Obj}(h:w.heap[b]?=some o):setBlock w b o=w:=by
 have e:w.heap.setIfInBounds b o=w.heap:=by
  apply Array.ext_getElem?;intro i;by_cases hi:i=b
  ·subst hi;rw[Array.getElem?_setIfInBounds_self_of_lt (Array.getElem?_eq_some_iff.1 h).1];exact h.symm
  ·rw[Array.getElem?_setIfInBounds_ne (fun e=>hi e.symm)]
 unfold setBlock;rw[e]
theorem zD7{es a:Array MapEntry}{c c':Nat}(d:w.heap[b]?=some (.map es c)):w.grownBy (setBlock w b (.map a c')) (some b):=
 ⟨rfl,rfl,rfl,by simp[setBlock],fun i _ hi=>heap_setBlock_other d _ (fun e=>hi (by rw[e]))⟩
variable{P:Program}{D:DataW Value}
theorem XX{k e t:TypeId}(h:w.ownsMap P k CK b n D)(m:KeyLaw P k)(l:P.underlying t=some (.map k e))(hn:n<maxLen){z:Value}(J:∀u:World,(zeroValue e).run P u = .ok z u){key val:Value} {kl:Lit} (a:keyOf P k key=some kl) (S:D.atKey kl (.held z) = .held v) :
 ∃(v0:Value) (st:Nat) (L w2:World),(Instr.mapEntry t (.map (some b)) key).run P w = .ok (.tuple #[v0,goInt st]) L/\(Instr.lookup t (.map (some b)) key false).run P L = .ok v L/\(Instr.entryStore t (.map (some b)) (goInt st) val).run P L = .ok () w2/\w2.ownsMap P k CK b (n+1) (D.put kl (.held val))/\w.grownBy L (some b)/\w.grownBy w2 (some b):=by
 have K:=Keyed.of_law m;obtain⟨w',G,r,U⟩:=h.update K l hn a (Fi val);obtain⟨wz,H,s,pA⟩:=h.update K l hn a (Fi z);have p:=h.lookup K l (J w) (Fi z) a;obtain⟨o,c,g,F,hs,hD⟩:=h;obtain⟨v0,st,d,c1,i,sA,aA⟩:=WideElems.entry_then_store m l J g F a;have T:(setBlock w b (.map d c1)).heap[b]?=some (.map d c1):=heap_setBlock_same g _;obtain⟨R,c2,Z,bA⟩:=aA _ val T;have e2:setBlock (setBlock w b (.map d c1)) b (.map R c2)=w':=by
  rw[zD2];rw[bA]at G;injection G
 refine⟨v0,st,setBlock w b (.map d c1),w',i,?_,by rw[<-e2];exact Z,r,zD7 g,U⟩;obtain⟨v',ps,C,cA⟩:=p;have ev:v'=v:=by
  have M:=Jq cA;rw[S]at M;injection M with M;exact M.symm
 subst ev
 suffices hh:∀A:World,A=setBlock w b (.map d c1)->(Instr.lookup t (.map (some b)) key false).run P A = .ok v' A from hh _ rfl
 intro A I;rcases m.find w a o.toList F.keys with⟨O,B⟩ | ⟨j,e0,O,B,h3⟩
 ·
  have eA:setBlock w b (.map d c1)=wz:=by
   have q:(Instr.mapEntry t (.map (some b)) key).run P w = .ok (.tuple #[z,goInt c]) (setBlock w b (.map (o.push ⟨key,z,c⟩) (c+1))):=by
    simp[Instr.mapEntry,run_underlying l,MapKept.run_getObj_map g,m.check w false a,O,J,MapKept.run_setObj_map _ g,Result.andThen,setBlock]
   have Q:(Instr.mapUpdate t (.map (some b)) key z).run P w = .ok () (setBlock w b (.map (o.push ⟨key,z,c⟩) (c+1))):=by
    simp[Instr.mapUpdate,run_underlying l,MapKept.run_getObj_map g,m.check w false a,O,MapKept.run_setObj_map _ g,Result.andThen,setBlock]
   rw[i]at q;rw[H]at Q;injection q with _ q;injection Q with _ Q;rw[q,Q]
  obtain rfl:A=wz:=I.trans eA;obtain⟨v2,tA,X,dA⟩:=s.lookup K l (J _) (Fi z) a;have N:=Jq dA;rw[atKey_put_same (show IsMap D from⟨_,hD⟩) (K.key a)]at N;replace N:=DataW.held.inj N;have e4:v'=z:=by
   have W:(Instr.lookup t (.map (some b)) key false).run P w = .ok z w:=by
    rcases Maps.fit_look false K l (J w) g F a with⟨E,_,_⟩ | ⟨e0,y,Y,V,_,_,_,_⟩
    ·exact E
    ·exact absurd V (B e0 Y)
   rw[W]at C;injection C with C _;exact C.symm
  subst N;subst e4;exact X
 ·
  have hj:o[j]?=some e0:=(by simpa using B);have x:o.modify j (fun e=>{e with key:=key})=o:=by
   apply Array.ext';rw[Array.toList_modify,modify_eq_set _ _ _ _ B];have:({e0 with key:=key}:MapEntry)=e0:=(by rw[<-h3]);rw[this];exact set_self _ _ _ B
  have q:(Instr.mapEntry t (.map (some b)) key).run P w = .ok (.tuple #[e0.val,goInt e0.born]) (setBlock w b (.map o c)):=by
   simp[Instr.mapEntry,run_underlying l,MapKept.run_getObj_map g,m.check w false a,O,hj,h3,m.stays w a,x,MapKept.run_setObj_map _ g,Result.andThen,setBlock]
  rw[i,zCk g]at q;obtain rfl:A=w:=I.trans (Result.ok.inj q).2;exact C
theorem Xb (W : A5) (m : Cs) : (CO W m).length <= 73 := by
 unfold CO EG treeM;exact Nat.le_trans (List.length_filter_le _ _) (De _ _ _)
theorem Vt (W : A5) : ∀ k, (Au W k).length <= 73 * k
 | 0 => by simp[Au]
 | k + 1 => by
   have a := Vt W k;have b := Xb W (AB W k);unfold Au;rw[List.length_append];omega
theorem Vu (W : A5) {k : Nat} : ∀ {n : Nat}, k <= n -> ∃ l, Au W n = Au W k ++ l
 | 0, h => ⟨[], by obtain rfl : k = 0 := by omega
                   simp⟩
 | n + 1, h => by
   by_cases e : k = n + 1
   · subst e;exact ⟨[], by simp⟩
   · obtain ⟨l, a⟩ := Vu W (k := k) (n := n) (by omega)
     exact ⟨l ++ CO W (AB W n), by rw[show Au W (n + 1) = Au W n ++ CO W (AB W n) from rfl, a, List.append_assoc]⟩
theorem zFS (W : A5){k j:Nat} (c : k < n) (a : j < (CO W (AB W k)).length) : (Au W k).length + j < (Au W n).length /\ (Au W n).getD ((Au W k).length + j) (0, 0) = (CO W (AB W k)).getD j (0, 0) := by
 obtain ⟨l, b⟩ := Vu W (k := k + 1) (n := n) (by omega);rw[b, show Au W (k + 1) = Au W k ++ CO W (AB W k) from rfl];constructor
 · simp only[List.length_append];omega
 · rw[List.getD_eq_getElem?_getD, List.getD_eq_getElem?_getD, List.append_assoc, List.getElem?_append_right (by omega), show (Au W k).length + j - (Au W k).length = j by omega, List.getElem?_append_left a]
def LP (x : Int × Int) : Value := .agg #[.int .i64 x.1, .int .i64 x.2]
/-- The keys of the homes, one behind the other. -/
structure El (W : A5) (key : Nat -> Lit) : Prop where
 ok : GU key
 at_ : ∀ i, i < (Au W (memN W)).length -> keyOf Tryz.prog 38 (LP ((Au W (memN W)).getD i (0, 0))) = some (key i)
variable{W:A5}{x:Int × Int}
theorem zCH (a : Ag W.pool) (b : ∀ i, i < memN W -> As W.pool (AB W i).rs (AB W i).rb) (c : x ∈ Au W (memN W)) : BM W.pool x.1 x.2 := by
 obtain ⟨i, hi, h⟩ := MR.1 c;unfold CO EG treeM at h;exact (Fs a (b i hi) (List.mem_filter.1 h).1).1
theorem zFM {l : List (Int × Int)} (h : i < l.length) : l.getD i (0, 0) ∈ l := by
 rw[List.getD_eq_getElem?_getD, List.getElem?_eq_getElem h, Option.getD_some];exact List.getElem_mem h
theorem zDo (c : Ag W.pool) (m : ∀ i, i < memN W -> As W.pool (AB W i).rs (AB W i).rb) : ∃ key, El W key := by
 have a : ∀ i, ∃ l, WideAt.IsKeyLit l /\ (i < (Au W (memN W)).length -> keyOf Tryz.prog 38 (LP ((Au W (memN W)).getD i (0, 0))) = some l) := fun i => by
  by_cases b : i < (Au W (memN W)).length
  · have d := zCH c m (zFM b)
    generalize (Au W (memN W)).getD i (0, 0) = x at d ⊢;have g := (F5 c d).1;have e := c.1;obtain ⟨p, q, r, k⟩ := d;rw[k]at g;obtain ⟨n, o⟩ := g;obtain ⟨l, j⟩ := TW (x := x.1) (y := x.2) (WalkArith.wf_i64 (by omega)) (WalkArith.wf_i64 (by omega));exact ⟨l, PF.key j, fun _ => j⟩
  · exact ⟨.string [], trivial, fun h => absurd h b⟩
 exact ⟨fun i => (a i).choose, fun i => (a i).choose_spec.1, fun i => (a i).choose_spec.2⟩
theorem zEN{y:Int × Int} (h : LP x = LP y) : x = y := by
 unfold LP at h;simp only[Value.agg.injEq, Array.mk.injEq, List.cons.injEq, Value.int.injEq, true_and, and_true]at h;exact Prod.ext h.1 h.2
variable{key:Nat -> Lit}
theorem El.same (h : El W key){j:Nat} (hi : i < (Au W (memN W)).length) (c : j < (Au W (memN W)).length) : key i = key j ↔ (Au W (memN W)).getD i (0, 0) = (Au W (memN W)).getD j (0, 0) := by
 have a := h.at_ i hi;have b := h.at_ j c;constructor
 · intro e
   rw[e]at a;exact zEN (PF.inj a b)
 · intro e
   rw[e, b]at a;exact (Option.some.inj a).symm
theorem El.dist (h : El W key) : H6 (Au W (memN W)).length key ↔ (Au W (memN W)).Nodup := by
 rw[List.Nodup, List.pairwise_iff_getElem];have a : ∀ i (hi : i < (Au W (memN W)).length), (Au W (memN W)).getD i (0, 0) = (Au W (memN W))[i] := fun i hi => by rw[List.getD_eq_getElem?_getD, List.getElem?_eq_getElem hi, Option.getD_some]
 constructor
 · intro b i j hi d c e
   refine b j d i c ((h.same hi d).2 ?_);rw[a i hi, a j d];exact e
 · intro b i hi k g e
   have := (h.same (by omega) hi).1 e;rw[a k (by omega), a i hi]at this;exact b k i (by omega) hi g this
/-- The map behind the first p homes. -/
def KK (key : Nat -> Lit) (p : Nat) : DataW Value := putD key (fun _ => .int .i64 1) p
variable{p:Nat}
theorem El.new (hn : ∀ i, i < p -> key i ≠ key p) (h : El W key) : (KK key p).atKey (key p) (.held (.int .i64 0)) = .held (.int .i64 0) := OL h.ok _ hn _
theorem El.old (hi : i < p) (d : key i = key p) (c : H6 p key) (h : El W key) : (KK key p).atKey (key p) (.held (.int .i64 0)) = .held (.int .i64 1) := by
 rw[<- d];exact Nc h.ok _ _ p i hi (fun j a b e => c j b i a e.symm)
theorem El.put (h : El W key) (p : Nat) (v : Value) : ((KK key p).put (key p) (.held v)).atKey (key p) (.held (.int .i64 0)) = .held v := atKey_put_same (L5 h.ok _ p).isMap (h.ok p) _ _
theorem El.not_nodup (hi : i < p) (b : p < (Au W (memN W)).length) (a : key i = key p) (h : El W key) : ¬ (Au W (memN W)).Nodup := fun hn => h.dist.2 hn p b i hi a
theorem El.size (h : El W key) (a : H6 p key) : Maps.size (KK key p) = p := (Qs h.ok _ p).2.2 a
theorem zDM(B v1:Value)(lo hi:Nat)(p:A8)(w:World)(F:EE w lo hi B v1 p) :
 Calls Tryz.prog 129 #[.agg #[B,v1]] w fun e w'=>e = .returned (.int .i64 (My p))/\Below w.heap.size w w':=by
 have C:Hid (EE w lo hi B v1 p):=F;obtain⟨⟨O,a,c,rfl,Y,L⟩,⟨P,E,c',rfl,Q,M⟩⟩:=F;unfold maxLen at O P;clear L M;have x:=A9 w (.cells #[.slice a p.n c,.slice E p.hn c'] 26);go_enter Tryz.func129,Tryz.ntmps129;go_wp2_with fail;refine(Zb _ _ lo hi p _ (C.out.A0 x)).mono ?_;rintro e I ⟨⟨t,rfl,g⟩,d⟩;have K:Hid (Ad I w.heap.size (.slice a p.n c) (.slice E p.hn c')):=(Ad.new w _ _ _).A0 d;have l:=A7 x d;clear x d;by_cases h:Ag p
 ·obtain rfl:t=true:=g.2 h;have u:Hid (Ag p):=h;have A:(p.n:Int)<=200:=(by have:=h.1;omega);clear g h;obtain⟨⟨T,U⟩,⟨V,W⟩⟩:=K.out;have v:Hid (My p=(roomN p.s p.n:Int)):=if_pos u.out;have J:Hid (Below w.heap.size w I):=l;go_wp2;clear T U V W l
  go_loopw [3,12] (fun m i wr=>∃k:Nat,k<=p.n/\i = .int .i64 k/\m = .int .i64 (roomN p.s k:Int)/\Below w.heap.size w wr) (fun _ i _=>p.n - (intOf i).toNat)
  case atStart=>exact⟨0,Nat.zero_le _,rfl,rfl,J.out⟩
  case round=>
   obtain⟨k,X,rfl,rfl,y⟩:=hrel;have N:=Nq p.s k;by_cases z:k<p.n
   ·have G:(k:Int)<(p.n:Int):=(by omega);obtain⟨b,off,H,kc,rfl,hs⟩:=(C.out.1.A0 y).cells z;have D:Hid (Jw wr b (off+k*3) lo hi H kc (p.s k)):=hs;obtain⟨R,q1,S,_⟩:=hs;go_wp2_with fail;have j:=A9 wr (.cells #[.int .i64 (p.s k).birth,.slice H (p.s k).kn kc,.string (p.s k).data] 75);refine(OS _ _ _ lo hi (p.s k) _ (D.out.slot.A0 j)).mono ?_;rintro e Z ⟨⟨t,rfl,g⟩,d⟩;have q:=A7 y (A7 j d);clear d R q1 S D j;by_cases o:An (p.s k)
    ·obtain rfl:t=true:=g.2 o;have r:Hid (An (p.s k)):=o;clear g o;go_wp2;go_roundw
     case rel=>exact⟨k+1,by omega,by go_num,congrArg (Value.int .i64) (by rw[Ju r.out];omega),q⟩
     case measure=>simp[intOf];omega
    ·obtain rfl:t=false:=Bc g o;have r:Hid (¬An (p.s k)):=o;clear g o;go_wp2;go_roundw
     case rel=>exact⟨k+1,by omega,by go_num,congrArg (Value.int .i64) (by rw[J2 r.out]),q⟩
     case measure=>simp[intOf];omega
   ·obtain rfl:k=p.n:=(by omega);go_wp2;go_ret;exact⟨by rw[v.out];rfl,y⟩
 ·obtain rfl:t=false:=Bc g h;have u:Hid (¬Ag p):=h;clear g h;go_wp2;go_ret;refine⟨?_,l⟩;have e:My p=0:=if_neg u.out;rw[e];rfl
variable{w1:World}{M:Nat}
theorem Jz{k:TypeId}{g o:Nat}(c:w.grownBy w1 (some M))(d:w.ownsMap P k CK M n D)(h:w.cell? ⟨g,o,none⟩=some v):w1.cell? ⟨g,o,none⟩=some v:=by
 refine(c.cell_far ⟨g,o,none⟩ (AZ h) ?_).trans h;intro e;simp only[Option.some.injEq]at e;subst e;obtain⟨i,a,b,-⟩:=d;simp[World.cell?,b]at h
theorem LH{w2:World}{row:Option Nat}(h:w.grownBy w1 row)(k:w1.grownBy w2 row):w.grownBy w2 row:=
 ⟨k.os.trans h.os,k.tape.trans h.tape,k.output.trans h.output,Nat.le_trans h.size k.size,fun i hi a=>(k.block i (Nat.lt_of_lt_of_le hi h.size) a).trans (h.block i hi a)⟩
theorem Ja.side{kt:TypeId}{lo hi:Nat}{vd:Nat->Value}(h:Ja w lo hi v W vd)(a:w.grownBy w1 (some M))(b:w.ownsMap P kt CK M n D)(i:Nat)(d:i<memN W) :
 ∃g c,v = .slice (some ⟨g,0,none⟩) (memN W) c/\w1.cell? ⟨g,i*5,none⟩=some (.int .i64 (AB W i).A6)/\w1.cell? ⟨g,i*5+1,none⟩=some (.int .i64 (AB W i).time)/\w1.cell? ⟨g,i*5+2,none⟩=some (.int .i64 (AB W i).rs)/\w1.cell? ⟨g,i*5+3,none⟩=some (.int .i64 (AB W i).rb)/\w1.cell? ⟨g,i*5+4,none⟩=some (vd i):=by
 obtain⟨g,c,e,j,k,l,m,o⟩:=h.cells i d;exact⟨g,c,e,Jz a b j,Jz a b k,Jz a b l,Jz a b m,Jz a b o⟩
theorem Aj.side{a0 a1 a2 a3 a4 a5:Value}(h:Aj w b a0 a1 a2 a3 a4 a5)(d:w.grownBy w1 (some M))(c:b≠M):Aj w1 b a0 a1 a2 a3 a4 a5:=by
 obtain⟨g,i,j,k,l,m⟩:=h;have a:∀{o:Nat} {v:Value},AJ w b o v->AJ w1 b o v:=fun a=>⟨(d.cell_far _ (AZ a.1) (fun e=>c (Option.some.inj e))).trans a.1,(d.frozen_far _ (AZ a.1) (fun e=>c (Option.some.inj e))).trans a.2⟩
 exact⟨a g,a i,a j,a k,a l,a m⟩
theorem zAq(v:Value)(s:AL)(w:World):(Instr.field 41 (DK v s) 4).run Tryz.prog w = .ok (.int .i64 s.time) w:=by kernel_rfl
theorem yH:Go.WideMaps.KeyLaw Tryz.prog 38:=deep_law_laid SJ (m:=5) (by decide) (SK (by kernel_rfl)) (by kernel_rfl) (by kernel_rfl)
theorem Lj:Tryz.prog.underlying 127=some (.map 38 2):=by kernel_rfl
theorem SR(w:World):(zeroValue 2).run Tryz.prog w = .ok (.int .i64 0) w:=by kernel_rfl
theorem XY{n:Int}(c:-9223372036854775808<=n)(d:n<9223372036854775808):IntKind.i64.wrap n=n:=by
 unfold IntKind.wrap;simp only[IntKind.signed,IntKind.bits,Bool.true_and];split
 ·rename_i a
  have b:=of_decide_eq_true a;omega
 ·rename_i a
  have b:=of_decide_eq_false (Bool.eq_false_iff.2 a);omega
theorem zAv{N r h:Nat}(d:r<=n)(hn:n<=200)(c:h<=9223372036854775807):((N:Int) == IntKind.i64.wrap (IntKind.i64.wrap ((n:Int) - (r:Int)) - (h:Int)))=true↔N+r+h=n:=by
 have a:IntKind.i64.wrap ((n:Int) - (r:Int))=(n:Int) - (r:Int):=XY (by omega) (by omega);rw[a];have b:IntKind.i64.wrap ((n:Int) - (r:Int) - (h:Int))=(n:Int) - (r:Int) - (h:Int):=XY (by omega) (by omega);rw[b,beq_iff_eq];omega
theorem Nz{ky:Value}{kl:Lit}(h:w.ownsMap Tryz.prog 38 CK b n D)(a:keyOf Tryz.prog 38 ky=some kl)(d:D.atKey kl (.held (.int .i64 0)) = .held v):(Instr.lookup 127 (.map (some b)) ky false).run Tryz.prog w = .ok v w:=by
 obtain⟨g,ps,c,hv⟩:=h.lookup PF Lj (SR w) (Fi _) a;have e:=Jq hv;rw[d]at e;obtain rfl:=DataW.held.inj e;exact c
theorem zD8(T v1 U X:Value)(lo hi:Nat)(W:A5)(A:Nat)(w:World)(h:BR w lo hi T v1 U X W)(hs:W.sn<=8)(hp:W.pn<=20)(hA:Fj w lo hi W A)(hD:Iv W)(aD:E7 W)(hR:Ag W.pool)(hT:Pw W)(iB:∀i,i<memN W->As W.pool (AB W i).rs (AB W i).rb) :
 Calls Tryz.prog 78 #[BS T v1 U X W,Kb A] w fun e w'=>AG (M2 W) e/\Below w.heap.size w w':=by
 obtain⟨key,hK⟩:=zDo hR iB;have Y:=A4 hK;have Hp:=A4 h;have HA:=A4 hA;have HD:=A4 hD;have bE:=A4 aD;have HR:=A4 hR;have oD:=A4 hT;have pD:=A4 iB;clear h hA hD aD hR hT iB hK;have ha:=A9 w (.cells #[T,v1,.int .i64 W.time,.int .i64 W.next,U,X] 30);have HB:=A4 (Aj.new w T v1 (.int .i64 W.time) (.int .i64 W.next) U X 30);have tB:(w.alloc (.cells #[T,v1,.int .i64 W.time,.int .i64 W.next,U,X] 30)).heap.size=w.heap.size+1:=World.size_alloc _ _;have hm:=World.ownsMap_made (w.alloc (.cells #[T,v1,.int .i64 W.time,.int .i64 W.next,U,X] 30)) Tryz.prog 38 CK;rw[tB]at hm;have HM:=A4 hm;have aA:=A4 (HB.out.A0 (A9 _ (.map #[] 0)));have bA:=A4 (A7 ha (A9 _ (.map #[] 0)));have tG:=@run_makeMap Tryz.prog;obtain⟨x0,x2,x4,x6,x8,tE⟩:=aA.out.c;clear hm;go_enter Tryz.func78,Tryz.ntmps78;go_wp2_with fail;go_step3;go_wp2_with fail;go_step3;go_wp2_with fail;clear x0 x2 x4 x6 x8 tE ha HB;have gB:=A4 (show((w.alloc (.cells #[T,v1,.int .i64 W.time,.int .i64 W.next,U,X] 30)).alloc (.map #[] 0)).heap.size=w.heap.size+2 by rw[World.size_alloc,tB]);clear tB;generalize (w.alloc (.cells #[T,v1,.int .i64 W.time,.int .i64 W.next,U,X] 30)).alloc (.map #[] 0)=W0 at HM aA bA gB ⊢;refine(Rt T v1 U X lo hi W W0 (Hp.out.A0 bA.out) hs hp).mono ?_;rintro e w1 ⟨vm,vd,rfl,hm,K⟩;have bC:=A4 hm;have cC:=A4 (aA.out.A0 K);have aC:=A4 (HM.out.kept (Dy K none) (by simp));have eE:=A7 bA.out K;have hz:w.heap.size+2<=w1.heap.size:=by have h1:=K.size;have h2:=gB.out;omega
 obtain⟨am,cm,rfl,pG⟩:=id hm.C5;have vG:memN W<=28:=by unfold memN;omega
 clear K hm aA bA HM gB;go_wp2
 go_loopw [6,15] (fun s i wr=>∃k:Nat,k<=memN W/\s = .bool true/\i = .int .i64 k/\wr.ownsMap Tryz.prog 38 CK (w.heap.size+1) (Au W k).length (KK key (Au W k).length)/\H6 (Au W k).length key/\w1.grownBy wr (some (w.heap.size+1))/\Below w.heap.size w wr) (fun _ i _=>memN W - (intOf i).toNat)
 case atStart=>exact⟨0,Nat.zero_le _,rfl,rfl,aC.out,fun i hi=>absurd hi (Nat.not_lt_zero _),World.grownBy.refl _ _,eE⟩
 case round=>
  obtain⟨k,hk,rfl,rfl,B,M,O,hb⟩:=hrel;have b:=A4 B;have C:=A4 M;have d:=A4 O;clear B M O;by_cases P:k<memN W;rotate_left
  ·obtain rfl:k=memN W:=(by omega);obtain⟨⟨m0,a0,c0,rfl,sH,-⟩,⟨m1,a1,c1,rfl,tH,-⟩⟩:=id Hp.out.pool;have sB:=Y.out.size C.out;have rC:=(b.out.kept (Dy ((Below.refl _ _).drew) none) (by simp)).len Lj 3;rw[sB]at rC;have aE:=A4 sB;clear sB;have Q:=Nq W.pool.s W.pool.n;have pA:=HR.out.1;unfold maxLen at m0 m1;have m:=A4 (cC.out.side d.out (by omega));obtain⟨x0,x1,x2,x3,x4,x5⟩:=m.out.c;have mD:=A4 (Y.out.dist.1 C.out);have nE:My W.pool=(roomN W.pool.s W.pool.n:Int):=if_pos HR.out;generalize hN:(Au W (memN W)).length=N at *;have HN:=A4 hN;clear hN;go_wp2_with fail;go_region_held3 (fun w'=>w'.cell? ⟨w.heap.size,0,none⟩=some (.slice a0 W.pool.n c0)/\w'.cell? ⟨w.heap.size,1,none⟩=some (.slice a1 W.pool.hn c1)/\(Builtin.len_ #[127] 3 #[.map (some (w.heap.size+1))]).run Tryz.prog w' = .ok (.int .i64 (N:Nat)) w') (go_keep)
    (first
     | (go_at_call 129;refine(zDM _ _ lo hi W.pool _ ((Hp.out.A0 hb).pool.A0 (Below.refl _ _).drew)).mono ?_;rintro e w5 ⟨rfl,fA⟩;have v:=Cp fA;obtain⟨⟨k0,_⟩,⟨k1,_⟩,_⟩:=m.out.A0 v;have pC:=(b.out.kept (Dy v none) (by simp)).len Lj 3;rw[aE.out]at pC))
   have sA:=zAv (N:=N) Q pA (by omega:W.pool.hn<=9223372036854775807);have jC:=A4 sA;have iE:=A7 hb v;clear sA rC pC nE Q pA;go_wp2
   try rw[Exit.noGoto_ret]
   go_ret;refine⟨⟨_,rfl,?_⟩,iE⟩;rw[jC.out];unfold M2;rw[HN.out];exact⟨fun Z=>⟨mD.out,Z⟩,fun Z=>Z.2⟩
  have jF:(k:Int)<(memN W:Int):=(by omega);obtain⟨g,cg,e,q0,q1,q2,q3,q4⟩:=bC.out.side d.out aC.out k P;obtain⟨-,ad,cd,vC,-,-⟩:=id (bC.out.dead k P);rw[vC]at q4;cases e;have o:=A9 wr (.cells #[.int .i64 (AB W k).A6,.int .i64 (AB W k).time,.int .i64 (AB W k).rs,.int .i64 (AB W k).rb,.slice ad (AB W k).dn cd] 161);have I:=A4 (G3.new wr (.int .i64 (AB W k).A6) (.int .i64 (AB W k).time) (.int .i64 (AB W k).rs) (.int .i64 (AB W k).rb) (.slice ad (AB W k).dn cd) 161);have m:=A4 ((cC.out.side d.out (by omega)).A0 o);have eA:=A7 hb o;have D:=A4 (b.out.kept (Dy o none) (by simp));have H:=A4 (LH d.out (Dy o (some (w.heap.size+1))));have tA:=A4 (HA.out.A0 eA);have cB:=A4 (Hp.out.A0 eA);have cE:=A4 (bE.out k P);have aB:=A4 (pD.out k P);have eB:=A4 (oD.out (AB W k).A6);have fB:=A4 (show CO W (AB W k)=EG (AF W.pool (AB W k).rs (AB W k).rb) (AC W (AB W k).A6).time from rfl);have nA:=A4 (show(Au W (k+1)).length=(Au W k).length+(CO W (AB W k)).length from List.length_append);have rD:=A4 (fun (j:Nat) (hj:j<(CO W (AB W k)).length)=>zFS W (k:=k) (n:=memN W) P hj);have dE:=A4 (Xb W (AB W k));have tD:=A4 (Vt W k);clear vC o d b;generalize AB W k=mk at *;go_wp2_with fail;clear q0 q1 q2 q3 q4;have J:=A4 (show w.heap.size+2<=(wr.alloc (.cells #[.int .i64 mk.A6,.int .i64 mk.time,.int .i64 mk.rs,.int .i64 mk.rb,.slice ad mk.dn cd] 161)).heap.size from Nat.le_trans hz H.out.size);generalize wr.alloc (.cells #[.int .i64 mk.A6,.int .i64 mk.time,.int .i64 mk.rs,.int .i64 mk.rb,.slice ad mk.dn cd] 161)=W2 at I m tA cB eA D H J ⊢;generalize wr.heap.size=V at I ⊢;obtain⟨⟨y0,-⟩,⟨y1,-⟩,⟨y2,-⟩,⟨y3,-⟩,⟨y4,-⟩⟩:=I.out;obtain⟨x0,x1,x2,x3,x4,x5⟩:=m.out.c;have oE:=De W.pool mk.rs mk.rb;have vA:=A4 (show Bq (AF W.pool mk.rs mk.rb).length (AO (AF W.pool mk.rs mk.rb)) (AS (AF W.pool mk.rs mk.rb))from Oo HR.out (fun x Z=>(Fs HR.out aB.out Z).1) (Mo HR.out aB.out) (by omega));have jE:=YM;have kE:=zAq;generalize kC:AC W mk.A6=S at eB fB ⊢;have kD:=A4 kC;clear kC;generalize lC:AF W.pool mk.rs mk.rb=tree at vA oE fB ⊢;have nD:=A4 lC;clear lC;go_region_held3 (fun w'=>w'.cell? ⟨w.heap.size,0,none⟩=some T/\w'.cell? ⟨w.heap.size,1,none⟩=some v1/\w'.cell? ⟨w.heap.size,2,none⟩=some (.int .i64 W.time)/\w'.cell? ⟨w.heap.size,3,none⟩=some (.int .i64 W.next)/\w'.cell? ⟨w.heap.size,4,none⟩=some U/\w'.cell? ⟨w.heap.size,5,none⟩=some X/\w'.cell? ⟨V,0,none⟩=some (.int .i64 mk.A6)/\w'.cell? ⟨V,2,none⟩=some (.int .i64 mk.rs)/\w'.cell? ⟨V,3,none⟩=some (.int .i64 mk.rb)) (go_keep)
   (first
    | (go_at_call 128;refine(LA T v1 U X lo hi W mk.rs mk.rb _ ?_ HR.out aB.out).mono ?_;(exact cB.out.A0 (Below.refl _ _).drew);rintro e w5 ⟨vt,rfl,jA,fA⟩;rw[nD.out]at jA;obtain⟨gG,iG,rfl,-⟩:=CV jA;have v:=Cp fA;obtain⟨⟨k0,_⟩,⟨k1,_⟩,⟨k2,_⟩,⟨k3,_⟩,⟨k4,_⟩,⟨k5,_⟩⟩:=m.out.A0 v;obtain⟨⟨l0,_⟩,_,⟨l2,_⟩,⟨l3,_⟩,_⟩:=I.out.A0 v)
    | (go_at_call 122;refine(Jy lo hi W A mk.A6 _ (tA.out.A0 v) HD.out cE.out hp).mono ?_;rintro e w6 ⟨aa,ca,rfl,mE,jB⟩;rw[kD.out];have dA:=A7 v jB;obtain⟨⟨f0,_⟩,⟨f1,_⟩,⟨f2,_⟩,⟨f3,_⟩,⟨f4,_⟩,⟨f5,_⟩⟩:=m.out.A0 dA;obtain⟨⟨g0,_⟩,_,⟨g2,_⟩,⟨g3,_⟩,_⟩:=I.out.A0 dA)
    | (go_at_call 127;refine(ZG _ tree.length 0 _ (AO tree) (AS tree) S.time _ ((jA.A0 jB).atW (by omega))).mono ?_;rintro e w7 ⟨vy,vz,ly,lz,rfl,hY,-,hy,-,-,mC⟩;rw[(hY.1 ⟨vA.out,eB.out⟩).trans (Um tree S.time)]at hy;rw[<-fB.out]at hy;obtain⟨ay,cy,rfl,rG⟩:=CV hy;have z:=A7 dA mC;obtain⟨⟨m0,_⟩,⟨m1,_⟩,⟨m2,_⟩,⟨m3,_⟩,⟨m4,_⟩,⟨m5,_⟩⟩:=m.out.A0 z;obtain⟨⟨n0,_⟩,_,⟨n2,_⟩,⟨n3,_⟩,_⟩:=I.out.A0 z))
  have HY:=A4 hy;have E:=A4 (D.out.kept (Dy z none) (by simp));have dC:=A4 (LH H.out (Dy z (some (w.heap.size+1))));have cG:=A4 (m.out.A0 z);have F:=A7 eA z;have eH:w.heap.size+2<=w7.heap.size:=Nat.le_trans J.out z.size;have cH:=dE.out;have sG:=tD.out;clear hy z mC dA jB v fA jA mE hY m I tA cB D H J vA eB jE kE x0 x1 x2 x3 x4 x5 y0 y1 y2 y3 y4 k0 k1 k2 k3 k4 k5 l0 l2 l3 f0 f1 f2 f3 f4 f5 g0 g2 g3 m0 m1 m2 m3 m4 m5 n0 n2 n3;generalize bH:CO W mk=yl at *;go_wp2_with fail
  go_loopw [6,31] (fun s i wr=>∃j:Nat,j<=yl.length/\s = .bool true/\i = .int .i64 j/\wr.ownsMap Tryz.prog 38 CK (w.heap.size+1) ((Au W k).length+j) (KK key ((Au W k).length+j))/\H6 ((Au W k).length+j) key/\w7.grownBy wr (some (w.heap.size+1))/\Below w.heap.size w wr) (fun _ i _=>yl.length - (intOf i).toNat)
  case atStart=>exact⟨0,Nat.zero_le _,rfl,rfl,E.out,C.out,World.grownBy.refl _ _,F⟩
  case round=>
   clear F;obtain⟨j,hj,rfl,rfl,B,nC,O,F⟩:=hrel;have b:=A4 B;have cA:=A4 nC;have d:=A4 O;clear B nC O;by_cases mB:j<yl.length;rotate_left
   ·obtain rfl:j=yl.length:=(by omega);go_wp2;go_roundw
    case rel=>
     refine⟨k+1,by omega,rfl,by go_num,?_,?_,LH dC.out d.out,F⟩
     ·rw[nA.out];exact b.out
     ·rw[nA.out];exact cA.out
    case measure=>simp[intOf];omega
   have iF:(j:Int)<(yl.length:Int):=(by omega);obtain⟨-,a7,c7,e7,-,L⟩:=id (HY.out.atW (by omega));cases e7;obtain⟨b7,o7,rfl,-,-,L⟩:=L (by omega);have q0:=Jz d.out E.out (L j mB).1;have q1:=Jz d.out E.out (L j mB).2;clear L;obtain⟨rB,sC⟩:=rD.out j mB;have rA:keyOf Tryz.prog 38 (.agg #[.int .i64 (AO yl j),.int .i64 (AS yl j)])=some (key ((Au W k).length+j)):=by
    have:=Y.out.at_ _ rB;rw[sC]at this;exact this
   have vD:=A4 rB;have t:=A4 rA;clear sC rB rA;have o:=A9 wr (.cells #[.int .i64 (AO yl j),.int .i64 (AS yl j)] 38);have I:=A4 (Ad.new wr (.int .i64 (AO yl j)) (.int .i64 (AS yl j)) 38);have l:=A4 ((b.out.kept (Dy o none) (by simp)).kept (Dy ((Below.refl _ _).drew) none) (by simp));have mA:=A4 (LH d.out (Dy o (some (w.heap.size+1))));have G:=A7 F o;have y:=A4 (show w.heap.size+1<wr.heap.size by have:=d.out.size;omega);clear o d b;have aH:(Au W k).length+j<=3000:=(by omega);generalize tC:(Au W k).length+j=p at *;have iC:=A4 tC;clear tC;generalize AO yl j=xs at *;generalize AS yl j=xb at *;go_wp2_with fail;clear q0 q1;generalize wr.alloc (.cells #[.int .i64 xs,.int .i64 xb] 38)=W3 at I l mA G ⊢;generalize wr.heap.size=V at I y ⊢;by_cases u:∀i,i<p->key i≠key p
   ·have nB:=Nz l.out t.out (Y.out.new u);obtain⟨ev,st,wa,wb,he,oB,R,a,lB,r⟩:=XX l.out yH Lj (by unfold maxLen;omega) SR t.out (Y.out.new u) (val:=.int .i64 1);obtain⟨⟨y0,-⟩,⟨y1,-⟩⟩:=I.out.A0 ((Below.refl _ _).drew);have z0:=(r.cell_far _ (AZ y0) (fun e=>by have h1:=Option.some.inj e;have h2:=y.out;simp only at h1;omega)).trans y0;have z1:=(r.cell_far _ (AZ y1) (fun e=>by have h1:=Option.some.inj e;have h2:=y.out;simp only at h1;omega)).trans y1;have lE:=Nz a t.out (Y.out.put p _);have bB:=A4 a;have sD:=A4 (LH (LH mA.out (Dy ((Below.refl _ _).drew) (some (w.heap.size+1)))) r);have kB:=G.drew.grown r (Nat.le_trans G.size (Nat.le_refl _)) (fun q e=>by cases e;omega);have eC:=A4 u;clear a lB r u G F;unfold goInt at he R;go_region;clear nB oB he R y0 y1;go_wp2;go_roundw
    case rel=>exact⟨j+1,by omega,rfl,by go_num,by rw[show(Au W k).length+(j+1)=p+1 by have:=iC.out;omega];exact bB.out,by rw[show(Au W k).length+(j+1)=p+1 by have:=iC.out;omega];exact RP.2 ⟨cA.out,eC.out⟩,sD.out,kB⟩
    case measure=>simp[intOf];omega
   ·obtain⟨i0,iA,gA⟩:∃i,i<p/\key i=key p:=by
     by_cases Z:∃i,i<p/\key i=key p
     ·exact Z
     ·exact absurd (fun i hi e=>Z ⟨i,hi,e⟩) u
    have fC:=A4 (Y.out.not_nodup iA vD.out gA);have nB:=Nz l.out t.out (Y.out.old iA gA cA.out);obtain⟨ev,st,wa,wb,he,oB,R,a,lB,r⟩:=XX l.out yH Lj (by unfold maxLen;omega) SR t.out (Y.out.old iA gA cA.out) (val:=.int .i64 2);obtain⟨⟨y0,-⟩,⟨y1,-⟩⟩:=I.out.A0 ((Below.refl _ _).drew);have z0:=(r.cell_far _ (AZ y0) (fun e=>by have h1:=Option.some.inj e;have h2:=y.out;simp only at h1;omega)).trans y0;have z1:=(r.cell_far _ (AZ y1) (fun e=>by have h1:=Option.some.inj e;have h2:=y.out;simp only at h1;omega)).trans y1;have lE:=Nz a t.out (Y.out.put p _);have kB:=G.drew.grown r (Nat.le_trans G.size (Nat.le_refl _)) (fun q e=>by cases e;omega);clear a lB r u G F iA gA;unfold goInt at he R;go_region;clear nB oB he R y0 y1;go_wp2_with fail;go_region;go_wp2;rw[Exit.noGoto_ret];go_ret;exact⟨AG.no fun Z=>fC.out Z.1,kB.drew⟩
end
end Go.Proofs.YtibhefllijahkaaGreatDoor

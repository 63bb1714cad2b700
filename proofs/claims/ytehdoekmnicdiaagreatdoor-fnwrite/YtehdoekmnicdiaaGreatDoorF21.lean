/- A part of the proof. -/
import Derived.LaidEql
import Derived.Stop.Asserts
import Derived.RowKitTokens
import Derived.Test.YtehdoekmnicdiaaGreatDoorF20
set_option linter.unusedVariables false
set_option maxRecDepth 20000
set_option maxHeartbeats 4000000
namespace Go.Proofs.YtehdoekmnicdiaaGreatDoor
noncomputable section
open Go.RowKit Go.Extern.Stop Go.Stop Go.Extern
theorem AO{P:Prop}(h:P):Hid P:=h
abbrev Ax(a:Addr):Value:=.iface 230 (.pointer (some a))
def errG:Nat->Nat
 | 0=>2
 | 1=>1
 | 2=>0
 | 3=>3
 | 4=>4
 | 5=>5
 | _=>6
def CZ:Nat->Int
 | 0=>1
 | 1=>2
 | 2=>4
 | 3=>5
 | 4=>6
 | 5=>7
 | _=>8
structure DC (w:World) (p:Nat->Addr):Prop where
 cell:∀i,i<7->w.cell? ⟨errG i,0,none⟩=some (Ax (p i))
 row:∀i,i<7->∃cs t,w.heap[(p i).block]?=some (.cells cs t (0,0))
 ne:∀i j,i<7->j<7->i≠j->p i≠p j
variable{w:World}
theorem DC.A0{w':World}{p:Nat->Addr}(h:DC w p)(t:Below w.heap.size w w'):DC w' p:=
 ⟨fun i hi=>(t.cell (AZ (h.cell i hi))).trans (h.cell i hi),fun i hi=>by
  obtain⟨cs,ty,a⟩:=h.row i hi;exact⟨cs,ty,(t.block _ (Array.getElem?_eq_some_iff.1 a).1).trans a⟩,h.ne⟩
theorem Uv(v:Value)(w:World):(Extern.ReflectliteType.typeOf #[.iface 230 v]).run Tryz.prog w = .ok (.iface 219 (.agg #[.pointer (some ⟨7,230,none⟩)])) w:=by kernel_rfl
def SP:Array Value->Sem Value:=Extern.ReflectliteType.method fun t=>do Extern.Rtype.noPackHeld "Comparable" t;pure (.bool (<-typeInfo t).comparable)
theorem Z3(w:World):(SP #[.agg #[.pointer (some ⟨7,230,none⟩)]]).run Tryz.prog w = .ok (.bool true) w:=by kernel_rfl
theorem Zd(v:Value)(w:World):(Go.method 368 219 v "Comparable").run Tryz.prog w = .ok (208,v) w:=by kernel_rfl
theorem Zl:(Tryz.prog.info? 230).map (·.comparable)=some true:=by kernel_rfl
theorem Zx:(Tryz.prog.info? 256).map (·.size)=some 1:=by kernel_rfl
theorem zIY(v:Value)(a:TypeId)(w:World):(Instr.typeAssert (.iface 230 v) a 221 true).run Tryz.prog w = .ok (.tuple #[.nilIface,.bool false]) w:=run_typeAssert_lacksB Tryz.underlying221 (by kernel_rfl) (by kernel_rfl) v a w
theorem zDf(v:Value)(a:TypeId)(w:World):(Instr.typeAssert (.iface 230 v) a 224 true).run Tryz.prog w = .ok (.tuple #[.nilIface,.bool false]) w:=run_typeAssert_lacksB Tryz.underlying224 (by kernel_rfl) (by kernel_rfl) v a w
theorem zAi(v:Value)(a:TypeId)(w:World):(Instr.typeAssert (.iface 230 v) a 226 true).run Tryz.prog w = .ok (.tuple #[.nilIface,.bool false]) w:=run_typeAssert_lacksB Tryz.underlying226 (by kernel_rfl) (by kernel_rfl) v a w
theorem zG8(a:Addr)(w:World):Calls Tryz.prog 130 #[Ax a,Ax a] w fun e w'=>e = .returned (.bool true)/\w'=w:=by
 obtain⟨i,hi,b⟩:=Option.map_eq_some_iff.1 Zl;obtain⟨j,f,g⟩:=Option.map_eq_some_iff.1 Zx;have k:=@run_callFunc_extern Tryz.prog 170 _ Extern.ReflectliteType.typeOf Tryz.func170 (by kernel_rfl) (by kernel_rfl) (by kernel_rfl) (by kernel_rfl);have c:=@run_callFunc_extern Tryz.prog 208 _ SP Tryz.func208 (by kernel_rfl) (by kernel_rfl) (by kernel_rfl) (by kernel_rfl);have tT:=Uv;have h:=Z3;have l:=Zd;have d:=run_eql_iface_ptr_same (P:=Tryz.prog) w a Tryz.underlying61 Tryz.underlying230 hi b f;go_enter Tryz.func130,Tryz.ntmps130;go_wp2;refine wp_loop_rounds 1 ?_;rw[rounds_succ];go_wp2;go_ret;exact⟨rfl,rfl⟩
theorem zF1(a b:Addr)(g h:Array Value)(p tb:TypeId)(w:World)(f:a≠b)(l:w.heap[a.block]?=some (.cells g p (0,0)))(m:w.heap[b.block]?=some (.cells h tb (0,0))):Calls Tryz.prog 130 #[Ax a,Ax b] w fun e w'=>e = .returned (.bool false)/\w'=w:=by
 obtain⟨i,hi,c⟩:=Option.map_eq_some_iff.1 Zl;obtain⟨j,o,d⟩:=Option.map_eq_some_iff.1 Zx;have r:=@run_callFunc_extern Tryz.prog 170 _ Extern.ReflectliteType.typeOf Tryz.func170 (by kernel_rfl) (by kernel_rfl) (by kernel_rfl) (by kernel_rfl);have k:=@run_callFunc_extern Tryz.prog 208 _ SP Tryz.func208 (by kernel_rfl) (by kernel_rfl) (by kernel_rfl) (by kernel_rfl);have tT:=Uv;have q:=Z3;have s:=Zd;have t:=zIY;have u:=zDf;have v:=zAi;have n:=run_eql_iface_ptr_other (P:=Tryz.prog) w Tryz.underlying61 Tryz.underlying230 hi c o (by rw[d];decide) f l m;go_enter Tryz.func130,Tryz.ntmps130;go_wp2;refine wp_loop_rounds 1 ?_;rw[rounds_succ];go_wp2;go_ret;exact⟨rfl,rfl⟩
def LC(p:Nat->Addr):Array Value:=#[Ax (p 0),.int .i64 1,Ax (p 1),.int .i64 2,Ax (p 2),.int .i64 4,Ax (p 3),.int .i64 5,Ax (p 4),.int .i64 6,Ax (p 5),.int .i64 7,Ax (p 6),.int .i64 8]
variable{i:Nat}
theorem Th(p:Nat->Addr)(hi:i<7):(LC p)[i*2]?=some (Ax (p i))/\(LC p)[i*2+1]?=some (.int .i64 (CZ i)):=by
 match i,hi with
 | 0,_=>exact⟨rfl,rfl⟩
 | 1,_=>exact⟨rfl,rfl⟩
 | 2,_=>exact⟨rfl,rfl⟩
 | 3,_=>exact⟨rfl,rfl⟩
 | 4,_=>exact⟨rfl,rfl⟩
 | 5,_=>exact⟨rfl,rfl⟩
 | 6,_=>exact⟨rfl,rfl⟩
theorem Z9(p:Nat->Addr)(w:World)(h:DC w p):Calls Tryz.prog 111 #[] w fun e w'=>e = .returned (.slice (some ⟨w.heap.size,0,none⟩) 7 7)/\w'=w.alloc (.cells (LC p) 162):=by
 have a:w.cell? ⟨2,0,none⟩=some (Ax (p 0)):=h.cell 0 (by omega);have b:w.cell? ⟨1,0,none⟩=some (Ax (p 1)):=h.cell 1 (by omega);have c:w.cell? ⟨0,0,none⟩=some (Ax (p 2)):=h.cell 2 (by omega);have d:w.cell? ⟨3,0,none⟩=some (Ax (p 3)):=h.cell 3 (by omega);have f:w.cell? ⟨4,0,none⟩=some (Ax (p 4)):=h.cell 4 (by omega);have g:w.cell? ⟨5,0,none⟩=some (Ax (p 5)):=h.cell 5 (by omega);have i:w.cell? ⟨6,0,none⟩=some (Ax (p 6)):=h.cell 6 (by omega);clear h;go_enter Tryz.func111,Tryz.ntmps111;go_wp2;go_ret;exact⟨rfl,rfl⟩
structure Bk where
 world:A4
 id:Int
 many:Int
 code:Int
abbrev zIo(v0 v1 v2 v3:Value)(o:Bk):Value:=.agg #[v0,v1,.int .i64 o.world.time,.int .i64 o.world.next,v2,v3,.int .i64 o.id,.int .i64 o.many,.int .i64 o.code]
def Iw(o:Bk)(w:World)(e:Ending)(w':World):Prop:=∃v0 v1 v2 v3,e = .returned (zIo v0 v1 v2 v3 o)/\EY w' w.heap.size w'.heap.size v0 v1 v2 v3 o.world/\Below w.heap.size w w'
theorem Bd.six{b:Nat}{v0 v1 v2 v3 v4 v5 v6 v7 v8:Value}(h:Bd w b v0 v1 v2 v3 v4 v5 v6 v7 v8)(d f u2 u3 u4 g:Value):Bd (put6 w b d f u2 u3 u4 g) b d f u2 u3 u4 g v6 v7 v8:=
 have H (i j:Nat) (u v:Value) (e:[d,f,u2,u3,u4,g][i]?=some u) (a:0+i=j) (c:AN w b j v):AN (Mk w b 0 [d,f,u2,u3,u4,g]) b j u:=Li [d,f,u2,u3,u4,g] w 0 i j e a c;have K (j:Nat) (v:Value) (a:j<0\/6<=j) (c:AN w b j v):AN (Mk w b 0 [d,f,u2,u3,u4,g]) b j v:=QN [d,f,u2,u3,u4,g] w 0 c a
 ⟨H 0 0 _ _ rfl rfl h.1,H 1 1 _ _ rfl rfl h.2.1,H 2 2 _ _ rfl rfl h.2.2.1,H 3 3 _ _ rfl rfl h.2.2.2.1,H 4 4 _ _ rfl rfl h.2.2.2.2.1,H 5 5 _ _ rfl rfl h.2.2.2.2.2.1,K 6 _ (by omega) h.2.2.2.2.2.2.1,K 7 _ (by omega) h.2.2.2.2.2.2.2.1,K 8 _ (by omega) h.2.2.2.2.2.2.2.2⟩
theorem AN.under{w':World}{B b o:Nat}{v:Value}(h:AN w b o v)(t:Below B w w')(a:b<B):AN w' b o v:=⟨(t.cell (p:=⟨b,o,none⟩) a).trans h.1,(t.frozen (p:=⟨b,o,none⟩) a).trans h.2⟩
def BQ(c:Int):Bk:=⟨noW,0,0,c⟩
def Et(r:Option Nat)(o:Bk):Bk:=match r with
 | some i=>BQ (CZ i)
 | none=>o
variable{l:List (Int×Int)}
theorem yx(hi:i<l.length):(AK l i,AM l i)=l[i]:=by
 unfold AK AM;rw[List.getD_eq_getElem?_getD,List.getElem?_eq_getElem hi];rfl
variable{p:A5}
theorem CP.ptrs(h:CP p l)(r:l.length<=200):Cc l.length (AK l) (AM l):=by
 refine⟨by omega,fun i hi=>?_,fun i hi k q e=>?_⟩
 ·have m:(AK l i,AM l i)∈l:=(by rw[yx hi];exact List.getElem_mem hi);have a:=(h.2.1 _ m).1;have g:=Er h.1 a;have f:=g.1;have n:=h.1.1;unfold B5 at a;unfold DM at f;unfold FP;dsimp only at a f ⊢;have o:=a.2.2.2;omega
 ·have hn:=h.2.2;have hi':i<(l.map Prod.fst).length:=(by rw[List.length_map];exact hi);have c:k<(l.map Prod.fst).length:=(by rw[List.length_map];omega);have d:∀j (b:j<(l.map Prod.fst).length),(l.map Prod.fst)[j]=AK l j:=fun j b=>by
   rw[List.length_map]at b;rw[List.getElem_map];unfold AK;rw[List.getD_eq_getElem?_getD,List.getElem?_eq_getElem b];rfl
  have:=(List.getElem_inj (h₀:=c) (h₁:=hi') hn).1 (by rw[d,d];exact e);omega
theorem XC(l:List (Int×Int)):((List.range l.length).map fun i=>(AK l i,AM l i))=l:=by
 refine List.ext_getElem (by simp) (fun i b a=>?_);rw[List.getElem_map,List.getElem_range];exact yx a
def Bx(n:Nat)(f g:Nat->Int):List (Int×Int):=(List.range n).map fun i=>(f i,g i)
theorem Jn(n:Nat)(f g:Nat->Int):(Bx n f g).length=n:=by
 unfold Bx;rw[List.length_map,List.length_range]
variable{n:Nat}
theorem QO(f g:Nat->Int)(hi:i<n):AK (Bx n f g) i=f i/\AM (Bx n f g) i=g i:=by
 unfold AK AM Bx;rw[List.getD_eq_getElem?_getD,List.getElem?_map,List.getElem?_range hi];exact⟨rfl,rfl⟩
theorem Uj(f g:Nat->Int)(t:Int):∀n,(C5 f g t n).length<=n
 | 0=>Nat.le_refl _
 | n+1=>by
  have:=Uj f g t n;unfold C5;split
  ·omega
  ·rw[List.length_append,List.length_singleton];omega
variable{x:Int}
theorem J8:x∈Bi l↔∃y,(x,y)∈l:=by
 unfold Bi;rw[List.mem_map];constructor
 ·rintro⟨⟨a,b⟩,h,rfl⟩;exact⟨b,h⟩
 ·rintro⟨y,h⟩;exact⟨(x,y),h,rfl⟩
variable{xs xb:Int}
theorem ZD:x∈Bi (one xs xb)↔x=xs/\¬Nil xs xb:=by
 rw[J8];constructor
 ·rintro⟨y,h⟩;obtain⟨e,hn⟩:=Q7.1 h;simp only[Prod.mk.injEq]at e;exact⟨e.1,hn⟩
 ·rintro⟨rfl,hn⟩;exact⟨xb,Q7.2 ⟨rfl,hn⟩⟩
variable{k:Nat}
theorem P9{ks kb:Nat->Int}:x∈Bi (kidsUp ks kb k)↔∃i,i<k/\x=ks i/\¬Nil (ks i) (kb i):=by
 rw[J8];constructor
 ·rintro⟨y,h⟩;obtain⟨i,hi,e,hn⟩:=Gn.1 h;simp only[Prod.mk.injEq]at e;exact⟨i,hi,e.1,hn⟩
 ·rintro⟨i,hi,rfl,hn⟩;exact⟨kb i,Gn.2 ⟨i,hi,rfl,hn⟩⟩
theorem zDj(xs xb:Int):(Bi (one xs xb)).Nodup:=by
 unfold one Bi;split<;>simp
theorem Oz{ks kb:Nat->Int}:∀{k:Nat},(Bi (kidsUp ks kb k)).Nodup↔∀i,i<k->∀j,j<i->¬Nil (ks i) (kb i)->¬Nil (ks j) (kb j)->ks j≠ks i
 | 0=>by simp[kidsUp,Bi]
 | k+1=>by
  rw[kidsUp,L9,List.nodup_append,Oz (k:=k)];constructor
  ·rintro⟨g,_,l⟩ i hi j c f d;by_cases e:i=k
   ·subst e;exact l _ (P9.2 ⟨j,c,rfl,d⟩) _ (ZD.2 ⟨rfl,f⟩)
   ·exact g i (by omega) j c f d
  ·intro h;refine⟨fun i hi j c=>h i (by omega) j c,zDj _ _,fun a m b n=>?_⟩;obtain⟨j,c,rfl,d⟩:=P9.1 m;obtain⟨rfl,o⟩:=ZD.1 n;exact h k (Nat.lt_succ_self k) j c o d
theorem Ym{p:A5}{s:AG}:∀{k:Nat},(Bi (CN p s k)).Nodup↔(∀i,i<k->(Bi (Cg p (AH s i) (AT s i))).Nodup)/\∀i,i<k->∀j,j<i->∀x,x∈Bi (Cg p (AH s j) (AT s j))->∀y,y∈Bi (Cg p (AH s i) (AT s i))->x≠y
 | 0=>by simp[CN,Bi]
 | k+1=>by
  rw[CN,L9,List.nodup_append,Ym (k:=k)];constructor
  ·rintro⟨⟨c,d⟩,n,o⟩;refine⟨fun i hi=>?_,fun i hi j f x l y m=>?_⟩
   ·by_cases e:i=k
    ·subst e;exact n
    ·exact c i (by omega)
   ·by_cases e:i=k
    ·subst e;obtain⟨z,g⟩:=J8.1 l;exact o x (J8.2 ⟨z,Gj.2 ⟨j,f,g⟩⟩) y m
    ·exact d i (by omega) j f x l y m
  ·rintro⟨c,d⟩;refine⟨⟨fun i hi=>c i (by omega),fun i hi=>d i (by omega)⟩,c k (Nat.lt_succ_self k),fun a q b r=>?_⟩;obtain⟨z,g⟩:=J8.1 q;obtain⟨j,f,h⟩:=Gj.1 g;exact d k (Nat.lt_succ_self k) j f a (J8.2 ⟨z,h⟩) b r
variable{y yb:Int}
theorem Gk(h:DO p x xb)(a:El p y yb):x≠y:=fun e=>by
 subst e;have:=h.2.1;have:=a.2.1;omega
theorem P0(h:DO p x xb):¬Nil x xb:=fun e=>by
 have:=h.1.1;have:=e.2;omega
theorem XA{rs:Int}(a:LQ p (p.s rs.toNat))(hi:i<8)(hn:¬Nil (AH (p.s rs.toNat) i) (AT (p.s rs.toNat) i)):AH (p.s rs.toNat) i≠rs:=fun e=>by
 have b:=(a.1 i hi).resolve_left hn;rw[e]at b;obtain⟨j,c,d⟩:=a.2;have f:=((a.1 j c).resolve_left d).1;have g:=(b.2.1 j c).resolve_left d;exact Gk f g rfl
def SM(p:A5)(s:AG):Prop:=
 (∀i,i<8->∀j,j<8->¬Nil (AH s i) (AT s i)->¬Nil (AH s j) (AT s j)->AH s j=AH s i->j=i)/\
 ∀i,i<8->∀j,j<8->∀a,a<8->∀c,c<8->¬Nil (AH s i) (AT s i)->¬Nil (AH s j) (AT s j)->
  ¬Nil (AH (p.s (AH s i).toNat) a) (AT (p.s (AH s i).toNat) a)->¬Nil (AH (p.s (AH s j).toNat) c) (AT (p.s (AH s j).toNat) c)->
  AH (p.s (AH s j).toNat) c=AH (p.s (AH s i).toNat) a->j=i/\c=a
theorem Fk:x∈Bi (Cg p xs xb)↔¬Nil xs xb/\(x=xs\/∃a,a<8/\x=AH (p.s xs.toNat) a/\¬Nil (AH (p.s xs.toNat) a) (AT (p.s xs.toNat) a)):=by
 unfold Cg;by_cases h:Nil xs xb
 ·rw[if_pos h];simp[Bi,h]
 ·rw[if_neg h];show x∈xs :: Bi (Ec (p.s xs.toNat))↔_;rw[List.mem_cons];unfold Ec;rw[P9];exact⟨fun b=>⟨h,b⟩,fun b=>b.2⟩
theorem Y6{rs rb:Int}(E:DO p rs rb)(A:LQ p (p.s rs.toNat)):(Bi (AF p rs rb)).Nodup↔SM p (p.s rs.toNat):=by
 have D:=P0 E;have k:∀i,i<8->¬Nil (AH (p.s rs.toNat) i) (AT (p.s rs.toNat) i)->DO p (AH (p.s rs.toNat) i) (AT (p.s rs.toNat) i):=fun i hi hn=>((A.1 i hi).resolve_left hn).1
 have d:∀i,i<8->¬Nil (AH (p.s rs.toNat) i) (AT (p.s rs.toNat) i)->∀a,a<8->¬Nil (AH (p.s (AH (p.s rs.toNat) i).toNat) a) (AT (p.s (AH (p.s rs.toNat) i).toNat) a)->El p (AH (p.s (AH (p.s rs.toNat) i).toNat) a) (AT (p.s (AH (p.s rs.toNat) i).toNat) a):=fun i hi hn a g f=>(((A.1 i hi).resolve_left hn).2.1 a g).resolve_left f
 unfold AF;rw[if_neg D];show(rs :: Bi (CN p (p.s rs.toNat) 8)).Nodup↔_;rw[List.nodup_cons,Ym];constructor
 ·rintro⟨_,v,q⟩;refine⟨fun i hi j t b l e=>?_,fun i hi j t a g c r b l f n e=>?_⟩
  ·rcases Nat.lt_trichotomy j i with h | h | h
   ·exact absurd e (q i hi j h _ (Fk.2 ⟨l,Or.inl rfl⟩) _ (Fk.2 ⟨b,Or.inl rfl⟩))
   ·exact h
   ·exact absurd e.symm (q j t i h _ (Fk.2 ⟨b,Or.inl rfl⟩) _ (Fk.2 ⟨l,Or.inl rfl⟩))
  ·rcases Nat.lt_trichotomy j i with h | h | h
   ·exact absurd e (q i hi j h _ (Fk.2 ⟨l,Or.inr ⟨c,r,rfl,n⟩⟩) _ (Fk.2 ⟨b,Or.inr ⟨a,g,rfl,f⟩⟩))
   ·subst h;refine⟨rfl,?_⟩;have w:=v j t;unfold Cg at w;rw[if_neg l]at w;have u:(Bi (Ec (p.s (AH (p.s rs.toNat) j).toNat))).Nodup:=(List.nodup_cons.1 w).2;unfold Ec at u;rw[Oz]at u;rcases Nat.lt_trichotomy c a with h | h | h
    ·exact absurd e (u a g c h f n)
    ·exact h
    ·exact absurd e.symm (u c r a h n f)
   ·exact absurd e.symm (q j t i h _ (Fk.2 ⟨b,Or.inr ⟨a,g,rfl,f⟩⟩) _ (Fk.2 ⟨l,Or.inr ⟨c,r,rfl,n⟩⟩))
 ·rintro⟨v,q⟩;refine⟨fun B=>?_,fun i hi=>?_,fun i hi j t x C y F e=>?_⟩
  ·obtain⟨z,D⟩:=J8.1 B;obtain⟨i,hi,C⟩:=Gj.1 D;obtain⟨b,h | ⟨a,g,h,f⟩⟩:=Fk.1 (J8.2 ⟨z,C⟩)
   ·exact XA A hi b h.symm
   ·exact Gk E (d i hi b a g f) h
  ·by_cases b:Nil (AH (p.s rs.toNat) i) (AT (p.s rs.toNat) i)
   ·unfold Cg;rw[if_pos b];simp[Bi]
   ·unfold Cg;rw[if_neg b];show(AH (p.s rs.toNat) i :: Bi (Ec _)).Nodup;rw[List.nodup_cons];unfold Ec;refine⟨fun B=>?_,?_⟩
    ·obtain⟨a,g,h,f⟩:=P9.1 B;exact Gk (k i hi b) (d i hi b a g f) h
    ·rw[Oz];intro a g c r f n e;have:=(q i hi i hi a g c (by omega) b b f n e).2;omega
  ·have m:j<8:=(by omega);subst e;obtain⟨l,h | ⟨c,r,h,n⟩⟩:=Fk.1 C
   ·obtain⟨b,o | ⟨a,g,o,f⟩⟩:=Fk.1 F
    ·have:=v i hi j m b l (by rw[<-h,<-o]);omega
    ·exact Gk (k j m l) (d i hi b a g f) (h▸o)
   ·obtain⟨b,o | ⟨a,g,o,f⟩⟩:=Fk.1 F
    ·exact Gk (k i hi b) (d j m l c r n) (o▸h)
    ·have:=(q i hi j m a g c r b l f n (by rw[<-h,<-o])).1;omega
structure Ext (p q:A5):Prop where
 n:q.n=p.n
 hn:q.hn=p.hn
 h:q.h=p.h
 s:∀j,¬Ag (p.s j)->q.s j=p.s j
theorem Ext.refl(p:A5):Ext p p:=⟨rfl,rfl,rfl,fun _ _=>rfl⟩
variable{q:A5}
theorem Ext.trans{r:A5}(h:Ext p q)(k:Ext q r):Ext p r:=⟨k.n.trans h.n,k.hn.trans h.hn,k.h.trans h.h,fun j a=>(k.s j (by rw[h.s j a];exact a)).trans (h.s j a)⟩
theorem Ext.set(hi:Ag (p.s i))(s:AG):Ext p (Aq p i s):=⟨rfl,rfl,rfl,fun j a=>Gl p s (fun e=>a (e▸hi))⟩
theorem Rw(h:B5 p xs xb):¬Ag (p.s xs.toNat):=fun a=>by
 have:=a.1;have:=h.1;have:=h.2.2.2;omega
theorem Ext.at(h:Ext p q)(a:B5 p xs xb):q.s xs.toNat=p.s xs.toNat:=h.s _ (Rw a)
theorem Ext.points(h:Ext p q)(a:B5 p xs xb):B5 q xs xb:=⟨a.1,a.2.1,by rw[h.n];exact a.2.2.1,by rw[h.at a];exact a.2.2.2⟩
theorem Ext.has(h:Ext p q)(x:Int):Has q.hn q.h x↔Has p.hn p.h x:=by rw[h.hn,h.h]
theorem Ext.node(h:Ext p q)(a:DO p xs xb):DO q xs xb:=⟨h.points a.1,by rw[h.at a.1];exact a.2.1,fun e=>a.2.2 ((h.has xs).1 e)⟩
theorem Ext.AA(h:Ext p q)(a:El p xs xb):El q xs xb:=⟨h.points a.1,by rw[h.at a.1];exact a.2.1,fun e=>a.2.2 ((h.has xs).1 e)⟩
variable{s:AG}
theorem Ext.low(h:Ext p q)(a:LP p s):LP q s:=⟨fun i hi=>(a.1 i hi).imp id h.AA,a.2⟩
theorem Ext.kid(h:Ext p q)(b:Nil xs xb\/B5 p xs xb)(i:Nat):BV q xs xb i=BV p xs xb i/\Ba q xs xb i=Ba p xs xb i:=by
 unfold BV Ba;by_cases a:Nil xs xb
 ·simp only[if_pos a];exact⟨trivial,trivial⟩
 ·simp only[if_neg a];rw[h.at (b.resolve_left a)];exact⟨rfl,rfl⟩
theorem Yh(b:Ay p xs xb):Nil xs xb\/B5 p xs xb:=b.imp id (fun a=>a.1.1)
theorem Z6(a:Ai p xs xb)(hi:i<8):Nil (BV p xs xb i) (Ba p xs xb i)\/B5 p (BV p xs xb i) (Ba p xs xb i):=(Lg a hi).imp id And.left
theorem Ext.pages(h:Ext p q)(a:Ai p xs xb)(b:k<64):BS q xs xb k=BS p xs xb k/\BY q xs xb k=BY p xs xb k:=by
 unfold BS BY BW Bf;rw[(h.kid (Yh a.2) (k / 8)).1,(h.kid (Yh a.2) (k / 8)).2];exact h.kid (Z6 a (by omega)) (k % 8)
def FM(p:A5)(x:Int):Prop:=Ag (p.s x.toNat)
structure New (p:A5) (xs xb:Int) (n:Nat) (b:Int) (q:A5) (ys yb ms mb gs gb:Int):Prop where
 ext:Ext p q
 right:AY q
 AA:Nil gs gb\/(El q gs gb/\FM p gs)
 node:(Nil ms mb/\CO (AX p xs xb n 1 gs) (AW p xs xb n 1 gb))\/(DO q ms mb/\FM p ms/\q.s ms.toNat=BJ (AX p xs xb n 1 gs) (AW p xs xb n 1 gb) b/\¬CO (AX p xs xb n 1 gs) (AW p xs xb n 1 gb))
 root:(Nil ys yb/\CO (AX p xs xb n 0 ms) (AW p xs xb n 0 mb))\/(DO q ys yb/\FM p ys/\q.s ys.toNat=BJ (AX p xs xb n 0 ms) (AW p xs xb n 0 mb) b/\¬CO (AX p xs xb n 0 ms) (AW p xs xb n 0 mb))
 born:Nil gs gb\/gb=b
 only:∀j,q.s j=p.s j\/((j:Int)=gs/\¬Nil gs gb)\/((j:Int)=ms/\¬Nil ms mb)\/((j:Int)=ys/\¬Nil ys yb)
theorem Gm(f g:Nat->Int)(b:Int)(hi:i<8):AH (BJ f g b) i=f i/\AT (BJ f g b) i=g i:=⟨F8 rfl hi,F7 rfl hi⟩
variable{b ys ms mb gs gb:Int}
theorem New.nodes(h:New p xs xb n b q ys yb ms mb gs gb)(hi:i<8):BV q ys yb i=AX p xs xb n 0 ms i/\Ba q ys yb i=AW p xs xb n 0 mb i:=by
 unfold BV Ba;rcases h.root with⟨a,c⟩ | ⟨a,c,d,e⟩
 ·simp only[if_pos a];exact⟨(c i hi).1.symm,(c i hi).2.symm⟩
 ·simp only[if_neg (P0 a)];rw[d];exact Gm _ _ _ hi
theorem New.lows(h:New p xs xb n b q ys yb ms mb gs gb)(hi:i<8):BV q ms mb i=AX p xs xb n 1 gs i/\Ba q ms mb i=AW p xs xb n 1 gb i:=by
 unfold BV Ba;rcases h.node with⟨a,c⟩ | ⟨a,c,d,e⟩
 ·simp only[if_pos a];exact⟨(c i hi).1.symm,(c i hi).2.symm⟩
 ·simp only[if_neg (P0 a)];rw[d];exact Gm _ _ _ hi
theorem E6(hi:i≠n / 8):AX p xs xb n 0 x i=BV p xs xb i/\AW p xs xb n 0 x i=Ba p xs xb i:=⟨if_neg hi,if_neg hi⟩
theorem Ns(hi:i≠n % 8):AX p xs xb n 1 x i=BV p (BW p xs xb n) (Bf p xs xb n) i/\AW p xs xb n 1 x i=Ba p (BW p xs xb n) (Bf p xs xb n) i:=⟨if_neg hi,if_neg hi⟩
theorem New.pages(h:New p xs xb n b q ys yb ms mb gs gb)(d:Ai p xs xb)(m:k<64):BS q ys yb k=(if k=n then gs else BS p xs xb k)/\BY q ys yb k=(if k=n then gb else BY p xs xb k):=by
 obtain⟨j,l⟩:=h.nodes (i:=k / 8) (by omega);unfold BS BY;rw[show BW q ys yb k=AX p xs xb n 0 ms (k / 8)from j,show Bf q ys yb k=AW p xs xb n 0 mb (k / 8)from l];by_cases e:k / 8=n / 8
 ·rw[show AX p xs xb n 0 ms (k / 8)=ms from if_pos e,show AW p xs xb n 0 mb (k / 8)=mb from if_pos e];obtain⟨f,g⟩:=h.lows (i:=k % 8) (by omega);rw[f,g];by_cases c:k % 8=n % 8
  ·have a:k=n:=(by omega);rw[if_pos a,if_pos a];exact⟨if_pos c,if_pos c⟩
  ·have a:k≠n:=fun h=>c (by rw[h])
   rw[if_neg a,if_neg a,(Ns c).1,(Ns c).2];unfold BW Bf;rw[e];exact⟨rfl,rfl⟩
 ·have a:k≠n:=fun h=>e (by rw[h])
  rw[if_neg a,if_neg a,(E6 e).1,(E6 e).2];exact h.ext.kid (Z6 d (by omega)) (k % 8)
variable{z:Int×Int}
theorem GD(o:Ai p xs xb):z∈AF p xs xb↔(z=(xs,xb)/\¬Nil xs xb)\/(∃i,i<8/\z=(BV p xs xb i,Ba p xs xb i)/\¬Nil (BV p xs xb i) (Ba p xs xb i))\/∃k,k<64/\z=(BS p xs xb k,BY p xs xb k)/\¬Nil (BS p xs xb k) (BY p xs xb k):=by
 by_cases c:Nil xs xb
 ·have e0:∀i,BV p xs xb i=0/\Ba p xs xb i=0:=fun i=>⟨if_pos c,if_pos c⟩
  have d:∀k,Nil (BS p xs xb k) (BY p xs xb k):=fun k=>by
   have hn:Nil (BW p xs xb k) (Bf p xs xb k):=e0 (k / 8);exact⟨if_pos hn,if_pos hn⟩
  unfold AF;rw[if_pos c];constructor
  ·intro h;simp at h
  ·rintro(⟨_,h⟩ | ⟨i,_,_,h⟩ | ⟨k,_,_,h⟩)
   ·exact absurd c h
   ·exact absurd (e0 i) h
   ·exact absurd (d k) h
 ·have e0:∀i,BV p xs xb i=AH (p.s xs.toNat) i/\Ba p xs xb i=AT (p.s xs.toNat) i:=fun i=>⟨if_neg c,if_neg c⟩
  unfold AF;rw[if_neg c,List.mem_cons,Gj];constructor
  ·rintro(h | ⟨i,hi,h⟩)
   ·exact Or.inl ⟨h,c⟩
   ·obtain⟨hn,h⟩:=IB.1 h;rw[<-(e0 i).1,<-(e0 i).2]at hn;rcases h with h | h
    ·exact Or.inr (Or.inl ⟨i,hi,by rw[(e0 i).1,(e0 i).2];exact h,hn⟩)
    ·obtain⟨a,q,h,n⟩:=Gn.1 h;have q1:(i*8+a) / 8=i:=(by omega);have l:(i*8+a) % 8=a:=(by omega);have d:BS p xs xb (i*8+a)=AH (p.s (AH (p.s xs.toNat) i).toNat) a:=by
      unfold BS BW Bf;rw[q1,l];unfold BV at hn ⊢;rw[if_neg c]at hn ⊢;rw[if_neg hn]
     have f:BY p xs xb (i*8+a)=AT (p.s (AH (p.s xs.toNat) i).toNat) a:=by
      have e:=hn;rw[(e0 i).1,(e0 i).2]at e;unfold BY BW Bf;rw[q1,l,(e0 i).1,(e0 i).2];exact if_neg e
     exact Or.inr (Or.inr ⟨i*8+a,by omega,by rw[d,f];exact h,by rw[d,f];exact n⟩)
  ·rintro(⟨h,_⟩ | ⟨i,hi,h,hn⟩ | ⟨k,r,h,hn⟩)
   ·exact Or.inl h
   ·rw[(e0 i).1,(e0 i).2]at h hn;exact Or.inr ⟨i,hi,IB.2 ⟨hn,Or.inl h⟩⟩
   ·have b:¬Nil (BW p xs xb k) (Bf p xs xb k):=fun j=>hn ⟨if_pos j,if_pos j⟩
    have d:BS p xs xb k=AH (p.s (BW p xs xb k).toNat) (k % 8):=if_neg b;have f:BY p xs xb k=AT (p.s (BW p xs xb k).toNat) (k % 8):=if_neg b;rw[d,f]at h hn;have g:BW p xs xb k=AH (p.s xs.toNat) (k / 8):=(e0 (k / 8)).1;have m:Bf p xs xb k=AT (p.s xs.toNat) (k / 8):=(e0 (k / 8)).2;rw[g]at h hn;rw[g,m]at b;exact Or.inr ⟨k / 8,by omega,IB.2 ⟨b,Or.inr (Gn.2 ⟨k % 8,by omega,h,hn⟩)⟩⟩
theorem DN(a:¬Nil xs xb)(i:Nat):BV p xs xb i=AH (p.s xs.toNat) i/\Ba p xs xb i=AT (p.s xs.toNat) i:=⟨if_neg a,if_neg a⟩
theorem O0(b:¬Nil xs xb){a:Nat}(d:a<8)(hn:¬Nil (AH (p.s xs.toNat) i) (AT (p.s xs.toNat) i)):BS p xs xb (i*8+a)=AH (p.s (AH (p.s xs.toNat) i).toNat) a/\BY p xs xb (i*8+a)=AT (p.s (AH (p.s xs.toNat) i).toNat) a:=by
 have q1:(i*8+a) / 8=i:=by omega
 have c:(i*8+a) % 8=a:=by omega
 unfold BS BY BW Bf;rw[q1,c,(DN b i).1,(DN b i).2];exact⟨if_neg hn,if_neg hn⟩
def Qi(p:A5)(xs xb:Int):Prop:=∀i,i<8->∀j,j<8->¬Nil (BV p xs xb i) (Ba p xs xb i)->¬Nil (BV p xs xb j) (Ba p xs xb j)->BV p xs xb j=BV p xs xb i->j=i
def Qj(p:A5)(xs xb:Int):Prop:=∀k,k<64->∀l,l<64->¬Nil (BS p xs xb k) (BY p xs xb k)->¬Nil (BS p xs xb l) (BY p xs xb l)->BS p xs xb l=BS p xs xb k->l=k
theorem Rt(h:¬Nil (BS p xs xb k) (BY p xs xb k)):¬Nil (BW p xs xb k) (Bf p xs xb k):=fun a=>h ⟨if_pos a,if_pos a⟩
theorem P2(h:¬Nil (BV p xs xb i) (Ba p xs xb i)):¬Nil xs xb:=fun a=>h ⟨if_pos a,if_pos a⟩
theorem zEO(b:¬Nil xs xb)(h:SM p (p.s xs.toNat)):Qi p xs xb/\Qj p xs xb:=by
 refine⟨fun i hi j q n o e=>?_,fun k r l t g m e=>?_⟩
 ·rw[(DN b i).1,(DN b i).2]at n;rw[(DN b j).1,(DN b j).2]at o;rw[(DN b i).1,(DN b j).1]at e;exact h.1 i hi j q n o e
 ·have mk:=Rt g;have f:=Rt m;rw[show BW p xs xb k=AH (p.s xs.toNat) (k / 8)from(DN b _).1,show Bf p xs xb k=AT (p.s xs.toNat) (k / 8)from(DN b _).2]at mk;rw[show BW p xs xb l=AH (p.s xs.toNat) (l / 8)from(DN b _).1,show Bf p xs xb l=AT (p.s xs.toNat) (l / 8)from(DN b _).2]at f;have c:=O0 b (a:=k % 8) (by omega) mk;have d:=O0 b (a:=l % 8) (by omega) f;rw[show k / 8*8+k % 8=k by omega]at c;rw[show l / 8*8+l % 8=l by omega]at d;rw[c.1,c.2]at g;rw[d.1,d.2]at m;rw[c.1,d.1]at e;have:=h.2 (k / 8) (by omega) (l / 8) (by omega) (k % 8) (by omega) (l % 8) (by omega) mk f g m e;omega
theorem zEL(b:¬Nil xs xb)(n:Qi p xs xb)(o:Qj p xs xb):SM p (p.s xs.toNat):=by
 refine⟨fun i hi j k d f e=>?_,fun i hi j k a q c r d f l m e=>?_⟩
 ·rw[<-(DN b i).1,<-(DN b i).2]at d;rw[<-(DN b j).1,<-(DN b j).2]at f;rw[<-(DN b i).1,<-(DN b j).1]at e;exact n i hi j k d f e
 ·have g:=O0 b q d;have h:=O0 b r f;rw[<-g.1,<-g.2]at l;rw[<-h.1,<-h.2]at m;rw[<-g.1,<-h.1]at e;have:=o (i*8+a) (by omega) (j*8+c) (by omega) l m e;omega
theorem O4(e:Ai p xs xb):Qi p xs xb/\Qj p xs xb:=by
 by_cases a:Nil xs xb
 ·exact⟨fun i hi j h f=>absurd a (P2 f),fun k m l n g=>absurd a (P2 (Rt g))⟩
 ·obtain⟨b,c,d⟩:=e.2.resolve_left a;exact zEO a ((Y6 b c).1 d)
theorem KX(c:Ai p xs xb)(hi:i<8)(h:¬Nil (BV p xs xb i) (Ba p xs xb i)):DO p (BV p xs xb i) (Ba p xs xb i)/\LP p (p.s (BV p xs xb i).toNat):=by
 have a:=P2 h;obtain⟨d,b,e⟩:=c.2.resolve_left a;rw[(DN a i).1,(DN a i).2]at h ⊢;exact(b.1 i hi).resolve_left h
theorem PY(a:Ai p xs xb)(h:¬Nil xs xb):DO p xs xb:=(a.2.resolve_left h).1
theorem ZA(c:Ai p xs xb)(hi:i<8)(h:¬Nil (BV p xs xb i) (Ba p xs xb i)):BV p xs xb i≠xs:=by
 have a:=P2 h;obtain⟨d,b,e⟩:=c.2.resolve_left a;rw[(DN a i).1]at h ⊢;rw[(DN a i).2]at h;exact XA b hi h
theorem Iy(h:FM p x)(a:B5 p y yb):x≠y:=fun e=>Rw a (e▸h)
theorem Ext.free(h:Ext p q){j:Nat}(a:Ag (q.s j)):Ag (p.s j):=Classical.byContradiction fun hn=>hn (by rw[h.s j hn]at a;exact a)
variable{f:Nat->Int}
theorem TP{g:Nat->Int}(h:¬CO f g):∃i,i<8/\¬Nil (f i) (g i):=some_ex h where
 some_ex {f g:Nat->Int} (h:¬CO f g):∃i,i<8/\¬Nil (f i) (g i):=Classical.byContradiction fun a=>h fun i hi=>Classical.byContradiction fun hn=>a ⟨i,hi,hn⟩
theorem New.ok(h:New p xs xb n b q ys yb ms mb gs gb)(c:Ai p xs xb)(hn:n<64):Ai q ys yb:=by
 refine⟨h.right,?_⟩;rcases id h.root with⟨J,_⟩ | ⟨r1,T,G,R⟩
 ·exact Or.inl J
 ·right;have M:=P0 r1;have B:¬Nil ms mb->DO q ms mb/\FM p ms/\q.s ms.toNat=BJ (AX p xs xb n 1 gs) (AW p xs xb n 1 gb) b/\¬CO (AX p xs xb n 1 gs) (AW p xs xb n 1 gb):=fun A=>h.node.resolve_left (fun L=>A L.1)
  have D:¬Nil gs gb->El q gs gb/\FM p gs:=fun K=>h.AA.resolve_left K
  have x:LQ q (q.s ys.toNat):=by
   refine⟨fun i hi=>?_,?_⟩
   ·rw[G];unfold JT;rw[(Gm (AX p xs xb n 0 ms) (AW p xs xb n 0 mb) b hi).1,(Gm (AX p xs xb n 0 ms) (AW p xs xb n 0 mb) b hi).2];by_cases e:i=n / 8
    ·rw[show AX p xs xb n 0 ms i=ms from if_pos e,show AW p xs xb n 0 mb i=mb from if_pos e];by_cases A:Nil ms mb
     ·exact Or.inl A
     ·obtain⟨O,S,P,Q⟩:=B A;refine Or.inr ⟨O,?_⟩;rw[P];refine⟨fun a d=>?_,?_⟩
      ·rw[(Gm (AX p xs xb n 1 gs) (AW p xs xb n 1 gb) b d).1,(Gm (AX p xs xb n 1 gs) (AW p xs xb n 1 gb) b d).2];by_cases y:a=n % 8
       ·rw[show AX p xs xb n 1 gs a=gs from if_pos y,show AW p xs xb n 1 gb a=gb from if_pos y];exact h.AA.imp id And.left
       ·rw[(Ns y).1,(Ns y).2];have E:=Ip c (n:=n / 8*8+a) (by omega);have H:BS p xs xb (n / 8*8+a)=BV p (BW p xs xb n) (Bf p xs xb n) a:=by
         unfold BS BW Bf;rw[show(n / 8*8+a) / 8=n / 8 by omega,show(n / 8*8+a) % 8=a by omega]
        have I:BY p xs xb (n / 8*8+a)=Ba p (BW p xs xb n) (Bf p xs xb n) a:=by
         unfold BY BW Bf;rw[show(n / 8*8+a) / 8=n / 8 by omega,show(n / 8*8+a) % 8=a by omega]
        rw[H,I]at E;exact E.imp id h.ext.AA
      ·obtain⟨a,d,C⟩:=TP Q;exact⟨a,d,by rw[(Gm _ _ b d).1,(Gm _ _ b d).2];exact C⟩
    ·rw[(E6 e).1,(E6 e).2];by_cases m:Nil (BV p xs xb i) (Ba p xs xb i)
     ·exact Or.inl m
     ·obtain⟨F,N⟩:=KX c hi m;exact Or.inr ⟨h.ext.node F,by rw[h.ext.at F.1];exact h.ext.low N⟩
   ·obtain⟨a,d,C⟩:=TP R;exact⟨a,d,by rw[G,(Gm _ _ b d).1,(Gm _ _ b d).2];exact C⟩
  refine⟨r1,x,(Y6 r1 x).2 (zEL M ?_ ?_)⟩
  ·intro i hi j v o f e;rw[(h.nodes hi).1,(h.nodes hi).2]at o;rw[(h.nodes v).1,(h.nodes v).2]at f;rw[(h.nodes hi).1,(h.nodes v).1]at e;by_cases ei:i=n / 8
   ·by_cases t:j=n / 8
    ·omega
    ·rw[show AX p xs xb n 0 ms i=ms from if_pos ei]at o e;rw[show AW p xs xb n 0 mb i=mb from if_pos ei]at o;rw[(E6 t).1]at f e;rw[(E6 t).2]at f;exact absurd e.symm (Iy (B o).2.1 (KX c v f).1.1)
   ·rw[(E6 ei).1]at o e;rw[(E6 ei).2]at o;by_cases t:j=n / 8
    ·rw[show AX p xs xb n 0 ms j=ms from if_pos t]at f e;rw[show AW p xs xb n 0 mb j=mb from if_pos t]at f;exact absurd e (Iy (B f).2.1 (KX c hi o).1.1)
    ·rw[(E6 t).1]at f e;rw[(E6 t).2]at f;exact(O4 c).1 i hi j v o f e
  ·intro k m l w r g e;rw[(h.pages c m).1,(h.pages c m).2]at r;rw[(h.pages c w).1,(h.pages c w).2]at g;rw[(h.pages c m).1,(h.pages c w).1]at e;by_cases z:k=n
   ·by_cases u:l=n
    ·omega
    ·rw[if_pos z]at r e;rw[if_pos z]at r;rw[if_neg u]at g e;rw[if_neg u]at g;exact absurd e.symm (Iy (D r).2 ((Ip c w).resolve_left g).1)
   ·rw[if_neg z]at r e;rw[if_neg z]at r;by_cases u:l=n
    ·rw[if_pos u]at g e;rw[if_pos u]at g;exact absurd e (Iy (D g).2 ((Ip c m).resolve_left r).1)
    ·rw[if_neg u]at g e;rw[if_neg u]at g;exact(O4 c).2 k m l w r g e
theorem KU:z∈BN p xs xb n 3↔(z=(BS p xs xb n,BY p xs xb n)/\¬Nil (BS p xs xb n) (BY p xs xb n))\/(z=(BW p xs xb n,Bf p xs xb n)/\¬Nil (BW p xs xb n) (Bf p xs xb n))\/(z=(xs,xb)/\¬Nil xs xb):=by
 unfold BN;rw[Gn];constructor
 ·rintro⟨i,hi,h⟩;rcases i with _ | _ | _ | i
  ·exact Or.inl h
  ·exact Or.inr (Or.inl h)
  ·exact Or.inr (Or.inr h)
  ·omega
 ·rintro(h | h | h)
  ·exact⟨0,by omega,h⟩
  ·exact⟨1,by omega,h⟩
  ·exact⟨2,by omega,h⟩
theorem NE(a:Ai p xs xb)(hn:n<64)(h:z∈BN p xs xb n 3):z∈AF p xs xb:=by
 rw[GD a];rcases KU.1 h with h | h | h
 ·exact Or.inr (Or.inr ⟨n,hn,h⟩)
 ·exact Or.inr (Or.inl ⟨n / 8,by omega,h⟩)
 ·exact Or.inl h
theorem zHQ(a:Ai p xs xb)(h:z∈AF p xs xb):B5 p z.1 z.2:=by
 by_cases b:Nil xs xb
 ·unfold AF at h;rw[if_pos b]at h;simp at h
 ·exact(MY a.1 (PY a b).1 z h).1
theorem New.gone(h:New p xs xb n b q ys yb ms mb gs gb)(f:Ai p xs xb)(hn:n<64)(t:z∈AF p xs xb):z∉AF q ys yb↔z∈BN p xs xb n 3:=by
 have r:=h.ok f hn;have l:=zHQ f t;constructor
 ·intro m;rcases(GD f).1 t with a | ⟨i,hi,a,d⟩ | ⟨k,g,a,d⟩
  ·exact KU.2 (Or.inr (Or.inr a))
  ·by_cases e:i=n / 8
   ·subst e;exact KU.2 (Or.inr (Or.inl ⟨a,d⟩))
   ·refine absurd ((GD r).2 (Or.inr (Or.inl ⟨i,hi,?_,?_⟩))) m
    ·rw[(h.nodes hi).1,(h.nodes hi).2,(E6 e).1,(E6 e).2];exact a
    ·rw[(h.nodes hi).1,(h.nodes hi).2,(E6 e).1,(E6 e).2];exact d
  ·by_cases e:k=n
   ·subst e;exact KU.2 (Or.inl ⟨a,d⟩)
   ·refine absurd ((GD r).2 (Or.inr (Or.inr ⟨k,g,?_,?_⟩))) m
    ·rw[(h.pages f g).1,(h.pages f g).2,if_neg e,if_neg e];exact a
    ·rw[(h.pages f g).1,(h.pages f g).2,if_neg e,if_neg e];exact d
 ·intro s m;have v:¬Nil ms mb->FM p ms:=fun y=>(h.node.resolve_left (fun m=>y m.1)).2.1
  have u:¬Nil gs gb->FM p gs:=fun w=>(h.AA.resolve_left w).2
  rcases(GD r).1 m with⟨a,d⟩ | ⟨i,hi,a,d⟩ | ⟨k,g,a,d⟩
  ·have A:=h.root.resolve_left (fun x=>d x.1);exact Iy A.2.1 l (by rw[a])
  ·rw[(h.nodes hi).1,(h.nodes hi).2]at a d;by_cases e:i=n / 8
   ·rw[show AX p xs xb n 0 ms i=ms from if_pos e,show AW p xs xb n 0 mb i=mb from if_pos e]at a d;exact Iy (v d) l (by rw[a])
   ·rw[(E6 e).1,(E6 e).2]at a d;rcases KU.1 s with⟨c,j⟩ | ⟨c,j⟩ | ⟨c,j⟩
    ·rw[a]at c;simp only[Prod.mk.injEq]at c;exact Gk (KX f hi d).1 ((Ip f hn).resolve_left j) c.1
    ·rw[a]at c;simp only[Prod.mk.injEq]at c;exact e ((O4 f).1 (n / 8) (by omega) i hi j d c.1)
    ·rw[a]at c;simp only[Prod.mk.injEq]at c;exact ZA f hi d c.1
  ·rw[(h.pages f g).1,(h.pages f g).2]at a d;by_cases e:k=n
   ·rw[if_pos e,if_pos e]at a d;exact Iy (u d) l (by rw[a])
   ·rw[if_neg e,if_neg e]at a d;have o:=(Ip f g).resolve_left d;rcases KU.1 s with⟨c,j⟩ | ⟨c,j⟩ | ⟨c,j⟩
    ·rw[a]at c;simp only[Prod.mk.injEq]at c;exact e ((O4 f).2 n hn k g j d c.1)
    ·rw[a]at c;simp only[Prod.mk.injEq]at c;exact Gk (KX f (i:=n / 8) (by omega) j).1 o c.1.symm
    ·rw[a]at c;simp only[Prod.mk.injEq]at c;exact Gk (PY f j) o c.1.symm
theorem zCy(h:(Bi l).Nodup):l.Nodup:=by
 unfold Bi List.Nodup at *;rw[List.pairwise_map]at h;exact h.imp (fun a e=>a (by rw[e]))
theorem X4(a:Ai p xs xb)(hn:n<64):(BN p xs xb n 3).Nodup:=by
 apply zCy;unfold BN;rw[Oz];intro i hi j d c b;rcases i with _ | _ | _ | i
 ·omega
 ·obtain rfl:j=0:=(by omega);exact fun e=>Gk (KX a (i:=n / 8) (by omega) c).1 ((Ip a hn).resolve_left b) e.symm
 ·rcases j with _ | _ | j
  ·exact fun e=>Gk (PY a c) ((Ip a hn).resolve_left b) e.symm
  ·exact ZA a (i:=n / 8) (by omega) b
  ·omega
 ·omega
theorem ZZ(b:AY p){i:Nat}(h:BU p.n p.s i):¬Has p.hn p.h (i:Int):=by
 rintro⟨j,c,e⟩;have a:=(b.2.2 j c).2.2.1;rw[e,Int.toNat_natCast]at a;exact a h.2.1
theorem XK(a:AY p)(h:BU p.n p.s i)(hs:Bm p s)(b:s.kn=0):El (Aq p i s) (i:Int) s.birth:=
 ⟨Ky h hs.1.1,by rw[Int.toNat_natCast,Ge];exact b,ZZ a h⟩
theorem OQ(a:AY p)(h:BU p.n p.s i)(hs:Bm p s)(b:0<s.kn):DO (Aq p i s) (i:Int) s.birth:=
 ⟨Ky h hs.1.1,by rw[Int.toNat_natCast,Ge];exact b,ZZ a h⟩
theorem M6(h:Ext p q)(hi:BU q.n q.s i):FM p (i:Int):=by
 unfold FM;rw[Int.toNat_natCast];exact h.free hi.2.1
variable{d:ByteArray}
theorem zDe{i0 i1 i2:Nat}(k:Ai p xs xb)(hn:n<64)(a:Bv xb b)(q:d.size=16)(c:BU p.n p.s i0)(h:BU p.n (Bb p b d i0).s i1)(m:BU p.n (Cw p xs xb n b d i0 i1).s i2) :
 New p xs xb n b (IT p xs xb n b d i0 i1 i2) (i2:Int) b (i1:Int) b (i0:Int) b:=by
 have f:Ext p (Bb p b d i0):=Ext.set c.2.1 _;have g:Ext (Bb p b d i0) (Cw p xs xb n b d i0 i1):=Ext.set h.2.1 _;have l:Ext (Cw p xs xb n b d i0 i1) (IT p xs xb n b d i0 i1 i2):=Ext.set m.2.1 _;have r1:=Od (d:=d) k a q c;have u:=RY (n:=n) k hn a q c h;have v:Bm p (BK b d):=Gg a.1 q;have w:=I9 (n:=n) (d:=d) k hn a c;have r:=M4 (d:=d) k hn a c h;have y:El (Bb p b d i0) (i0:Int) b:=XK k.1 c v rfl;have t:DO (Cw p xs xb n b d i0 i1) (i1:Int) b:=OQ (p:=Bb p b d i0) r1 h w (by show 0<8;omega);have rt:DO (IT p xs xb n b d i0 i1 i2) (i2:Int) b:=OQ (p:=Cw p xs xb n b d i0 i1) u m r (by show 0<8;omega);have x:(Cw p xs xb n b d i0 i1).s (i1:Int).toNat=BJ (AX p xs xb n 1 (i0:Int)) (AW p xs xb n 1 b) b:=by rw[Int.toNat_natCast];exact Ge _ _ _
 refine⟨(f.trans g).trans l,Jk (p:=Cw p xs xb n b d i0 i1) u m r,Or.inr ⟨l.AA (g.AA y),M6 (Ext.refl p) c⟩,Or.inr ⟨l.node t,M6 f h,?_,Oc hn a.1.1⟩,Or.inr ⟨rt,M6 (f.trans g) m,?_,Oc hn a.1.1⟩,Or.inr rfl,fun j=>?_⟩
 ·rw[l.at t.1];exact x
 ·rw[Int.toNat_natCast];exact Ge _ _ _
 ·have o:∀i:Nat,¬Nil (i:Int) b:=fun i e=>by have:=a.1.1;have:=e.2;omega
  by_cases g:j=i2
  ·exact .inr (.inr (.inr ⟨by rw[g],o _⟩))
  by_cases f:j=i1
  ·exact .inr (.inr (.inl ⟨by rw[f],o _⟩))
  by_cases e0:j=i0
  ·exact .inr (.inl ⟨by rw[e0],o _⟩)
  ·exact .inl ((Gl _ _ g).trans ((Gl _ _ f).trans (Gl _ _ e0)))
theorem zAc{i0 i1 i2:Nat}(j:Ai p xs xb)(hn:n<64)(i:Bv xb b)(k:d.size=16)(f:BU p.n p.s i0)(g:BU p.n (Bb p b d i0).s i1)(h:BU p.n (Cw p xs xb n b d i0 i1).s i2) :
 ((IT p xs xb n b d i0 i1 i2).s (i0:Int).toNat).data=d:=by
 have a:Ext (Bb p b d i0) (Cw p xs xb n b d i0 i1):=Ext.set g.2.1 _;have c:Ext (Cw p xs xb n b d i0 i1) (IT p xs xb n b d i0 i1 i2):=Ext.set h.2.1 _;have e:Bm p (BK b d):=Gg i.1 k;have l:El (Bb p b d i0) (i0:Int) b:=XK j.1 f e rfl;rw[(a.trans c).at l.1,Int.toNat_natCast,show(Bb p b d i0).s i0=BK b d from Ge _ _ _];rfl
theorem Uh(c:Ai p xs xb)(hn:n<64)(f:Bv xb b)
 (u:(CO (AX p xs xb n 1 0) (AW p xs xb n 1 0)/\q=p/\x=0/\y=0)\/(¬CO (AX p xs xb n 1 0) (AW p xs xb n 1 0)/\∃i:Nat,BU p.n p.s i/\q=Aq p i (BJ (AX p xs xb n 1 0) (AW p xs xb n 1 0) b)/\x=(i:Int)/\y=b)) :
 (CO (AX p xs xb n 0 x) (AW p xs xb n 0 y)->New p xs xb n b q 0 0 x y 0 0)/\
 (¬CO (AX p xs xb n 0 x) (AW p xs xb n 0 y)->∀i,BU q.n q.s i->New p xs xb n b (Aq q i (BJ (AX p xs xb n 0 x) (AW p xs xb n 0 y) b)) (i:Int) b x y 0 0):=by
 have fl:Bm p (BJ (AX p xs xb n 1 0) (AW p xs xb n 1 0) b):=FC c hn (by omega) f (fun s t h=>h) (Or.inl ⟨rfl,rfl⟩);have k:∀j,q.s j=p.s j\/((j:Int)=x/\¬Nil x y):=fun j=>by
  rcases u with⟨d,rfl,rfl,rfl⟩ | ⟨d,i,hi,rfl,rfl,rfl⟩
  ·exact .inl rfl
  ·by_cases e:j=i
   ·exact .inr ⟨by rw[e],fun e=>by have:=f.1.1;have:=e.2;omega⟩
   ·exact .inl (Gl _ _ e)
 have o:Ext p q/\AY q/\((Nil x y/\CO (AX p xs xb n 1 0) (AW p xs xb n 1 0))\/(DO q x y/\FM p x/\q.s x.toNat=BJ (AX p xs xb n 1 0) (AW p xs xb n 1 0) b/\¬CO (AX p xs xb n 1 0) (AW p xs xb n 1 0)))/\Bm q (BJ (AX p xs xb n 0 x) (AW p xs xb n 0 y) b):=by
  rcases u with⟨d,rfl,rfl,rfl⟩ | ⟨d,i,hi,rfl,rfl,rfl⟩
  ·exact⟨Ext.refl _,c.1,Or.inl ⟨⟨rfl,rfl⟩,d⟩,FC c hn (by omega) f (fun s t h=>h) (Or.inl ⟨rfl,rfl⟩)⟩
  ·have a:Ext p (Aq p i (BJ (AX p xs xb n 1 0) (AW p xs xb n 1 0) y)):=Ext.set hi.2.1 _;have w:=OQ (s:=BJ (AX p xs xb n 1 0) (AW p xs xb n 1 0) y) c.1 hi fl (by show 0<8;omega);refine⟨a,Jk c.1 hi fl,Or.inr ⟨w,M6 (Ext.refl p) hi,?_,d⟩,FC c hn (by omega) f (fun s t h=>a.points h) (Or.inr ⟨w.1,Int.le_refl _⟩)⟩;rw[Int.toNat_natCast];exact Ge _ _ _
 obtain⟨a,r1,v,r⟩:=o;refine⟨fun m=>⟨a,r1,Or.inl ⟨rfl,rfl⟩,v,Or.inl ⟨⟨rfl,rfl⟩,m⟩,Or.inl ⟨rfl,rfl⟩,fun j=>(k j).imp id fun g=>.inr (.inl g)⟩,fun m i hi=>?_⟩;have l:Ext q (Aq q i (BJ (AX p xs xb n 0 x) (AW p xs xb n 0 y) b)):=Ext.set hi.2.1 _;have rt:=OQ (s:=BJ (AX p xs xb n 0 x) (AW p xs xb n 0 y) b) r1 hi r (by show 0<8;omega);refine⟨a.trans l,Jk r1 hi r,Or.inl ⟨rfl,rfl⟩,v.imp id (fun h=>⟨l.node h.1,h.2.1,by rw[l.at h.1.1];exact h.2.2.1,h.2.2.2⟩),Or.inr ⟨rt,M6 a hi,?_,m⟩,Or.inl ⟨rfl,rfl⟩,fun j=>?_⟩
 ·rw[Int.toNat_natCast];exact Ge _ _ _
 ·by_cases e:j=i
  ·exact .inr (.inr (.inr ⟨by rw[e],fun g=>by have:=f.1.1;have:=g.2;omega⟩))
  ·exact((k j).imp (fun g=>(Gl _ _ e).trans g) fun g=>.inr (.inl g))
theorem VZ{AA:Int}(e:(CA p xs xb AA d b).code=0) :
 Ai p xs xb/\∃n:Nat,n<64/\AA=(n:Int)/\d.size=16/\(CA p xs xb AA d b).old=BN p xs xb n 3/\∃ms mb gs gb,New p xs xb n b (CA p xs xb AA d b).pool (CA p xs xb AA d b).rs (CA p xs xb AA d b).rb ms mb gs gb/\¬Nil gs gb/\((CA p xs xb AA d b).pool.s gs.toNat).data=d:=by
 by_cases h:8000<d.size
 ·rw[Oj h]at e;exact absurd e (by decide)
 by_cases a:Ai p xs xb/\Bv xb b
 ·by_cases c:EA AA/\d.size=16
  ·obtain⟨n,rfl⟩:=Int.eq_ofNat_of_zero_le c.1.1;have hn:n<64:=(by have:=c.1.2;omega);by_cases k:roomN p.s p.n<3
   ·rw[Xk a.1 hn a.2 c.2 k]at e;exact absurd e (by decide)
   ·obtain⟨i0,g⟩:=GG (f:=p.s) (n:=p.n) (by omega);have o:roomN (Bb p b d i0).s p.n+1=roomN p.s p.n:=Ku (s:=BK b d) g (Gg a.2.1 c.2);obtain⟨i,q1⟩:=GG (f:=(Bb p b d i0).s) (n:=p.n) (by omega);have q:roomN (Cw p xs xb n b d i0 i).s p.n+1=roomN (Bb p b d i0).s p.n:=Ku (p:=Bb p b d i0) q1 (I9 a.1 hn a.2 g);obtain⟨m,j⟩:=GG (f:=(Cw p xs xb n b d i0 i).s) (n:=p.n) (by omega);rw[UZ a.1 hn a.2 c.2 g q1 j];refine⟨a.1,n,hn,rfl,c.2,rfl,(i:Int),b,(i0:Int),b,zDe a.1 hn a.2 c.2 g q1 j,fun l=>?_,zAc a.1 hn a.2 c.2 g q1 j⟩;have:=a.2.1.1;have:=l.2;omega
  ·rw[MZ h a c]at e;exact absurd e (by decide)
 ·rw[MV h a]at e;exact absurd e (by decide)
theorem UV{AA:Int}(d:(CV p xs xb AA b).code=0) :
 Ai p xs xb/\∃n:Nat,n<64/\AA=(n:Int)/\(CV p xs xb AA b).old=BN p xs xb n 3/\∃ms mb,New p xs xb n b (CV p xs xb AA b).pool (CV p xs xb AA b).rs (CV p xs xb AA b).rb ms mb 0 0:=by
 by_cases a:Ai p xs xb/\Bv xb b
 ·by_cases e:EA AA
  ·obtain⟨n,rfl⟩:=Int.eq_ofNat_of_zero_le e.1;have hn:n<64:=(by have:=e.2;omega);by_cases j:Nil (BS p xs xb n) (BY p xs xb n)
   ·rw[RC a e j]at d;exact absurd d (by decide)
   ·have m:CV p xs xb (n:Int) b=Bn p xs xb n b ⟨p,0,0,0⟩:=M5 a e j;refine⟨a.1,n,hn,rfl,?_⟩;rw[m]at d ⊢;have rest:∀(q:A5) (x y:Int),layS p xs xb n b ⟨p,0,0,0⟩ 1=⟨q,x,y,0⟩->AY q->Bm q (BJ (AX p xs xb n 0 x) (AW p xs xb n 0 y) b)->((CO (AX p xs xb n 0 x) (AW p xs xb n 0 y)->New p xs xb n b q 0 0 x y 0 0)/\(¬CO (AX p xs xb n 0 x) (AW p xs xb n 0 y)->∀i,BU q.n q.s i->New p xs xb n b (Aq q i (BJ (AX p xs xb n 0 x) (AW p xs xb n 0 y) b)) (i:Int) b x y 0 0))->
     (Bn p xs xb n b ⟨p,0,0,0⟩).old=BN p xs xb n 3/\∃ms mb,New p xs xb n b (Bn p xs xb n b ⟨p,0,0,0⟩).pool (Bn p xs xb n b ⟨p,0,0,0⟩).rs (Bn p xs xb n b ⟨p,0,0,0⟩).rb ms mb 0 0:=fun q x y g l hF k=>by
     by_cases c:CO (AX p xs xb n 0 x) (AW p xs xb n 0 y)
     ·rw[QQ g c];exact⟨rfl,x,y,k.1 c⟩
     ·by_cases r0:roomN q.s q.n=0
      ·rw[RB g c l hF (Jm r0)]at d;exact absurd d (by decide)
      ·obtain⟨i,hi⟩:=GG (f:=q.s) (n:=q.n) (by omega);rw[QR g c l hF hi];exact⟨rfl,x,y,k.2 c i hi⟩
    have fl:Bm p (BJ (AX p xs xb n 1 0) (AW p xs xb n 1 0) b):=FC a.1 hn (by omega) a.2 (fun s t h=>h) (Or.inl ⟨rfl,rfl⟩);by_cases c:CO (AX p xs xb n 1 0) (AW p xs xb n 1 0)
    ·exact rest p 0 0 (zC c) a.1.1 (FC a.1 hn (by omega) a.2 (fun s t h=>h) (Or.inl ⟨rfl,rfl⟩)) (Uh a.1 hn a.2 (Or.inl ⟨c,rfl,rfl,rfl⟩))
    ·by_cases r0:roomN p.s p.n=0
     ·rw[V6 a.1 hn a.2 c (Jm r0)]at d;exact absurd d (by decide)
     ·obtain⟨i,hi⟩:=GG (f:=p.s) (n:=p.n) (by omega);exact rest _ (i:Int) b (zD a.1 hn a.2 c hi) (Jk a.1.1 hi fl) (FC a.1 hn (by omega) a.2 (fun s t h=>L0 hi.2.1 h) (Or.inr ⟨Ky (s:=BJ (AX p xs xb n 1 0) (AW p xs xb n 1 0) b) hi a.2.1.1,Int.le_refl _⟩)) (Uh a.1 hn a.2 (Or.inr ⟨c,i,hi,rfl,rfl,rfl⟩))
  ·rw[Rd a e]at d;exact absurd d (by decide)
 ·rw[MN a]at d;exact absurd d (by decide)
theorem V4(p:A5)(xs xb:Int)(n:Nat)(b:Int)(o:Dm):An (Bn p xs xb n b o).pool<=An o.pool+16/\(Bn p xs xb n b o).old.length<=3:=by
 have c:=Qr p xs xb n b o 2;have a:(BN p xs xb n 3).length<=3:=II _ _ 3;unfold Bn;split
 ·exact⟨Nat.zero_le _,Nat.zero_le _⟩
 ·split
  ·exact⟨Nat.zero_le _,Nat.zero_le _⟩
  ·exact⟨by show An (layS p xs xb n b o 2).pool<=_;omega,a⟩
theorem Oo(p:A5)(xs xb AA:Int)(d:ByteArray)(b:Int):An (CA p xs xb AA d b).pool<=An p+40/\(CA p xs xb AA d b).old.length<=3:=by
 unfold CA;split
 ·exact⟨Nat.zero_le _,Nat.zero_le _⟩
 ·split
  ·split
   ·rename_i e
    split
    ·have a:=V4 p xs xb AA.toNat b ⟨(By p (BK b d)).pool,(By p (BK b d)).ps,(By p (BK b d)).pb,0⟩;have f:=Rb p (BK b d);have g:Cf (BK b d)=16:=(by show 0+d.size=16;rw[e.2]);exact⟨by have c:=a.1;simp only at c;omega,a.2⟩
    ·exact⟨Nat.zero_le _,Nat.zero_le _⟩
   ·exact⟨Nat.zero_le _,Nat.zero_le _⟩
  ·exact⟨Nat.zero_le _,Nat.zero_le _⟩
theorem Oi(p:A5)(xs xb AA b:Int):An (CV p xs xb AA b).pool<=An p+40/\(CV p xs xb AA b).old.length<=3:=by
 unfold CV;split
 ·split
  ·split
   ·exact⟨Nat.zero_le _,Nat.zero_le _⟩
   ·have a:=V4 p xs xb AA.toNat b ⟨p,0,0,0⟩;exact⟨by have c:=a.1;simp only at c;omega,a.2⟩
  ·exact⟨Nat.zero_le _,Nat.zero_le _⟩
 ·exact⟨Nat.zero_le _,Nat.zero_le _⟩
def Ii(c:Int):Prop:=c=0\/∃i,i<7/\c=CZ i
theorem XJ(p:A5)(s:AG):Ii (By p s).code:=by
 unfold By;split
 ·split
  ·exact Or.inl rfl
  ·exact Or.inr ⟨4,by omega,rfl⟩
 ·exact Or.inr ⟨0,by omega,rfl⟩
theorem Vq(p:A5)(xs xb:Int)(n:Nat)(b:Int)(o:Dm)(h:Ii o.code)(L:Nat):Ii (layS p xs xb n b o L).code:=by
 cases L with
 | zero=>exact h
 | succ L=>
  unfold layS;unfold JJ GP;split
  ·exact Or.inl rfl
  ·exact XJ _ _
theorem Vp(p:A5)(xs xb:Int)(n:Nat)(b:Int)(o:Dm)(h:Ii o.code):Ii (Bn p xs xb n b o).code:=by
 unfold Bn;split
 ·exact Vq p xs xb n b o h 1
 ·split
  ·exact Vq p xs xb n b o h 2
  ·exact Or.inl rfl
theorem zAa(p:A5)(xs xb AA:Int)(d:ByteArray)(b:Int):Ii (CA p xs xb AA d b).code:=by
 unfold CA;split
 ·exact Or.inr ⟨1,by omega,rfl⟩
 ·split
  ·split
   ·split
    ·exact Vp _ _ _ _ _ _ (Or.inl rfl)
    ·exact XJ _ _
   ·exact Or.inr ⟨6,by omega,rfl⟩
  ·exact Or.inr ⟨0,by omega,rfl⟩
theorem zED(p:A5)(xs xb AA b:Int):Ii (CV p xs xb AA b).code:=by
 unfold CV;split
 ·split
  ·split
   ·exact Or.inr ⟨2,by omega,rfl⟩
   ·exact Vp _ _ _ _ _ _ (Or.inl rfl)
  ·exact Or.inr ⟨6,by omega,rfl⟩
 ·exact Or.inr ⟨0,by omega,rfl⟩
theorem zDg(h:l.Nodup)(hi:∀x,x∈l->∀y,y∈l->x.1=y.1->x=y):(l.map Prod.fst).Nodup:=by
 unfold List.Nodup at h ⊢;rw[List.pairwise_map];exact h.imp_of_mem (fun {a b} d f c e=>c (hi a d b f e))
theorem New.hold(h:New p xs xb n b q ys yb ms mb gs gb)(a:Ai p xs xb)(hn:n<64):CP q (BN p xs xb n 3):=by
 have f:=CP.tree a.1 a.2;refine⟨h.right,fun x g=>?_,zDg (X4 a hn) (fun x g y k e=>?_)⟩
 ·obtain⟨c,d⟩:=f.2.1 x (NE a hn g);exact⟨h.ext.points c,fun j=>d ((h.ext.has x.1).1 j)⟩
 ·have c:=(f.2.1 x (NE a hn g)).1.2.2.2;have d:=(f.2.1 y (NE a hn k)).1.2.2.2;have i:x.2=y.2:=(by rw[<-c,<-d,e]);exact Prod.ext e i
def KF(y:D4):Prop:=Ii y.code/\y.old.length<=3/\(y.code=0->CP y.pool y.old)
theorem zAb(p:A5)(xs xb AA:Int)(d:ByteArray)(b:Int):KF (CA p xs xb AA d b):=⟨zAa _ _ _ _ _ _,(Oo _ _ _ _ _ _).2,fun e=>by
 obtain⟨c,n,hn,-,-,f,ms,mb,gs,gb,a,-,-⟩:=VZ e;rw[f];exact a.hold c hn⟩
theorem zEE(p:A5)(xs xb AA b:Int):KF (CV p xs xb AA b):=⟨zED _ _ _ _ _,(Oi _ _ _ _ _).2,fun d=>by
 obtain⟨c,n,hn,-,e,ms,mb,a⟩:=UV d;rw[e];exact a.hold c hn⟩
def DR(W:A4)(k:Nat)(y:D4):List (Int×Int):=Bj (AK y.old) (AM y.old) (AI W (W.A1 k).A6).time y.old.length
def Jy(W:A4)(k:Nat)(y:D4):List (Int×Int):=C5 (AK y.old) (AM y.old) (AI W (W.A1 k).A6).time y.old.length
def CS(W:A4)(k:Nat)(y:D4):List (Int×Int):=Bx (W.A1 k).dn (W.A1 k).ds (W.A1 k).db ++ Jy W k y
def FY(W:A4)(k:Nat)(y:D4):Ad:={W.A1 k with rs:=y.rs,rb:=y.rb,dn:=(CS W k y).length,ds:=AK (CS W k y),db:=AM (CS W k y)}
def Cu(W:A4)(k:Nat)(y:D4):A4:={W with pool:=BH y.pool (DR W k y),A1:=fun j=>if j=k then FY W k y else W.A1 j}
open Classical in
def Cm(W:A4)(k:Nat)(y:D4):Bk:=if y.code=0 then⟨Cu W k y,0,((DR W k y).length:Int),0⟩else BQ y.code
theorem zF7{W:A4}{y:D4}(h:KF y)(a:y.code=0):CP y.pool (DR W k y):=by
 refine(h.2.2 a).sub ?_;have:=MO (AK y.old) (AM y.old) (AI W (W.A1 k).A6).time y.old.length
 rwa [XC]at this
open Go.Maps
def Dn(f:Nat->Int)(x:Int):Nat->Nat
 | 0=>0
 | k+1=>Dn f x k+(if f k=x then 1 else 0)
theorem VG(h:f k=x):Dn f x (k+1)=Dn f x k+1:=by simp[Dn,h]
theorem Tz(h:¬f k=x):Dn f x (k+1)=Dn f x k:=by simp[Dn,h]
def Mu(W:A4)(x:Int):Nat:=Dn (fun i=>(W.A1 i).A6) x W.sn+Dn (fun i=>(W.A2 i).A6) x W.pn
end
end Go.Proofs.YtehdoekmnicdiaaGreatDoor

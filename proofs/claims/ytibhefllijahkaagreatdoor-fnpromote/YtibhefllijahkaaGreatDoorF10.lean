/- A part of the proof. -/
import Derived.Deep.OwnRows
import Derived.Deep.RegionHeld
import Derived.Test.YtibhefllijahkaaGreatDoorF9
import Derived.Deep.RegionWith
import Derived.Laws.OwnMore
import Derived.Lib.SliceRun
import Derived.Deep.AppendLies
import Derived.Deep.DeepCutAuto
set_option linter.unusedVariables false
set_option maxRecDepth 20000
set_option maxHeartbeats 4000000
namespace Go.Proofs.YtibhefllijahkaaGreatDoor
open Go.RowKit
def I1(bs:Nat)(kb:Nat->Nat)(n:Nat)(f:Nat->AD)(k:Nat):Prop:=(0<n/\k=bs)\/∃i,i<n/\0<(f i).kn/\k=kb i
def Cz(w:World)(lo hi:Nat)(v0 v1:Value)(p:A8):Prop:=
 ∃(bs hb:Nat) (kb:Nat->Nat) (kv:Nat->Value),Fp w bs kb kv v0 p.n p.s/\O9 kb p.n p.s/\FK w hb v1 p.hn p.h/\(0<p.hn->¬I1 bs kb p.n p.s hb)/\
  ∀k,I1 bs kb p.n p.s k\/(0<p.hn/\k=hb)->lo<=k/\k<hi
variable{w:World}{lo hi:Nat}{v0 v1:Value}{p:A8}
theorem Cz.at(h:Cz w lo hi v0 v1 p):EE w lo hi v0 v1 p:=by
 obtain⟨e,k,l,m,c,g,d,j,b⟩:=h;exact⟨c.at fun a=>⟨b _ (Or.inl (Or.inl ⟨a,rfl⟩)),fun i hi h=>b _ (Or.inl (Or.inr ⟨i,hi,h,rfl⟩))⟩,d.at fun a=>b _ (Or.inr ⟨a,rfl⟩)⟩
variable{w':World}
theorem Cz.A0(h:Cz w lo hi v0 v1 p)(t:Below w.heap.size w w'):Cz w' lo hi v0 v1 p:=by
 obtain⟨a,i,j,k,b,c,d,e,g⟩:=h;exact⟨a,i,j,k,b.A0 t,c,d.A0 t,e,g⟩
theorem Cz.AH{S:Nat->Prop}(h:Cz w lo hi v0 v1 p)(t:AI S w w')(hs:∀k,S k->k<lo\/hi<=k):Cz w' lo hi v0 v1 p:=by
 obtain⟨d,g,j,v,l,m,o,q,e⟩:=h;have out:∀k,I1 d j p.n p.s k\/(0<p.hn/\k=g)->¬S k:=fun k r u=>by
  have a:=e k r;have b:=hs k u;omega
 exact⟨d,g,j,v,l.AH t (fun c=>out _ (Or.inl (Or.inl ⟨c,rfl⟩))) (fun i hi h=>out _ (Or.inl (Or.inr ⟨i,hi,h,rfl⟩))),m,o.AH t (fun c=>out _ (Or.inr ⟨c,rfl⟩)),q,e⟩
theorem Cz.wide{b a:Nat}(h:Cz w lo hi v0 v1 p)(q:b<=lo)(r:hi<=a):Cz w b a v0 v1 p:=by
 obtain⟨c,l,n,o,d,e,g,i,j⟩:=h;exact⟨c,l,n,o,d,e,g,i,fun k m=>by have:=j k m;omega⟩
theorem Cz.C5(h:Cz w lo hi v0 v1 p):∃a c b c',v0 = .slice a p.n c/\v1 = .slice b p.hn c':=by
 obtain⟨g,l,m,o,⟨_,a,c,d,_⟩,i,⟨_,b,c',e,_,_⟩,j,k⟩:=h;exact⟨a,c,b,c',d,e⟩
theorem EE.C5(h:EE w lo hi v0 v1 p):∃a c b c',v0 = .slice a p.n c/\v1 = .slice b p.hn c':=by
 obtain⟨⟨_,a,c,d,_⟩,⟨_,b,c',e,_⟩⟩:=h;exact⟨a,c,b,c',d,e⟩
def zGK(p:A8)(w:World)(e:Ending)(w':World):Prop:=∃v0 v1,e = .returned (.agg #[v0,v1])/\Cz w' w.heap.size w'.heap.size v0 v1 p/\Below w.heap.size w w'
def Ef:AD:={birth:=0,kn:=0,ks:=fun _=>0,kb:=fun _=>0,data:=⟨#[]⟩}
def DW(n:Nat):A8:={n:=n,s:=fun _=>Ef,hn:=0,h:=fun _=>0}
variable{n:Nat}
theorem zBK{bs:Nat}{kb:Nat->Nat}{k:Nat}:I1 bs kb n (fun _=>Ef) k↔0<n/\k=bs:=by
 constructor
 ·rintro(h | ⟨i,_,a,_⟩)
  ·exact h
  ·exact absurd a (by simp[Ef])
 ·exact Or.inl
theorem zG6{g:Nat}(hn:n<=maxLen)(hv:∃a cap,v0 = .slice a n cap/\n<=cap/\(0<n->a=some ⟨g,0,none⟩/\lo<=g/\g<hi))
 (d:∀i,i<n->AJ w g (0+i*3) (.int .i64 0)/\AJ w g (0+i*3+1) (.slice none 0 0)/\AJ w g (0+i*3+2) (.string ⟨#[]⟩)) :
 Cz w lo hi v0 (.slice none 0 0) (DW n):=by
 obtain⟨a,cap,rfl,c,e⟩:=hv;refine⟨g,0,fun _=>0,fun _=>.slice none 0 0,⟨hn,a,cap,rfl,c,fun b=>⟨0,(e b).1,fun i hi=>?_⟩⟩,fun i j _ _ _ b _=>absurd b (by simp[DW,Ef]),⟨Nat.zero_le _,none,0,rfl,Nat.le_refl _,fun h=>absurd h (Nat.lt_irrefl _),fun h=>absurd h (Nat.lt_irrefl _)⟩,fun h=>absurd h (Nat.lt_irrefl _),?_⟩
 ·exact⟨(d i hi).1,(d i hi).2.1,(d i hi).2.2,⟨Nat.zero_le _,none,0,rfl,Nat.le_refl _,fun h=>absurd h (Nat.lt_irrefl _)⟩,Nat.zero_le _,fun h=>absurd h (Nat.lt_irrefl _)⟩
 ·rintro k (h | h)
  ·obtain⟨b,rfl⟩:=zBK.1 h;exact(e b).2
  ·exact absurd h.1 (Nat.lt_irrefl _)
def Cu(s:AD):Nat:=s.kn+s.data.size
def Cl(f:Nat->AD):Nat->Nat
 | 0=>0
 | k+1=>Cl f k+Cu (f k)
def Az(p:A8):Nat:=p.n+Cl p.s p.n+p.hn
theorem zGk(f:Nat->AD){j:Nat}(h:j<n):Cu (f j)<=Cl f n:=by
 induction n with
 | zero=>omega
 | succ n ih=>
  show _<=Cl f n+Cu (f n);by_cases e:j=n
  ·subst e;omega
  ·have:=ih (by omega);omega
theorem zDr:(Tryz.prog.info? 2).map (fun i=>(i.zero,i.size,i.bytes))=some (some (.int .i64 0),1,8):=by kernel_rfl
theorem zDs:(Tryz.prog.info? 75).map (fun i=>(i.zero,i.size,i.bytes))=some (some (.agg #[.int .i64 0,.slice none 0 0,.string ⟨#[]⟩]),3,48):=by kernel_rfl
variable{α:Type}
theorem s1(l:List α)(i:Nat)(a:α):l.toArray.setIfInBounds i a=(l.set i a).toArray:=List.setIfInBounds_toArray ..
theorem s2(x:α)(l:List α)(a:α):(x :: l).set 0 a=a :: l:=rfl
theorem s3(x:α)(l:List α)(i:Nat)(a:α):(x :: l).set (i+1) a=x :: l.set i a:=rfl
def JF:List Oper->Nat->Option Oper
 | [],_=>none
 | o :: _,0=>some o
 | _ :: l,n+1=>JF l n
theorem XI:∀(l:List Oper) (i:Nat),l[i]?=JF l i
 | [],_=>rfl
 | _ :: _,0=>rfl
 | _ :: l,n+1=>by simpa[JF]using XI l n
theorem FP{a:Array Oper}{i:Nat}{o:Oper}(h:JF a.toList i=some o):a[i]?=some o:=by
 rw[<-h,<-XI,Array.getElem?_toList]
section
variable {P : Program} {md : Region.Mode} {ops : Array Oper} {Q : Exit -> Act -> World -> Prop} {S : World -> Prop}
variable{o:Oper}{b l':Array Bool}{a:Act}
theorem tk(i:Nat){v:Value}{d:Nat}{a':Act}(hi:JF ops.toList i=some o:=by exact rfl)
 (e:(Region.noSelect ops && (Region.free md ops b i && (Region.ready md ops b).contains i))=true:=by kernel_rfl)
 (n:Region.wanted o (yielded ops a.tmps)=true:=by exact rfl) (k:S w:=by assumption)
 (p:∀w,S w->(execOp a.eval o).run P w = .ok (.value v) w:=by(intro w g;(try dsimp only at g);go_simp;try with_reducible rfl))
 (m:b.setIfInBounds i true=l':=by((try simp only[s1,s2,s3]);exact rfl))
 (l:a.put o.dst v=a':=by((try simp only[Act.put,s1,s2,s3]);exact rfl))
 (j:∀c a w,Q (.panic c) (a.put o.dst v) w->Q (.panic c) a w:=by exact fun _ _ _ h=>h)
 (h:wpAnyH P md ops Q S d l' a' w):wpAnyH P md ops Q S (d+1) b a w:=by
 simp only[Bool.and_eq_true]at e;subst m l;exact wpAnyH_take (FP hi) e.1 e.2.1 e.2.2 j (Or.inl ⟨n,p⟩) k h
theorem ts(i:Nat){d:Nat}{a':Act}(hi:JF ops.toList i=some o:=by exact rfl)
 (e:(Region.noSelect ops && (Region.free md ops b i && (Region.ready md ops b).contains i))=true:=by kernel_rfl)
 (m:Region.wanted o (yielded ops a.tmps)=false:=by exact rfl) (j:S w:=by assumption)
 (l:b.setIfInBounds i true=l':=by((try simp only[s1,s2,s3]);exact rfl))
 (k:a.put o.dst undef=a':=by((try simp only[Act.put,s1,s2,s3]);exact rfl))
 (g:∀c a w,Q (.panic c) (a.put o.dst undef) w->Q (.panic c) a w:=by exact fun _ _ _ h=>h)
 (h:wpAnyH P md ops Q S d l' a' w):wpAnyH P md ops Q S (d+1) b a w:=by
 simp only[Bool.and_eq_true]at e;subst l k;exact wpAnyH_take (FP hi) e.1 e.2.1 e.2.2 g (Or.inr ⟨m,rfl⟩) j h
variable{c:Nat}
theorem rd(rs:List Nat)(h:AllReadyH P md ops Q S c b a w rs)
 (e:Region.ready md ops b=rs:=by kernel_rfl) (d:rs≠[]:=by simp):wpAnyH P md ops Q S (c+1) b a w:=wpAnyH_ready e d h
theorem rc{i:Nat}{rs:List Nat}
 (h:∀d:Act->World->Prop,Shut (∀a w,S w->(S w->wpAnyH P md ops Q S c (b.setIfInBounds i true) a w)->d a w)->if Region.wanted o (yielded ops a.tmps)=true then Oper.wp P o a w d Q else d (a.put o.dst undef) w)
 (hs:AllReadyH P md ops Q S c b a w rs) (e:JF ops.toList i=some o:=by exact rfl):AllReadyH P md ops Q S c b a w (i :: rs):=AllReadyH.cons (FP e) h hs
end
structure zJE (p:Prop):Prop where
 out:p
theorem zFc{A B:Prop}(f:zJE A->B)(h:A):B:=f ⟨h⟩
theorem Aq{P:Prop}(h:P):Hid P:=h
theorem zHy(w:World)(a b d e:Value)(c g:TypeId) :
 Ad ((w.alloc (.cells #[a,b] c)).alloc (.cells #[d,e] g)) w.heap.size a b/\Ad ((w.alloc (.cells #[a,b] c)).alloc (.cells #[d,e] g)) (w.heap.size+1) d e/\
 Below w.heap.size w ((w.alloc (.cells #[a,b] c)).alloc (.cells #[d,e] g))/\((w.alloc (.cells #[a,b] c)).alloc (.cells #[d,e] g)).heap.size=w.heap.size+2:=by
 refine⟨(Ad.new w a b c).A0 (A9 _ _),?_,A7 (A9 _ _) (A9 _ _),by simp⟩;have:=Ad.new (w.alloc (.cells #[a,b] c)) d e g;rw[World.size_alloc]at this;exact this
def zf(p:A8)(Low:AD->Prop)(s:AD):Prop:=(∃i,i<8/\¬Nil (AK s i) (AW s i))/\∀i,i<8->Nil (AK s i) (AW s i)\/Low (p.s (AK s i).toNat)
def M4(p:A8)(L:Int)(Low:AD->Prop):Prop:=∀(v:Value) (lo hi:Nat) (xs xb:Int) (w:World),Bb w lo hi v p.n p.s->BM p xs xb->
 Calls Tryz.prog 167 #[v,.agg #[.int .i64 xs,.int .i64 xb],.int .i64 L] w fun e w'=>AG (Low (p.s xs.toNat)) e/\Below w.heap.size w w'
theorem Vj(s:AD):GI (BA s) (fun _=>0)=true↔¬∃i,i<8/\¬Nil (AK s i) (AW s i):=by
 rw[Ux];constructor
 ·rintro h ⟨i,hi,hn⟩;exact hn (h i hi)
 ·intro h i hi;by_cases hn:Nil (AK s i) (AW s i)
  ·exact hn
  ·exact absurd ⟨i,hi,hn⟩ h
theorem zA6(p:A8):M4 p 2 FR:=by
 intro v lo hi xs xb w hs i;have q:=Aq hs;obtain⟨_,a,c,rfl,_⟩:=id hs;obtain⟨k,rfl⟩:=Int.eq_ofNat_of_zero_le i.2.1;have u:k<p.n:=by have:=i.2.2.1;omega
 have x:(k:Int)<(p.n:Int):=by omega
 have j:=A9 w (.cells #[.int .i64 (k:Int),.int .i64 xb] 38);obtain⟨⟨C,D⟩,⟨E,F⟩⟩:=Ad.new w (.int .i64 (k:Int)) (.int .i64 xb) 38;obtain⟨b,off,y,kc,rfl,h⟩:=(q.out.A0 j).cells u;have m:=Aq h;obtain⟨z,q1,A,_⟩:=h;clear hs i;go_enter Tryz.func167,Tryz.ntmps167;go_wp2_with fail;have d:=A9 (w.alloc (.cells #[.int .i64 (k:Int),.int .i64 xb] 38)) (.cells #[.int .i64 (p.s k).birth,.slice y (p.s k).kn kc,.string (p.s k).data] 75);refine(YX _ _ _ lo hi (p.s k) _ (m.out.slot.A0 d)).mono ?_;rintro e B ⟨⟨t,rfl,l⟩,g⟩;have r:=A7 (A7 j d) g;have o:=Aq l;clear l g;go_wp2;go_ret;refine⟨⟨t,rfl,?_⟩,r⟩;rw[Int.toNat_natCast];exact o.out
theorem Y5(p:A8)(L:Int)(y:AD->Prop)(R:Ag p)(hL:0<=L/\L<2)(x:M4 p (L+1) y):M4 p L (zf p y):=by
 intro v lo hi xs xb w hs D;have B:=Aq x;have HR:=Aq R;have W:=Aq hs;have HP:=Aq D;have P:=Aq (F5 R D);obtain⟨_,a,c,rfl,_⟩:=id hs;obtain⟨k,rfl⟩:=Int.eq_ofNat_of_zero_le D.2.1;rw[Int.toNat_natCast]at P;have hk:k<p.n:=by have:=D.2.2.1;omega
 have iA:(k:Int)<(p.n:Int):=by omega
 have fA:(L == 2)=false:=by simp;omega
 have S:=A9 w (.cells #[.int .i64 (k:Int),.int .i64 xb] 38);obtain⟨⟨x0,x1⟩,⟨x2,x3⟩⟩:=Ad.new w (.int .i64 (k:Int)) (.int .i64 xb) 38;obtain⟨b,off,ka,kc,rfl,G⟩:=(W.out.A0 S).cells hk;have U:=Aq G;obtain⟨q0,q1,q2,_⟩:=G;clear hs D x R;go_enter Tryz.func167,Tryz.ntmps167;go_wp2_with fail;have z:=A9 (w.alloc (.cells #[.int .i64 (k:Int),.int .i64 xb] 38)) (.cells #[.int .i64 (p.s k).birth,.slice ka (p.s k).kn kc,.string (p.s k).data] 75);refine(OT _ _ _ lo hi (p.s k) _ (U.out.slot.A0 z) (Kf P.out)).mono ?_;rintro e l ⟨rfl,E⟩;have Y:=A7 (A7 S z) E;clear E S z x0 x1 x2 x3 q0 q1 q2 U;have d:Hid ((Tryz.prog.info? 222).map (·.size)=some (BB (p.s k)).size):=by
  show _=_;rw[BB,Ea];exact Lr
 have X:Hid ((#[Value.int .i64 0,Value.int .i64 0,Value.int .i64 0,Value.int .i64 0,Value.int .i64 0,Value.int .i64 0,Value.int .i64 0,Value.int .i64 0,Value.int .i64 0,Value.int .i64 0,Value.int .i64 0,Value.int .i64 0,Value.int .i64 0,Value.int .i64 0,Value.int .i64 0,Value.int .i64 0]:Array Value)=BO (fun _=>0)):=rfl;have Z:∀w,(binOp .eql 222 (.agg (BB (p.s k))) (.agg #[Value.int .i64 0,Value.int .i64 0,Value.int .i64 0,Value.int .i64 0,Value.int .i64 0,Value.int .i64 0,Value.int .i64 0,Value.int .i64 0,Value.int .i64 0,Value.int .i64 0,Value.int .i64 0,Value.int .i64 0,Value.int .i64 0,Value.int .i64 0,Value.int .i64 0,Value.int .i64 0])).run Tryz.prog w = .ok (.bool (GI (BA (p.s k)) (fun _=>0))) w:=fun w=>TM (BA (p.s k)) (fun _=>0) w
 have u:(l.alloc (.cells (BB (p.s k)) 222)).heap[l.heap.size]?=some (.cells (BB (p.s k)) 222 (0,0)):=heap_alloc_last _ _;have K:=Aq u;have C:=A7 Y (A9 l (.cells (BB (p.s k)) 222));clear u Y;by_cases J:GI (BA (p.s k)) (fun _=>0)=true
 ·have O:=Aq ((Vj _).1 J);go_wp2_with (first
   | (refine wpList_store_row rfl 222 (.tmp 8) (.tmp 20) rfl l.heap.size (BB (p.s k)) rfl rfl 222 #[Value.int .i64 0,Value.int .i64 0,Value.int .i64 0,Value.int .i64 0,Value.int .i64 0,Value.int .i64 0,Value.int .i64 0,Value.int .i64 0,Value.int .i64 0,Value.int .i64 0,Value.int .i64 0,Value.int .i64 0,Value.int .i64 0,Value.int .i64 0,Value.int .i64 0,Value.int .i64 0] (heap_alloc_last _ _) d.out (by rw[BB,Ea];rfl) (L1 _) ?_;rw[World.setRow_alloc_new])
   | (refine wpList_load_row rfl 222 (.tmp 8) rfl l.heap.size rfl 222 (BB (p.s k)) (0,0) _ K.out IZ rfl d.out ?_))
  go_ret;exact⟨AG.no fun h=>O.out (by rw[Int.toNat_natCast]at h;exact h.1),C⟩
 ·have O:Hid (∃i,i<8/\¬Nil (AK (p.s k) i) (AW (p.s k) i)):=by
   by_cases h:∃i,i<8/\¬Nil (AK (p.s k) i) (AW (p.s k) i)
   ·exact h
   ·exact absurd ((Vj _).2 h) J
  have kA:GI (BA (p.s k)) (fun _=>0)=false:=(by simpa using J);clear J;go_wp2_with (first
   | (refine wpList_store_row rfl 222 (.tmp 8) (.tmp 20) rfl l.heap.size (BB (p.s k)) rfl rfl 222 #[Value.int .i64 0,Value.int .i64 0,Value.int .i64 0,Value.int .i64 0,Value.int .i64 0,Value.int .i64 0,Value.int .i64 0,Value.int .i64 0,Value.int .i64 0,Value.int .i64 0,Value.int .i64 0,Value.int .i64 0,Value.int .i64 0,Value.int .i64 0,Value.int .i64 0,Value.int .i64 0] (heap_alloc_last _ _) d.out (by rw[BB,Ea];rfl) (L1 _) ?_;rw[World.setRow_alloc_new])
   | (refine wpList_load_row rfl 222 (.tmp 8) rfl l.heap.size rfl 222 (BB (p.s k)) (0,0) _ K.out IZ rfl d.out ?_))
  have lA:l.heap.size<(l.alloc (.cells (BB (p.s k)) 222)).heap.size:=by rw[World.size_alloc];exact Nat.lt_succ_self _
  go_loopw [24] (fun i wr=>∃j:Nat,j<=8/\i = .int .i64 j/\(∀m,m<j->Nil (AK (p.s k) m) (AW (p.s k) m)\/y (p.s (AK (p.s k) m).toNat))/\wr.heap[l.heap.size]?=some (.cells (BB (p.s k)) 222 (0,0))/\Below w.heap.size w wr) (fun i _=>8 - (intOf i).toNat)
  case atStart=>exact⟨0,Nat.zero_le _,rfl,fun m hm=>absurd hm (Nat.not_lt_zero _),K.out,C⟩
  case round=>
   obtain⟨j,hj,rfl,r,hK,I⟩:=hrel;have g:=Aq r;have o:=Aq hK;have H:l.heap.size<wr.heap.size:=(Array.getElem?_eq_some_iff.1 hK).1;clear r hK;by_cases q:j<8
   ·have aA:(j:Int)<8:=(by omega);obtain⟨y0,y1⟩:=B2 (i:=j*2) o.out (I9 (BA (p.s k)) (by omega));obtain⟨y2,y3⟩:=B2 (i:=j*2+1) o.out (I9 (BA (p.s k)) (by omega));by_cases hn:Nil (AK (p.s k) j) (AW (p.s k) j)
    ·have N:=Aq hn;rw[show BA (p.s k) (j*2)=0 from hn.1]at y0;rw[show BA (p.s k) (j*2+1)=0 from hn.2]at y2;clear hn;go_wp2;go_roundw
     case rel=>exact⟨j+1,by omega,by go_num,Bf (n:=8) q g.out (Or.inl N.out),o.out,I⟩
     case measure=>simp[intOf];omega
    ·have N:=Aq hn;have T:=Aq (J8 P.out q hn).1;have e0:(BA (p.s k) (j*2) == 0)=false\/(BA (p.s k) (j*2) == 0)=true/\(BA (p.s k) (j*2+1) == 0)=false:=by
      by_cases h:BA (p.s k) (j*2)=0
      ·right;refine⟨by simp[h],?_⟩;have:BA (p.s k) (j*2+1)≠0:=fun h'=>hn ⟨h,h'⟩
       simp[this]
      ·left;simp[h]
     clear hn;rcases e0 with e0 | ⟨e0,e1⟩
     all_goals
      go_wp2_with fail;refine(B.out _ lo hi (BA (p.s k) (j*2)) (BA (p.s k) (j*2+1)) _ (W.out.A0 I) T.out).mono ?_;rintro e w2 ⟨⟨t,rfl,ht⟩,A⟩;have V:=Aq ht;have M:=Aq ((A.block _ H).trans o.out);have F:=A7 I A;clear ht A y0 y1 y2 y3;cases t
      ·go_wp2;go_ret;refine⟨AG.no fun h=>?_,F⟩;rw[Int.toNat_natCast]at h;rcases h.2 j q with Q | Q
       ·exact N.out Q
       ·exact absurd (V.out.2 Q) (by simp)
      ·go_wp2;go_roundw
       case rel=>exact⟨j+1,by omega,by go_num,Bf (n:=8) q g.out (Or.inr (V.out.1 trivial)),M.out,F⟩
       case measure=>simp[intOf];omega
   ·obtain rfl:j=8:=(by omega);go_wp2;go_ret;exact⟨AG.yes (by rw[Int.toNat_natCast];exact⟨O.out,g.out⟩),I⟩
theorem zA5(p:A8)(a:Ag p):M4 p 1 (NO p):=Y5 p 1 FR a (by omega) (zA6 p)
theorem Y4(p:A8)(a:Ag p):M4 p 0 (NN p):=Y5 p 0 (NO p) a (by omega) (zA5 p a)
def zGL(s:AD)(w:World)(e:Ending)(w':World):Prop:=
 ∃kv kb,e = .returned (.agg #[.int .i64 s.birth,kv,.string s.data])/\CI w' kb kv s.kn s.ks s.kb/\(0<s.kn->w.heap.size<=kb/\kb<w'.heap.size)/\Below w.heap.size w w'
def kc(f g:Nat->Int):Nat->List Value
 | 0=>[]
 | k+1=>kc f g k ++ [.int .i64 (f k),.int .i64 (g k)]
theorem KZ(f g:Nat->Int)(k:Nat):(kc f g k).length=k*2:=by
 induction k with
 | zero=>rfl
 | succ k ih=>simp[kc,ih];omega
theorem SI(f g:Nat->Int)(k i r:Nat)(hi:i<k)(a:r<2):(kc f g k)[i*2+r]? = [Value.int .i64 (f i),.int .i64 (g i)][r]?:=by
 induction k with
 | zero=>omega
 | succ k ih=>
  unfold kc;by_cases e:i<k
  ·rw[List.getElem?_append_left (by rw[KZ];omega)];exact ih e
  ·obtain rfl:i=k:=(by omega);rw[List.getElem?_append_right (by rw[KZ];omega),KZ];congr 1;omega
theorem Zw(f g:Nat->Int)(k:Nat):∀u∈kc f g k,u.oneCell'=true:=by
 induction k with
 | zero=>intro u a;simp[kc]at a
 | succ k ih=>
  intro u a;simp only[kc,List.mem_append,List.mem_cons,List.not_mem_nil,or_false]at a;rcases a with a | rfl | rfl
  ·exact ih u a
  ·rfl
  ·rfl
variable{b:Nat}{f g:Nat->Int}
theorem VA{off:Nat}(h:∀i,i<n->w.cell? ⟨b,off+i*2,none⟩=some (.int .i64 (f i))/\w.cell? ⟨b,off+i*2+1,none⟩=some (.int .i64 (g i))) :
 ∀j u,(kc f g n)[j]?=some u->w.cell? ((⟨b,off,none⟩:Addr).add j)=some u:=by
 intro j u d;have k:j<n*2:=by
  have:=(List.getElem?_eq_some_iff.1 d).1
  rwa [KZ]at this
 have a:(⟨b,off,none⟩:Addr).add j=⟨b,off+j,none⟩:=by unfold Addr.add;split<;>simp_all
 rw[a];obtain⟨c0,c1⟩:=h (j / 2) (by omega);have e:=SI f g n (j / 2) (j % 2) (by omega) (by omega);rw[show j / 2*2+j % 2=j by omega,d]at e;rcases(by omega:j % 2=0\/j % 2=1)with c | c
 ·rw[c]at e;simp at e;subst e;rw[show off+j=off+j / 2*2 by omega];exact c0
 ·rw[c]at e;simp at e;subst e;rw[show off+j=off+j / 2*2+1 by omega];exact c1
variable{base e:Nat}{v:Value}
theorem ZC(l:n<=maxLen)(h:w.ownsRow base e 2 v n (kc f g n)):∃k,CI w k v n f g/\(0<n->base<=k/\k<w.heap.size):=by
 by_cases d:0<n
 ·obtain⟨m,cap,rfl,c,o,j,b⟩:=FN h d;refine⟨m,⟨l,_,cap,rfl,c,fun _=>⟨0,rfl,fun i hi=>⟨?_,?_⟩⟩⟩,fun _=>⟨o,j⟩⟩
  ·have:=b (i*2+0) _ (SI f g n i 0 hi (by omega));simpa using this
  ·have:=b (i*2+1) _ (SI f g n i 1 hi (by omega));simpa using this
 ·obtain⟨a,cap,rfl,c⟩:=CV h;exact⟨0,⟨l,a,cap,rfl,c,fun h=>absurd h d⟩,fun h=>absurd h d⟩
variable{P:Program}
theorem ZS(base:Nat)(t ty e:TypeId)(i:TypeInfo)(size c:Nat)(b:Option Addr)(h:P.underlying t=some (.slice e))(hi:P.info? e=some i)
 (v:Value) (n:Nat) (xs:List Value) (a:w.ownsRow base e size v n xs) :
 (Builtin.append_ #[t,t] ty #[v,.slice b 0 c]).run P w = .ok v w:=by
 rcases a.2 with⟨rfl,rfl⟩ | ⟨g,cap,j,rfl,_,_,d,_⟩
 ·cases b<;>simp[Builtin.append_,run_underlying h,sizeOf,typeInfo,hi,Builtin.lenOf,Builtin.firstCells,loadCells,loadCellsFrom]
 ·cases b<;>simp[Builtin.append_,run_underlying h,sizeOf,typeInfo,hi,Builtin.lenOf,Builtin.firstCells,d,storeCells,loadCells,loadCellsFrom]
variable{rest:List Oper}{Q:Exit->Act->World->Prop}
theorem zDR{g:Array Oper}{o:Oper}{a:Act}(j:o.guard=none)(s x:Operand)(t:TypeId)
 (p:o.op = .call {callee:=.builtin .append,args:=#[s,x],argTypes:=#[t,t]})
 (base:Nat) (e:TypeId) (i:TypeInfo) (size c m:Nat) (k:Option Addr) (q:P.underlying t=some (.slice e)) (hi:P.info? e=some i)
 (v:Value) (n:Nat) (xs:List Value) (hs:a.eval s=v) (b:w.ownsRow base e size v n xs) (l:m=0) (r:a.eval x = .slice k m c)
 (h:wpList P g Q rest (a.put o.dst v) w):wpList P g Q (o :: rest) a w:=by
 subst l;refine wpList_plain j fun K hK=>?_
 have d:=ZS (P:=P) (w:=w) base t o.type e i size c k q hi v n xs b;unfold Oper.wp;simp[execOp,p,resolve,invoke,builtin,hs,r,d,Result.andThen];exact hK _ _ h
theorem Qg:(Tryz.prog.info? 38).map (fun i=>(i.zero,i.size,i.bytes))=some (some (.agg #[.int .i64 0,.int .i64 0]),2,16):=by kernel_rfl
def sc(f:Nat->AD)(kv:Nat->Value):Nat->List Value
 | 0=>[]
 | k+1=>sc f kv k ++ [.int .i64 (f k).birth,kv k,.string (f k).data]
theorem Lf(f:Nat->AD)(a:Nat->Value)(k:Nat):(sc f a k).length=k*3:=by
 induction k with
 | zero=>rfl
 | succ k ih=>simp[sc,ih];omega
theorem Mz(f:Nat->AD)(a:Nat->Value)(k i r:Nat)(hi:i<k)(b:r<3):(sc f a k)[i*3+r]? = [Value.int .i64 (f i).birth,a i,.string (f i).data][r]?:=by
 induction k with
 | zero=>omega
 | succ k ih=>
  unfold sc;by_cases e:i<k
  ·rw[List.getElem?_append_left (by rw[Lf];omega)];exact ih e
  ·obtain rfl:i=k:=(by omega);rw[List.getElem?_append_right (by rw[Lf];omega),Lf];congr 1;omega
theorem zIE(f:Nat->AD)(b:Nat->Value)(k:Nat)(h:∀i,i<k->(b i).oneCell'=true):∀u∈sc f b k,u.oneCell'=true:=by
 induction k with
 | zero=>intro u a;simp[sc]at a
 | succ k ih=>
  intro u a;simp only[sc,List.mem_append,List.mem_cons,List.not_mem_nil,or_false]at a;rcases a with a | rfl | rfl | rfl
  ·exact ih (fun i hi=>h i (by omega)) u a
  ·rfl
  ·exact h k (by omega)
  ·rfl
variable{w1:World}{row:Option Nat}
theorem zDI(h:w.grownBy w1 row):AI (fun b=>row=some b) w w1:=⟨h.os,h.tape,h.output,h.size,fun k a hs=>h.block k a (fun e=>hs e.symm)⟩
theorem JD(h:Below w.heap.size w w1)(row:Option Nat):w.grownBy w1 row:=⟨h.os,h.tape,h.output,h.size,fun k a _=>h.block k a⟩
def ic(f:Nat->Int):Nat->List Value
 | 0=>[]
 | k+1=>ic f k ++ [.int .i64 (f k)]
theorem Lk(f:Nat->Int)(k:Nat):(ic f k).length=k*1:=by
 induction k with
 | zero=>rfl
 | succ k ih=>simp[ic,ih]
theorem yG(f:Nat->Int)(k i:Nat)(hi:i<k):(ic f k)[i]?=some (Value.int .i64 (f i)):=by
 induction k with
 | zero=>omega
 | succ k ih=>
  unfold ic;by_cases e:i<k
  ·rw[List.getElem?_append_left (by rw[Lk];omega)];exact ih e
  ·obtain rfl:i=k:=(by omega);rw[List.getElem?_append_right (by rw[Lk];omega),Lk];simp
theorem zId(f:Nat->Int)(k:Nat):∀u∈ic f k,u.oneCell'=true:=by
 induction k with
 | zero=>intro u a;simp[ic]at a
 | succ k ih=>
  intro u a;simp only[ic,List.mem_append,List.mem_cons,List.not_mem_nil,or_false]at a;rcases a with a | rfl
  ·exact ih u a
  ·rfl
theorem add_lit(b off j:Nat):(⟨b,off,none⟩:Addr).add j=⟨b,off+j,none⟩:=by unfold Addr.add;split<;>simp_all
theorem zFT{off:Nat}(h:∀i,i<n->w.cell? ⟨b,off+i,none⟩=some (.int .i64 (f i))) :
 ∀j u,(ic f n)[j]?=some u->w.cell? ((⟨b,off,none⟩:Addr).add j)=some u:=by
 intro j u c;have a:j<n:=by
  have:=(List.getElem?_eq_some_iff.1 c).1;rw[Lk]at this;omega
 rw[yG f n j a]at c;rw[add_lit,h j a];exact c
variable{xs:List Value}
theorem zGc{g cap:Nat}(h:w.ownsRow base e 1 (.slice (some ⟨g,0,none⟩) n cap) n xs)(c:0<n):0<n/\(some ⟨g,0,none⟩:Option Addr)=some ⟨g,0,none⟩/\cap<=maxLen/\∃a,w.heap[g]?=some (.cells a e (0,0))/\a.size=cap:=by
 obtain⟨_,⟨h,rfl⟩ | ⟨g',b,a,hv,_,j,_,d,i,_⟩⟩:=h
 ·omega
 ·simp only[Value.slice.injEq,Option.some.injEq,Addr.mk.injEq,and_true,true_and]at hv;obtain⟨rfl,rfl⟩:=hv;exact⟨c,rfl,d,a,j,by simpa using i⟩
theorem zCL(j:n<=maxLen)(h:w.ownsRow base 2 1 v n (ic f n))(m:n=0->∃a,v = .slice a 0 0):∃d,FK w d v n f/\(0<n->base<=d/\d<w.heap.size):=by
 by_cases g:0<n
 ·obtain⟨l,cap,rfl,c,d,e,b⟩:=FN h g;refine⟨l,⟨j,_,cap,rfl,c,fun _=>⟨0,rfl,fun i hi=>?_⟩,fun _=>?_⟩,fun _=>⟨d,e⟩⟩
  ·have:=b i _ (yG f n i hi);simpa using this
  ·exact zGc h g
 ·obtain⟨a,cap,rfl,c⟩:=CV h;exact⟨0,⟨j,a,cap,rfl,c,fun h=>absurd h g,fun e=>by obtain⟨o,k⟩:=m (by omega);simp only[Value.slice.injEq]at k;omega⟩,fun h=>absurd h g⟩
theorem B7{P:Prop}(h:P):Hid P:=h
theorem LK{A:Array Oper}{o:Oper}{a:Act}(y:o.guard=none)(s x:Operand)(t:TypeId)
 (M:o.op = .call {callee:=.builtin .append,args:=#[s,x],argTypes:=#[t,t]})
 (base:Nat) (e:TypeId) (i:TypeInfo) (z:Value) (size bytes:Nat) (N:P.underlying t=some (.slice e)) (hi:P.info? e=some i) (W:i.zero=some z)
 (r:i.size=size) (F:i.bytes=bytes) (K:z.cells.size=size) (J:0<size)
 (v:Value) (n:Nat) (xs:List Value) (hs:a.eval s=v) (k:w.ownsRow base e size v n xs)
 (C:Option Addr) (m c:Nat) (d:List Value) (O:a.eval x = .slice C m c) (G:d.length=m*size) (U:∀u∈d,u.oneCell'=true)
 (g:0<m->∃b off,C=some ⟨b,off,none⟩/\∀j u,d[j]?=some u->w.cell? ⟨b,off+j,none⟩=some u)
 (E:n+m<=maxLen) (l:(n+m)*bytes<=140737488355328) (q:base<=w.heap.size)
 (h:∀B w',w'.ownsRow base e size B (n+m) (xs ++ d)->w.grownBy w' v.ownBlock->(m=0->B=v)->wpList P A Q rest (a.put o.dst B) w'):wpList P A Q (o :: rest) a w:=by
 by_cases p:m=0
 ·have I:d = []:=List.eq_nil_of_length_eq_zero (by rw[G,p,Nat.zero_mul]);exact zDR y s x t M base e i size c m C N hi v n xs hs k p O (h v w (by subst p;subst I;simpa using k) ⟨rfl,rfl,rfl,Nat.le_refl _,fun _ _ _=>rfl⟩ (fun _=>rfl))
 cases C with
 | none=>
  obtain⟨b,off,D,_⟩:=g (by omega);simp at D
 | some ad=>
  refine wpList_append_own w y s x t M base e i z size bytes N hi W r F K J v n xs hs k ad m c d O G (fun j u L=>?_) U E l q (fun B w' R S _=>h B w' R S (fun e=>absurd e p));have T:0<m:=by
   have:=(List.getElem?_eq_some_iff.1 L).1;rw[G]at this;rcases Nat.eq_zero_or_pos m with H | H
   ·rw[H,Nat.zero_mul]at this;omega
   ·exact H
  obtain⟨b,off,D,V⟩:=g T;simp only[Option.some.injEq]at D;subst D;rw[add_lit];exact V j u L
variable{c:Nat}
theorem zGz(h:ED w lo hi v n f){a:Option Addr}(hv:v = .slice a n c)(i:Below w.heap.size w w') :
 0<n->∃b off,a=some ⟨b,off,none⟩/\∀j u,(ic f n)[j]?=some u->w'.cell? ⟨b,off+j,none⟩=some u:=by
 obtain⟨_,m,c0,d,_,g⟩:=h;subst hv;simp only[Value.slice.injEq,true_and]at d;obtain⟨rfl,rfl⟩:=d;intro hn;obtain⟨b,off,e,_,_,k⟩:=g hn;refine⟨b,off,e,fun j u l=>?_⟩;have:=zFT k j u l;rw[add_lit]at this;exact(i.cell (AZ this)).trans this
theorem zFj{B B' size:Nat}(h:w.ownsRow B' e size v n xs)(d:B<=B'):w.ownsRow B e size v n xs:=
 ⟨h.1,h.2.imp id (fun ⟨g,cap,cur,a,b,c⟩=>⟨g,cap,cur,a,Nat.le_trans d b,c⟩)⟩
def pcl:List (Int×Int)->List Value
 | []=>[]
 | x :: l=>.int .i64 x.1 :: .int .i64 x.2 :: pcl l
theorem So:∀l,(pcl l).length=l.length*2
 | []=>rfl
 | x :: l=>by simp[pcl,So l];omega
theorem Rb:∀l m,pcl (l ++ m)=pcl l ++ pcl m
 | [],m=>rfl
 | x :: l,m=>by simp[pcl,Rb l m]
theorem Sp:∀l,∀u∈pcl l,u.oneCell'=true
 | [],u,a=>by simp[pcl]at a
 | x :: l,u,a=>by
  simp only[pcl,List.mem_cons]at a;rcases a with rfl | rfl | a
  ·rfl
  ·rfl
  ·exact Sp l u a
theorem Sn:∀(l:List (Int×Int)) i,i<l.length->(pcl l)[i*2]?=some (.int .i64 (l.getD i (0,0)).1)/\(pcl l)[i*2+1]?=some (.int .i64 (l.getD i (0,0)).2):=by
 intro l
 induction l with
 | nil=>intro i hi;simp at hi
 | cons x l ih=>
  intro i hi;cases i with
  | zero=>exact⟨rfl,rfl⟩
  | succ i=>
   have:=ih i (by simpa using hi);rw[show(i+1)*2=i*2+1+1 by omega];simpa[pcl]using this
def AO(l:List (Int×Int))(i:Nat):Int:=(l.getD i (0,0)).1
def AS(l:List (Int×Int))(i:Nat):Int:=(l.getD i (0,0)).2
theorem Qf:(Tryz.prog.info? 38).map (fun i=>(i.zero,i.size,i.bytes))=some (some (.agg #[.int .i64 0,.int .i64 0]),2,16):=by kernel_rfl
theorem Dy(h:Below w.heap.size w w1)(row:Option Nat):w.grownBy w1 row:=⟨h.os,h.tape,h.output,h.size,fun k a _=>h.block k a⟩
def BQ(w:World)(base:Nat)(v:Value)(l:List (Int×Int)):Prop:=w.ownsRow base 38 2 v l.length (pcl l)
variable{l:List (Int×Int)}
theorem BQ.A0(h:BQ w base v l)(a:Below w.heap.size w w1):BQ w1 base v l:=
 h.kept (Dy a none) (by cases v.ownBlock<;>simp)
theorem BQ.AH(h:BQ w base v l)(b:w.grownBy w1 row)(a:∀q,v.ownBlock=some q->row≠some q):BQ w1 base v l:=
 h.kept b (by
  cases hv:v.ownBlock with
  | none=>simp
  | some q=>exact Or.inr (fun e=>a q hv e.symm))
theorem BQ.nil(w:World)(base:Nat):BQ w base (.slice none 0 0) []:=World.ownsRow_nil _ _ _ _
theorem BQ.mono{a:Nat}(h:BQ w base v l)(i:a<=base):BQ w a v l:=by
 refine⟨h.1,h.2.imp id ?_⟩;rintro⟨g,cap,b,e,c,d⟩;exact⟨g,cap,b,e,Nat.le_trans i c,d⟩
theorem BQ.put{o:Nat}(h:BQ w base v l)(j:b<base)(u:Value):BQ (w.setCell ⟨b,o,none⟩ u) base v l:=by
 refine⟨h.1,h.2.imp id ?_⟩;rintro⟨g,cap,a,e,c,d,i⟩;exact⟨g,cap,a,e,c,(Below.heap_setCell _ _ _ _ (fun e=>by have:g=b:=e;omega)).trans d,i⟩
theorem BQ.lt(h:BQ w base v l){q:Nat}(a:v.ownBlock=some q):base<=q/\q<w.heap.size:=by
 rcases h.2 with⟨rfl,_⟩ | ⟨g,cap,b,rfl,c,d,_⟩
 ·simp[Value.ownBlock]at a
 ·simp only[Value.ownBlock,Option.some.injEq]at a;subst a;exact⟨c,(Array.getElem?_eq_some_iff.1 d).1⟩
theorem BQ.own(h:BQ w base v l)(k:l.length<=maxLen):∃b,CI w b v l.length (AO l) (AS l)/\(0<l.length->v.ownBlock=some b/\base<=b/\b<w.heap.size):=by
 by_cases e:0<l.length
 ·obtain⟨g,cap,rfl,d,m,j,c⟩:=FN h e;refine⟨g,⟨k,_,cap,rfl,d,fun _=>⟨0,rfl,fun i hi=>?_⟩⟩,fun _=>⟨rfl,m,j⟩⟩;rw[Nat.zero_add];exact⟨c _ _ (Sn l i hi).1,c _ _ (Sn l i hi).2⟩
 ·obtain⟨a,cap,rfl,d⟩:=CV h;exact⟨0,⟨k,a,cap,rfl,d,fun h=>absurd h e⟩,fun h=>absurd h e⟩
def zIH(l:List (Int×Int))(w:World)(e:Ending)(w':World):Prop:=∃v,e = .returned v/\w'.ownsRow w.heap.size 38 2 v l.length (pcl l)/\Below w.heap.size w w'
def D7(F:Int->Int->List (Int×Int))(s:AD):Nat->List (Int×Int)
 | 0=>[]
 | k+1=>D7 F s k ++ F (AK s k) (AW s k)
theorem RH(s:AD):∀k,D7 one s k=kidsUp (AK s) (AW s) k
 | 0=>rfl
 | k+1=>by rw[D7,kidsUp,RH s k]
theorem RG(p:A8)(s:AD):∀k,D7 (DV p) s k=Ci p s k
 | 0=>rfl
 | k+1=>by rw[D7,Ci,RG p s k]
theorem XT{F:Int->Int->List (Int×Int)}(hF:∀a b,(F a b).length<=9)(s:AD):∀k,(D7 F s k).length<=9*k
 | 0=>Nat.le_refl _
 | k+1=>by
  have:=XT hF s k;have:=hF (AK s k) (AW s k);rw[D7,List.length_append];omega
def FY(p:A8)(F:Int->Int->List (Int×Int))(xs xb:Int):List (Int×Int):=if Nil xs xb then [] else(xs,xb) :: D7 F (p.s xs.toNat) 8
def M3(p:A8)(L:Int)(F:Int->Int->List (Int×Int)):Prop:=∀(v:Value) (lo hi:Nat) (xs xb:Int) (w:World),Bb w lo hi v p.n p.s->(Nil xs xb\/BM p xs xb)->
 Calls Tryz.prog 169 #[v,.agg #[.int .i64 xs,.int .i64 xb],.int .i64 L] w (zIH (F xs xb) w)
theorem zBH{K:Nat}{cs:Array Value}(h:w.ownsRow base 38 2 v n xs)(hK:w.heap[K]?=some (.cells cs 222 (0,0))):v.ownBlock≠some K:=by
 intro e;rcases h.2 with⟨rfl,_⟩ | ⟨g,cap,b,rfl,_,a,_⟩
 ·simp[Value.ownBlock]at e
 ·simp only[Value.ownBlock,Option.some.injEq]at e;subst e;rw[hK]at a;simp only[Option.some.injEq,Obj.cells.injEq]at a;exact absurd a.2.1 (by decide)
theorem P2{xs xb:Int}(h:¬Nil xs xb):(xs == 0)=false\/(xs == 0)=true/\(xb == 0)=false:=by
 by_cases a:xs=0
 ·right;refine⟨by simp[a],?_⟩;have:xb≠0:=fun b=>h ⟨a,b⟩
  simp[this]
 ·left;simp[a]
theorem zDY(p:A8):M3 p 2 one:=by
 intro v lo hi xs xb w hs k;obtain⟨_,a,c,rfl,_⟩:=id hs;have h:=A9 w (.cells #[.int .i64 xs,.int .i64 xb] 38);obtain⟨⟨l,m⟩,⟨n,o⟩⟩:=Ad.new w (.int .i64 xs) (.int .i64 xb) 38;have b:=World.ownsRow_lit (e:=38) (size:=2) (base:=w.heap.size) (w.alloc (.cells #[.int .i64 xs,.int .i64 xb] 38)) #[.int .i64 xs,.int .i64 xb] 1 (by simp) (by unfold maxLen;omega) rfl;rw[World.size_alloc]at b;have d:=Aq b;have i:=Aq (A7 h (A9 _ (.cells #[.int .i64 xs,.int .i64 xb] 38)));clear b;by_cases hn:Nil xs xb
 ·have g:=Aq hn;obtain⟨rfl,rfl⟩:=hn;go_enter Tryz.func169,Tryz.ntmps169;go_wp2;go_ret;exact⟨_,rfl,by rw[show one 0 0 = [] from if_pos g.out];exact World.ownsRow_nil _ _ _ _,h⟩
 ·have g:=Aq hn;have e0:=P2 hn;clear hn;rcases e0 with e0 | ⟨e0,j⟩
  all_goals
   go_enter Tryz.func169,Tryz.ntmps169;go_wp2;go_ret;exact⟨_,rfl,by rw[show one xs xb = [(xs,xb)] from if_neg g.out];exact d.out,i.out⟩
theorem XL(p:A8)(L:Int)(F:Int->Int->List (Int×Int))(hR:Ag p)(hL:0<=L/\L<2)(hF:∀a b,(F a b).length<=9)(G:M3 p (L+1) F):M3 p L (FY p F):=by
 intro v lo hi xs xb w hs hP;have Hs:=Aq hs;obtain⟨_,a,c,rfl,_⟩:=id hs;have ha:=A9 w (.cells #[.int .i64 xs,.int .i64 xb] 38);obtain⟨⟨x0,x1⟩,⟨x2,x3⟩⟩:=Ad.new w (.int .i64 xs) (.int .i64 xb) 38;have rB:(L == 2)=false:=by simp;omega
 clear hs;by_cases hn:Nil xs xb
 ·have HN:=Aq hn;obtain⟨rfl,rfl⟩:=hn;go_enter Tryz.func169,Tryz.ntmps169;go_wp2;go_ret;exact⟨_,rfl,by rw[show FY p F 0 0 = [] from if_pos HN.out];exact World.ownsRow_nil _ _ _ _,ha⟩
 ·have HN:=Aq hn;have e0:=P2 hn;have B:BM p xs xb:=hP.resolve_left hn;have Hf:=Aq (F5 hR B);have S:=Aq G;have HF:=Aq hF;obtain⟨k,rfl⟩:=Int.eq_ofNat_of_zero_le B.2.1;rw[Int.toNat_natCast]at Hf;have hk:k<p.n:=(by have:=B.2.2.1;omega);have tB:(k:Int)<(p.n:Int):=(by omega);clear hn hP B G hR hF;have y:=World.ownsRow_lit (e:=38) (size:=2) (base:=w.heap.size+1) (w.alloc (.cells #[.int .i64 (k:Int),.int .i64 xb] 38)) #[.int .i64 (k:Int),.int .i64 xb] 1 (by simp) (by unfold maxLen;omega) rfl;rw[World.size_alloc]at y;have D:=Aq y;have M:=A9 (w.alloc (.cells #[.int .i64 (k:Int),.int .i64 xb] 38)) (.cells #[.int .i64 (k:Int),.int .i64 xb] 38);have K:=A7 ha M;have nA:=(Ad.new w (.int .i64 (k:Int)) (.int .i64 xb) 38).A0 M;clear x0 x1 x2 x3 y ha M;obtain⟨⟨x0,x1⟩,⟨x2,x3⟩⟩:=nA;obtain⟨b,off,ka,kc,rfl,Y⟩:=(Hs.out.A0 K).cells hk;have HC:=Aq Y;obtain⟨q0,q1,q2,_⟩:=Y;obtain⟨y0,y1⟩:=(Ad.new w (.int .i64 (k:Int)) (.int .i64 xb) 38).1;obtain⟨y2,y3⟩:=(Ad.new w (.int .i64 (k:Int)) (.int .i64 xb) 38).2;rcases e0 with e0 | ⟨e0,e1⟩
  all_goals
   go_enter Tryz.func169,Tryz.ntmps169;go_wp2_with fail;refine(OT _ _ _ lo hi (p.s k) _ HC.out.slot (Kf Hf.out)).mono ?_;rintro e P ⟨rfl,C⟩;have U:=A7 K C;have z:=D.out.kept (JD C none) (Or.inr (by simp[Value.ownBlock]));have R:Hid ((Tryz.prog.info? 222).map (·.size)=some (BB (p.s k)).size):=by
    show _=_;rw[BB,Ea];exact Lr
   have E:(P.alloc (.cells (BB (p.s k)) 222)).heap[P.heap.size]?=some (.cells (BB (p.s k)) 222 (0,0)):=heap_alloc_last _ _;have HK:=Aq E;have T:=Aq (z.alloc (.cells (BB (p.s k)) 222));have iA:=A7 U (A9 P (.cells (BB (p.s k)) 222));have bC:w.heap.size+2<=P.heap.size:=(by have:=C.size;rw[World.size_alloc,World.size_alloc]at this;omega);obtain⟨i0,X,O⟩:=Option.map_eq_some_iff.1 Qg;simp only[Prod.mk.injEq]at O;have HT:=Aq (And.intro X O);clear C U z E K x0 x1 x2 x3 y0 y1 y2 y3 q0 q1 q2 HC D X O;go_wp2_with (first
    | (refine wpList_store_row rfl 222 (.tmp 8) (.tmp 23) rfl P.heap.size (BB (p.s k)) rfl rfl 222 #[Value.int .i64 0,Value.int .i64 0,Value.int .i64 0,Value.int .i64 0,Value.int .i64 0,Value.int .i64 0,Value.int .i64 0,Value.int .i64 0,Value.int .i64 0,Value.int .i64 0,Value.int .i64 0,Value.int .i64 0,Value.int .i64 0,Value.int .i64 0,Value.int .i64 0,Value.int .i64 0] (heap_alloc_last _ _) R.out (by rw[BB,Ea];rfl) (L1 _) ?_;rw[World.setRow_alloc_new]))
   go_loopw [7,24] (fun o i wr=>∃(j:Nat) (oa:Option Addr) (oc:Nat),j<=8/\i = .int .i64 j/\o = .slice oa (((k:Int),xb) :: D7 F (p.s k) j).length oc/\wr.ownsRow (w.heap.size+1) 38 2 o (((k:Int),xb) :: D7 F (p.s k) j).length (pcl (((k:Int),xb) :: D7 F (p.s k) j))/\wr.heap[P.heap.size]?=some (.cells (BB (p.s k)) 222 (0,0))/\Below w.heap.size w wr) (fun _ i _=>8 - (intOf i).toNat)
   case atStart=>exact⟨0,_,_,Nat.zero_le _,rfl,rfl,T.out,HK.out,iA⟩
   case round=>
    obtain⟨j,oa,oc,hj,rfl,rfl,H,hK,hb⟩:=hrel;have r:=Aq H;have A:=Aq hK;have Z:P.heap.size<wr.heap.size:=(Array.getElem?_eq_some_iff.1 hK).1;have mB:=XT HF.out (p.s k) j;clear H hK;by_cases mA:j<8
    ·have nB:(j:Int)<8:=(by omega);obtain⟨y0,y1⟩:=B2 (i:=j*2) A.out (I9 (BA (p.s k)) (by omega));obtain⟨y2,y3⟩:=B2 (i:=j*2+1) A.out (I9 (BA (p.s k)) (by omega));have gA:Hid (Nil (BA (p.s k) (j*2)) (BA (p.s k) (j*2+1))\/BM p (BA (p.s k) (j*2)) (BA (p.s k) (j*2+1))):=by
      by_cases hn:Nil (AK (p.s k) j) (AW (p.s k) j)
      ·exact Or.inl hn
      ·exact Or.inr (J8 Hf.out mA hn).1
     go_wp2_with fail;refine(S.out _ lo hi (BA (p.s k) (j*2)) (BA (p.s k) (j*2+1)) _ (Hs.out.A0 hb) gA.out).mono ?_;rintro e w2 ⟨v2,rfl,m,t⟩;obtain⟨na,nc,rfl,_⟩:=CV m;have vB:=HF.out (BA (p.s k) (j*2)) (BA (p.s k) (j*2+1));have I:=Aq m;have l:=Aq (r.out.kept (JD t none) (by cases hv:(Value.slice oa (((k:Int),xb) :: D7 F (p.s k) j).length oc).ownBlock<;>simp));have Q:=Aq ((t.block _ Z).trans A.out);have V:=A7 hb t;have cC:=t.size;clear m t y0 y1 y2 y3 r A;go_wp2_with (first
      | (at_builtin;refine LK rfl _ _ 39 rfl (w.heap.size+1) 38 i0 (.agg #[.int .i64 0,.int .i64 0]) 2 16 (by kernel_rfl) HT.out.1 HT.out.2.1 HT.out.2.2.1 HT.out.2.2.2 rfl (by decide) (.slice oa (((k:Int),xb) :: D7 F (p.s k) j).length oc) (((k:Int),xb) :: D7 F (p.s k) j).length (pcl (((k:Int),xb) :: D7 F (p.s k) j)) rfl ?c0 na (F (BA (p.s k) (j*2)) (BA (p.s k) (j*2+1))).length nc (pcl (F (BA (p.s k) (j*2)) (BA (p.s k) (j*2+1)))) rfl (So _) (Sp _) ?c1 ?c3 ?c4 ?c5 ?_))
     case c0=>exact l.out
     case c1=>
      intro h0;obtain⟨g,cap,e,_,_,_,N⟩:=FN I.out h0;simp only[Value.slice.injEq,true_and]at e;exact⟨g,0,e.1,fun j u hj=>by rw[Nat.zero_add];exact(N j u hj).1⟩
     case c3=>rw[List.length_cons];unfold maxLen;omega
     case c4=>rw[List.length_cons];omega
     case c5=>omega
     intro v3 w3 h d _;have x:((k:Int),xb) :: D7 F (p.s k) (j+1)=(((k:Int),xb) :: D7 F (p.s k) j) ++ F (BA (p.s k) (j*2)) (BA (p.s k) (j*2+1)):=rfl;have W:(D7 F (p.s k) j).length+1+(F (BA (p.s k) (j*2)) (BA (p.s k) (j*2+1))).length=(((k:Int),xb) :: D7 F (p.s k) (j+1)).length:=(by rw[x,List.length_append,List.length_cons]);rw[<-Rb,<-x,W]at h;have dA:=Aq ((d.block _ (by omega) (fun e=>zBH l.out Q.out e.symm)).trans Q.out);have jA:=V.grown d V.size (fun q hq=>by have:=l.out.lt q hq;omega);obtain⟨oA,pA,rfl,_⟩:=CV h;have J:=Aq h;clear h d x W;go_wp2;go_roundw
     case rel=>exact⟨j+1,oA,pA,by omega,by go_num,rfl,J.out,dA.out,jA⟩
     case measure=>simp[intOf];omega
    ·obtain rfl:j=8:=(by omega);go_wp2;go_ret;refine⟨_,rfl,?_,hb⟩;rw[show FY p F (k:Int) xb=((k:Int),xb) :: D7 F (p.s k) 8 by unfold FY;rw[if_neg HN.out,Int.toNat_natCast]];exact zFj r.out (by omega)
theorem zDX(p:A8)(c:Ag p):M3 p 1 (DV p):=by
 have h:=XL p 1 one c (by omega) (fun a b=>by unfold one;split<;>simp) (zDY p);have e:FY p one=DV p:=by
  funext xs xb;unfold FY DV Gp;rw[RH]
 rw[e]at h;exact h
theorem XK(p:A8)(a:Ag p):M3 p 0 (AF p):=by
 have h:=XL p 0 (DV p) a (by omega) (Us p) (zDX p a);have e:FY p (DV p)=AF p:=by
  funext xs xb;unfold FY AF;rw[RG]
 rw[e]at h;exact h
def KD(n:Nat)(f g:Nat->Int)(x y:Int):Prop:=∃j,j<n/\f j=x/\g j=y
variable{a:Option Addr}
theorem B4.cellsT(h:B4 w lo hi (.slice a n c) n f g){k:Nat}(e:k<n):∃b off,a=some ⟨b,off,none⟩/\w.cell? ⟨b,off+k*2,none⟩=some (.int .i64 (f k))/\w.cell? ⟨b,off+k*2+1,none⟩=some (.int .i64 (g k)):=by
 obtain⟨_,l,m,hv,_,j⟩:=h;simp only[Value.slice.injEq,true_and]at hv;obtain⟨rfl,rfl⟩:=hv;obtain⟨b,off,i,_,_,d⟩:=j (by omega);exact⟨b,off,i,(d k e).1,(d k e).2⟩
theorem B4.take{m c':Nat}(h:B4 w lo hi (.slice a n c) n f g)(t:m<=n)(j:m<=c'):B4 w lo hi (.slice a m c') m f g:=by
 obtain⟨r,p,q,hv,_,o⟩:=h;simp only[Value.slice.injEq,true_and]at hv;obtain⟨rfl,rfl⟩:=hv;refine⟨by omega,_,c',rfl,j,fun s=>?_⟩;obtain⟨b,off,e,l,k,d⟩:=o (by omega);exact⟨b,off,e,l,k,fun i hi=>d i (by omega)⟩
theorem zCJ(v:Value)(n lo hi:Nat)(f g:Nat->Int)(x y:Int)(w:World)(s:B4 w lo hi v n f g) :
 Calls Tryz.prog 203 #[v,.agg #[.int .i64 x,.int .i64 y]] w fun e w'=>(∃r:Int,e = .returned (.int .i64 r)/\(0<=r↔KD n f g x y))/\Below w.heap.size w w':=by
 have C:=Aq s;obtain⟨F,a,c,rfl,K,_⟩:=id s;unfold maxLen at F;clear s;have E:=A9 w (.cells #[.int .i64 x,.int .i64 y] 38);have B:=Aq (Ad.new w (.int .i64 x) (.int .i64 y) 38);go_enter Tryz.func203,Tryz.ntmps203;go_wp2
 go_loopw [8] (fun i wr=>∃k:Nat,k<=n/\i = .int .i64 k/\¬KD k f g x y/\Ad wr w.heap.size (.int .i64 x) (.int .i64 y)/\Below w.heap.size w wr) (fun i _=>n - (intOf i).toNat)
 case atStart=>exact⟨0,Nat.zero_le _,rfl,fun ⟨j,z,_⟩=>absurd z (Nat.not_lt_zero _),B.out,E⟩
 case round=>
  obtain⟨k,J,rfl,p,u,q⟩:=hrel;have m:=Aq p;have t:=Aq u;clear p u;obtain⟨⟨L,M⟩,⟨N,O⟩⟩:=t.out;by_cases o:k<n
  ·have A:(k:Int)<(n:Int):=(by omega);obtain⟨b,off,rfl,G,q1⟩:=(C.out.A0 q).cellsT o;by_cases d:x=f k/\y=g k
   ·have H:=Aq (show KD n f g x y from⟨k,o,d.1.symm,d.2.symm⟩);rw[<-d.1]at G;rw[<-d.2]at q1;clear d;go_wp2
    go_quiet (fail)
    go_wp2;go_ret;exact⟨⟨_,rfl,⟨fun _=>H.out,fun _=>Int.natCast_nonneg _⟩⟩,K7 q _⟩
   ·have H:=Aq d;have e0:(x == f k)=false\/(x == f k)=true/\(y == g k)=false:=by
     by_cases h:x=f k
     ·right;refine⟨by simp[h],?_⟩;have:y≠g k:=fun D=>d ⟨h,D⟩
      simp[this]
     ·left;simp[h]
    clear d;rcases e0 with e0 | ⟨e0,I⟩
    all_goals
     go_wp2
     go_quiet (fail)
     go_wp2;go_roundw
     case rel=>
      refine⟨k+1,by omega,by go_num,?_,t.out.A0 (K7 (Below.refl _ _) _),K7 q _⟩;rintro⟨j,z,l⟩;by_cases e:j=k
      ·subst e;exact H.out ⟨l.1.symm,l.2.symm⟩
      ·exact m.out ⟨j,by omega,l⟩
     case measure=>simp[intOf];omega
  ·obtain rfl:k=n:=(by omega);go_wp2;go_ret;exact⟨⟨-1,rfl,⟨fun h=>absurd h (by omega),fun h=>absurd h m.out⟩⟩,q⟩
theorem ZP(v:Value)(n lo hi:Nat)(f g:Nat->Int)(x y:Int)(w:World)(b:B4 w lo hi v n f g) :
 Calls Tryz.prog 172 #[v,.agg #[.int .i64 x,.int .i64 y]] w fun e w'=>AG (KD n f g x y) e/\Below w.heap.size w w':=by
 have j:=Aq b;obtain⟨m,a,c,rfl,o,_⟩:=id b;clear b;have d:=A9 w (.cells #[.int .i64 x,.int .i64 y] 38);go_enter Tryz.func172,Tryz.ntmps172;go_wp2_with fail;refine(zCJ _ n lo hi f g x y _ (j.out.A0 d)).mono ?_;rintro e w' ⟨⟨r,rfl,i⟩,h⟩;have k:=Aq i;have l:=A7 d h;clear i h;go_wp2;go_ret;exact⟨⟨_,rfl,by simpa using k.out⟩,l⟩
def PZ(p:A8)(n:Nat)(f g:Nat->Int):Prop:=∀i,i<n->¬KD i f g (f i) (g i)/\¬Has p.hn p.h (f i)
theorem zi(P v1 v:Value)(lo hi C B n:Nat)(p:A8)(f g:Nat->Int)(w:World)(F:EE w lo hi P v1 p)(L:B4 w C B v n f g) :
 Calls Tryz.prog 168 #[.agg #[P,v1],v] w fun e w'=>AG (PZ p n f g) e/\Below w.heap.size w w':=by
 have Hp:=Aq F;have R:=Aq L;obtain⟨a,c,y,c',rfl,rfl⟩:∃a c y c',P = .slice a p.n c/\v1 = .slice y p.hn c':=by
  obtain⟨⟨_,a,c,F,_⟩,⟨_,y,c',h3,_⟩⟩:=F;exact⟨a,c,y,c',F,h3⟩
 obtain⟨m1,la,Y,rfl,mc,_⟩:=id L;unfold maxLen at m1;clear F L;have ha:=A9 w (.cells #[.slice a p.n c,.slice y p.hn c'] 26);have Z:=Aq (Ad.new w (.slice a p.n c) (.slice y p.hn c') 26);go_enter Tryz.func168,Tryz.ntmps168;go_wp2
 go_loopw [9] (fun i wr=>∃k:Nat,k<=n/\i = .int .i64 k/\PZ p k f g/\Ad wr w.heap.size (.slice a p.n c) (.slice y p.hn c')/\Below w.heap.size w wr) (fun i _=>n - (intOf i).toNat)
 case atStart=>exact⟨0,Nat.zero_le _,rfl,fun j hj=>absurd hj (Nat.not_lt_zero _),Z.out,ha⟩
 case round=>
  obtain⟨k,hk,rfl,z,S,M⟩:=hrel;have x:=Aq z;have J:=Aq S;clear z S;by_cases u:k<n
  · have T:(k:Int)<(n:Int):=by omega
    have eA:(k:Int)<=(Y:Int):=(by omega);obtain⟨b,off,rfl,q0,q1⟩:=(R.out.A0 M).cellsT u;have A:=A9 wr (.cells #[.int .i64 (f k),.int .i64 (g k)] 38);have o:=Aq (J.out.A0 A);have H:=Aq (Ad.new wr (.int .i64 (f k)) (.int .i64 (g k)) 38);have q:=A7 M A;have fA:w.heap.size<wr.heap.size:=J.out.1.lt;have N:(wr.alloc (.cells #[.int .i64 (f k),.int .i64 (g k)] 38)).heap.size=wr.heap.size+1:=World.size_alloc _ _;go_upto_region 4 with fail;generalize wr.alloc (.cells #[.int .i64 (f k),.int .i64 (g k)] 38)=wx at o H q N ⊢;clear q0 q1 A J;have s:=Aq ((R.out.A0 q).take (m:=k) (c':=Y) (by omega) (by omega));obtain⟨⟨x0,x1⟩,⟨x2,x3⟩⟩:=o.out;obtain⟨⟨y0,y1⟩,⟨y2,y3⟩⟩:=H.out;by_cases I:KD k f g (f k) (g k)
    · have D:=Aq I
      clear I
      first
       | (go_region_with (first
           | (go_at_call 172
              refine(ZP _ k C B f g (f k) (g k) _ ?_).mono ?_
              (first | exact s.out | exact s.out.A0 (Below.refl _ _).drew)
              rintro e Q ⟨⟨O,rfl,r⟩,l⟩;obtain rfl:O=true:=r.2 D.out;clear r;have d:Below wx.heap.size wx Q:=(by first | exact l | exact Cp l);obtain⟨⟨U,_⟩,⟨V,_⟩⟩:=o.out.A0 d;obtain⟨⟨W,_⟩,⟨X,_⟩⟩:=H.out.A0 d)))
       | fail
      all_goals
       have t:=A7 q d;go_wp2;go_ret;exact⟨AG.no fun h=>(h k u).1 D.out,t⟩
    · have D:=Aq I
      clear I;go_region_held3 (fun w'=>w'.cell? ⟨w.heap.size,0,none⟩=some (.slice a p.n c)/\w'.cell? ⟨w.heap.size,1,none⟩=some (.slice y p.hn c')/\w'.cell? ⟨wr.heap.size,0,none⟩=some (.int .i64 (f k))/\w'.cell? ⟨wr.heap.size,1,none⟩=some (.int .i64 (g k))) (go_keep)
       (first
         | (go_at_call 172
            refine(ZP _ k C B f g (f k) (g k) _ ?_).mono ?_
            (first | exact s.out | exact s.out.A0 (Below.refl _ _).drew)
            rintro e Q ⟨⟨O,rfl,r⟩,l⟩;obtain rfl:O=false:=Bc r D.out;clear r;have d:Below wx.heap.size wx Q:=(by first | exact l | exact Cp l);obtain⟨⟨U,_⟩,⟨V,_⟩⟩:=o.out.A0 d;obtain⟨⟨W,_⟩,⟨X,_⟩⟩:=H.out.A0 d)
         | (go_at_call 163
            refine(Rn _ p.hn lo hi p.h (f k) _ ?_).mono ?_;exact(Hp.out.2.A0 (A7 q d));rintro e w3 ⟨⟨t3,rfl,G⟩,rfl⟩))
      have t:=A7 q d;have K:=Aq (o.out.A0 d);have E:=Aq G;clear G d l x0 x1 x2 x3 y0 y1 y2 y3 U V W X;cases t3
      · go_wp2
        go_roundw
        case rel=>exact⟨k+1,by omega,by go_num,Bf (n:=n) u x.out ⟨D.out,fun h=>absurd (E.out.2 h) (by simp)⟩,K.out,t⟩
        case measure=>simp[intOf];omega
      · go_wp2
        go_ret;exact⟨AG.no fun h=>(h k u).2 (E.out.1 trivial),t⟩
  · obtain rfl:k=n:=by omega
    go_wp2;go_ret;exact⟨AG.yes x.out,M⟩
theorem zGb(j:l.length<=maxLen)(h:w.ownsRow base 38 2 v l.length (pcl l)):B4 w 0 w.heap.size v l.length (fun i=>(l.getD i (0,0)).1) (fun i=>(l.getD i (0,0)).2):=by
 by_cases e:0<l.length
 · obtain⟨g,cap,rfl,c,k,d,b⟩:=FN h e
   refine⟨j,_,cap,rfl,c,fun _=>⟨g,0,rfl,Nat.zero_le _,d,fun i hi=>?_⟩⟩;have get:∀(l:List (Int×Int)) i,i<l.length->(pcl l)[i*2]?=some (.int .i64 (l.getD i (0,0)).1)/\(pcl l)[i*2+1]?=some (.int .i64 (l.getD i (0,0)).2):=by
    intro l
    induction l with
    | nil=>intro i hi;simp at hi
    | cons x l ih=>
      intro i hi;cases i with
      | zero=>exact⟨rfl,rfl⟩
      | succ i=>
        have:=ih i (by simpa using hi);rw[show(i+1)*2=i*2+1+1 by omega];simpa[pcl]using this
   rw[Nat.zero_add];exact⟨(b _ _ (get l i hi).1).1,(b _ _ (get l i hi).2).1⟩
 · obtain⟨a,cap,rfl,c⟩:=CV h
   exact⟨j,a,cap,rfl,c,fun h=>absurd h e⟩
theorem zAX(p:A8)(l:List (Int×Int)):PZ p l.length (fun i=>(l.getD i (0,0)).1) (fun i=>(l.getD i (0,0)).2)↔S9 p l:=by
 have a:∀i (h:i<l.length),l.getD i (0,0)=l[i]:=fun i h=>by rw[List.getD_eq_getElem?_getD,List.getElem?_eq_getElem h,Option.getD_some]
 constructor
 · intro h
   refine⟨?_,fun x n=>?_⟩
   · rw[List.Nodup,List.pairwise_iff_getElem]
     intro i j hi b c e;refine(h j b).1 ⟨i,c,?_,?_⟩
     · show(l.getD i (0,0)).1=(l.getD j (0,0)).1
       rw[a i hi,a j b,e]
     · show(l.getD i (0,0)).2=(l.getD j (0,0)).2
       rw[a i hi,a j b,e]
   · obtain⟨i,hi,rfl⟩:=List.getElem_of_mem n
     have:=(h i hi).2;simp only[a i hi]at this;exact this
 · rintro⟨k,m⟩ i hi
   refine⟨?_,?_⟩
   · rintro⟨j,b,d,g⟩
     simp only[a i hi,a j (by omega)]at d g;rw[List.Nodup,List.pairwise_iff_getElem]at k;exact k j i (by omega) hi b (Prod.ext d g)
   · simp only[a i hi]
     exact m _ (List.getElem_mem hi)
end Go.Proofs.YtibhefllijahkaaGreatDoor

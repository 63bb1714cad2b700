/- A part of the proof. -/
import Derived.Deep.OwnRows
import Derived.Deep.RegionHeld
import Derived.Test.YtnfjcaoclahfjaaGreatDoorF9
import Derived.Deep.RegionWith
import Derived.Laws.OwnMore
import Derived.Lib.SliceRun
import Derived.Deep.AppendLies
import Derived.Deep.DeepCutAuto
set_option linter.unusedVariables false
set_option maxRecDepth 20000
set_option maxHeartbeats 4000000
namespace Go.Proofs.YtnfjcaoclahfjaaGreatDoor
open Go.RowKit
def Fd(bs:Nat)(kb:Nat->Nat)(n:Nat)(f:Nat->AG)(k:Nat):Prop:=(0<n/\k=bs)\/∃i,i<n/\0<(f i).kn/\k=kb i
def CF(w:World)(lo hi:Nat)(v0 v1:Value)(p:A7):Prop:=
 ∃(bs hb:Nat) (kb:Nat->Nat) (kv:Nat->Value),FB w bs kb kv v0 p.n p.s/\MC kb p.n p.s/\Fg w hb v1 p.hn p.h/\(0<p.hn->¬Fd bs kb p.n p.s hb)/\
  ∀k,Fd bs kb p.n p.s k\/(0<p.hn/\k=hb)->lo<=k/\k<hi
variable{w:World}{lo hi:Nat}{v0 v1:Value}{p:A7}
theorem CF.at(h:CF w lo hi v0 v1 p):DU w lo hi v0 v1 p:=by
 obtain⟨e,j,kb,kv,c,f,d,g,b⟩:=h;exact⟨c.at fun a=>⟨b _ (Or.inl (Or.inl ⟨a,rfl⟩)),fun i hi h=>b _ (Or.inl (Or.inr ⟨i,hi,h,rfl⟩))⟩,d.at fun a=>b _ (Or.inr ⟨a,rfl⟩)⟩
variable{w':World}
theorem CF.A1(h:CF w lo hi v0 v1 p)(t:Below w.heap.size w w'):CF w' lo hi v0 v1 p:=by
 obtain⟨a,g,kb,kv,b,c,d,e,f⟩:=h;exact⟨a,g,kb,kv,b.A1 t,c,d.A1 t,e,f⟩
theorem CF.AD{S:Nat->Prop}(h:CF w lo hi v0 v1 p)(t:AC S w w')(hs:∀k,S k->k<lo\/hi<=k):CF w' lo hi v0 v1 p:=by
 obtain⟨d,f,kb,kv,g,j,l,m,e⟩:=h;have out:∀k,Fd d kb p.n p.s k\/(0<p.hn/\k=f)->¬S k:=fun k o q=>by
  have a:=e k o;have b:=hs k q;omega
 exact⟨d,f,kb,kv,g.AD t (fun c=>out _ (Or.inl (Or.inl ⟨c,rfl⟩))) (fun i hi h=>out _ (Or.inl (Or.inr ⟨i,hi,h,rfl⟩))),j,l.AD t (fun c=>out _ (Or.inr ⟨c,rfl⟩)),m,e⟩
variable{d c n:Nat}{v:Value}{f:Nat->Int}
theorem DC.wide(h:DC w lo hi v n f)(o:d<=lo)(p:hi<=c):DC w d c v n f:=by
 obtain⟨i,a,cap,hv,e,k⟩:=h;refine⟨i,a,cap,hv,e,fun hn=>?_⟩;obtain⟨b,off,j,l,m,g⟩:=k hn;exact⟨b,off,j,by omega,by omega,g⟩
theorem Ay.wide{g:Nat->Int}(h:Ay w lo hi v n f g)(p:d<=lo)(q:hi<=c):Ay w d c v n f g:=by
 obtain⟨j,a,cap,hv,e,l⟩:=h;refine⟨j,a,cap,hv,e,fun hn=>?_⟩;obtain⟨b,off,k,m,o,i⟩:=l hn;exact⟨b,off,k,by omega,by omega,i⟩
theorem CF.wide{b a:Nat}(h:CF w lo hi v0 v1 p)(m:b<=lo)(n:hi<=a):CF w b a v0 v1 p:=by
 obtain⟨c,j,kb,kv,d,e,f,g,i⟩:=h;exact⟨c,j,kb,kv,d,e,f,g,fun k l=>by have:=i k l;omega⟩
theorem CF.Bv(h:CF w lo hi v0 v1 p):∃a c b c',v0 = .slice a p.n c/\v1 = .slice b p.hn c':=by
 obtain⟨f,k,kb,kv,⟨_,a,c,d,_⟩,g,⟨_,b,c',e,_,_⟩,i,j⟩:=h;exact⟨a,c,b,c',d,e⟩
theorem DU.Bv(h:DU w lo hi v0 v1 p):∃a c b c',v0 = .slice a p.n c/\v1 = .slice b p.hn c':=by
 obtain⟨⟨_,a,c,d,_⟩,⟨_,b,c',e,_⟩⟩:=h;exact⟨a,c,b,c',d,e⟩
def zG9(p:A7)(w:World)(e:Ending)(w':World):Prop:=∃v0 v1,e = .returned (.agg #[v0,v1])/\CF w' w.heap.size w'.heap.size v0 v1 p/\Below w.heap.size w w'
def EM:AG:={birth:=0,kn:=0,ks:=fun _=>0,kb:=fun _=>0,data:=⟨#[]⟩}
def Ce(n:Nat):A7:={n:=n,s:=fun _=>EM,hn:=0,h:=fun _=>0}
variable{kb:Nat->Nat}
theorem zBL{bs:Nat}{k:Nat}:Fd bs kb n (fun _=>EM) k↔0<n/\k=bs:=by
 constructor
 ·rintro(h | ⟨i,_,a,_⟩)
  ·exact h
  ·exact absurd a (by simp[EM])
 ·exact Or.inl
theorem zEz{g:Nat}(hn:n<=maxLen)(hv:∃a cap,v0 = .slice a n cap/\n<=cap/\(0<n->a=some ⟨g,0,none⟩/\lo<=g/\g<hi))
 (d:∀i,i<n->AF w g (0+i*3) (.int .i64 0)/\AF w g (0+i*3+1) (.slice none 0 0)/\AF w g (0+i*3+2) (.string ⟨#[]⟩)) :
 CF w lo hi v0 (.slice none 0 0) (Ce n):=by
 obtain⟨a,cap,rfl,c,e⟩:=hv;refine⟨g,0,fun _=>0,fun _=>.slice none 0 0,⟨hn,a,cap,rfl,c,fun b=>⟨0,(e b).1,fun i hi=>?_⟩⟩,fun i j _ _ _ b _=>absurd b (by simp[Ce,EM]),⟨Nat.zero_le _,none,0,rfl,Nat.le_refl _,fun h=>absurd h (Nat.lt_irrefl _),fun h=>absurd h (Nat.lt_irrefl _)⟩,fun h=>absurd h (Nat.lt_irrefl _),?_⟩
 ·exact⟨(d i hi).1,(d i hi).2.1,(d i hi).2.2,⟨Nat.zero_le _,none,0,rfl,Nat.le_refl _,fun h=>absurd h (Nat.lt_irrefl _)⟩,Nat.zero_le _,fun h=>absurd h (Nat.lt_irrefl _)⟩
 ·rintro k (h | h)
  ·obtain⟨b,rfl⟩:=zBL.1 h;exact(e b).2
  ·exact absurd h.1 (Nat.lt_irrefl _)
def Ci(s:AG):Nat:=s.kn+s.data.size
def Cm(f:Nat->AG):Nat->Nat
 | 0=>0
 | k+1=>Cm f k+Ci (f k)
def As(p:A7):Nat:=p.n+Cm p.s p.n+p.hn
theorem UF(f:Nat->AG){j:Nat}(h:j<n):Ci (f j)<=Cm f n:=by
 induction n with
 | zero=>omega
 | succ n ih=>
  show _<=Cm f n+Ci (f n);by_cases e:j=n
  ·subst e;omega
  ·have:=ih (by omega);omega
theorem VI:(Tryz.prog.info? 2).map (fun i=>(i.zero,i.size,i.bytes))=some (some (.int .i64 0),1,8):=by kernel_rfl
theorem yx:(Tryz.prog.info? 108).map (fun i=>(i.zero,i.size,i.bytes))=some (some (.agg #[.int .i64 0,.slice none 0 0,.string ⟨#[]⟩]),3,48):=by kernel_rfl
variable{α:Type}
theorem s1(l:List α)(i:Nat)(a:α):l.toArray.setIfInBounds i a=(l.set i a).toArray:=List.setIfInBounds_toArray ..
theorem s2(x:α)(l:List α)(a:α):(x :: l).set 0 a=a :: l:=rfl
theorem s3(x:α)(l:List α)(i:Nat)(a:α):(x :: l).set (i+1) a=x :: l.set i a:=rfl
def J4:List Oper->Nat->Option Oper
 | [],_=>none
 | o :: _,0=>some o
 | _ :: l,n+1=>J4 l n
theorem Ve:∀(l:List Oper) (i:Nat),l[i]?=J4 l i
 | [],_=>rfl
 | _ :: _,0=>rfl
 | _ :: l,n+1=>by simpa[J4]using Ve l n
theorem KU{a:Array Oper}{i:Nat}{o:Oper}(h:J4 a.toList i=some o):a[i]?=some o:=by
 rw[<-h,<-Ve,Array.getElem?_toList]
section
variable {P : Program} {md : Region.Mode} {ops : Array Oper} {Q : Exit -> Act -> World -> Prop} {S : World -> Prop}
variable{o:Oper}{b l':Array Bool}{a:Act}
theorem tk(i:Nat){a':Act}(hi:J4 ops.toList i=some o:=by exact rfl)
 (e:(Region.noSelect ops && (Region.free md ops b i && (Region.ready md ops b).contains i))=true:=by kernel_rfl)
 (m:Region.wanted o (yielded ops a.tmps)=true:=by exact rfl) (j:S w:=by assumption)
 (n:∀w,S w->(execOp a.eval o).run P w = .ok (.value v) w:=by(intro w f;(try dsimp only at f);go_simp;try with_reducible rfl))
 (l:b.setIfInBounds i true=l':=by((try simp only[s1,s2,s3]);exact rfl))
 (k:a.put o.dst v=a':=by((try simp only[Act.put,s1,s2,s3]);exact rfl))
 (g:∀c a w,Q (.panic c) (a.put o.dst v) w->Q (.panic c) a w:=by exact fun _ _ _ h=>h)
 (h:wpAnyH P md ops Q S d l' a' w):wpAnyH P md ops Q S (d+1) b a w:=by
 simp only[Bool.and_eq_true]at e;subst l k;exact wpAnyH_take (KU hi) e.1 e.2.1 e.2.2 g (Or.inl ⟨m,n⟩) j h
theorem ts(i:Nat){a':Act}(hi:J4 ops.toList i=some o:=by exact rfl)
 (e:(Region.noSelect ops && (Region.free md ops b i && (Region.ready md ops b).contains i))=true:=by kernel_rfl)
 (l:Region.wanted o (yielded ops a.tmps)=false:=by exact rfl) (g:S w:=by assumption)
 (k:b.setIfInBounds i true=l':=by((try simp only[s1,s2,s3]);exact rfl))
 (j:a.put o.dst undef=a':=by((try simp only[Act.put,s1,s2,s3]);exact rfl))
 (f:∀c a w,Q (.panic c) (a.put o.dst undef) w->Q (.panic c) a w:=by exact fun _ _ _ h=>h)
 (h:wpAnyH P md ops Q S d l' a' w):wpAnyH P md ops Q S (d+1) b a w:=by
 simp only[Bool.and_eq_true]at e;subst k j;exact wpAnyH_take (KU hi) e.1 e.2.1 e.2.2 f (Or.inr ⟨l,rfl⟩) g h
theorem rd(rs:List Nat)(h:AllReadyH P md ops Q S c b a w rs)
 (e:Region.ready md ops b=rs:=by kernel_rfl) (d:rs≠[]:=by simp):wpAnyH P md ops Q S (c+1) b a w:=wpAnyH_ready e d h
theorem rc{i:Nat}{rs:List Nat}
 (h:∀d:Act->World->Prop,Shut (∀a w,S w->(S w->wpAnyH P md ops Q S c (b.setIfInBounds i true) a w)->d a w)->if Region.wanted o (yielded ops a.tmps)=true then Oper.wp P o a w d Q else d (a.put o.dst undef) w)
 (hs:AllReadyH P md ops Q S c b a w rs) (e:J4 ops.toList i=some o:=by exact rfl):AllReadyH P md ops Q S c b a w (i :: rs):=AllReadyH.cons (KU e) h hs
end
structure zIT (p:Prop):Prop where
 out:p
theorem zEX{A B:Prop}(f:zIT A->B)(h:A):B:=f ⟨h⟩
theorem Ap{P:Prop}(h:P):Hid P:=h
theorem zHF(w:World)(a b d e:Value)(c f:TypeId) :
 Ad ((w.alloc (.cells #[a,b] c)).alloc (.cells #[d,e] f)) w.heap.size a b/\Ad ((w.alloc (.cells #[a,b] c)).alloc (.cells #[d,e] f)) (w.heap.size+1) d e/\
 Below w.heap.size w ((w.alloc (.cells #[a,b] c)).alloc (.cells #[d,e] f))/\((w.alloc (.cells #[a,b] c)).alloc (.cells #[d,e] f)).heap.size=w.heap.size+2:=by
 refine⟨(Ad.new w a b c).A1 (A9 _ _),?_,A8 (A9 _ _) (A9 _ _),by simp⟩;have:=Ad.new (w.alloc (.cells #[a,b] c)) d e f;rw[World.size_alloc]at this;exact this
def zW(p:A7)(Low:AG->Prop)(s:AG):Prop:=(∃i,i<8/\¬Nil (AL s i) (AW s i))/\∀i,i<8->Nil (AL s i) (AW s i)\/Low (p.s (AL s i).toNat)
def Lb(p:A7)(L:Int)(Low:AG->Prop):Prop:=∀(v:Value) (lo hi:Nat) (xs xb:Int) (w:World),BU w lo hi v p.n p.s->BA p xs xb->
 Calls Tryz.prog 163 #[v,.agg #[.int .i64 xs,.int .i64 xb],.int .i64 L] w fun e w'=>AJ (Low (p.s xs.toNat)) e/\Below w.heap.size w w'
theorem Uw(s:AG):GJ (B7 s) (fun _=>0)=true↔¬∃i,i<8/\¬Nil (AL s i) (AW s i):=by
 rw[Ua];constructor
 ·rintro h ⟨i,hi,hn⟩;exact hn (h i hi)
 ·intro h i hi;by_cases hn:Nil (AL s i) (AW s i)
  ·exact hn
  ·exact absurd ⟨i,hi,hn⟩ h
theorem zAU(p:A7):Lb p 2 FJ:=by
 intro v lo hi xs xb w hs h;have o:=Ap hs;obtain⟨_,a,c,rfl,_⟩:=id hs;obtain⟨k,rfl⟩:=Int.eq_ofNat_of_zero_le h.2.1;have r:k<p.n:=by have:=h.2.2.1;omega
 have u:(k:Int)<(p.n:Int):=by omega
 have i:=A9 w (.cells #[.int .i64 (k:Int),.int .i64 xb] 40);obtain⟨⟨B,C⟩,⟨D,E⟩⟩:=Ad.new w (.int .i64 (k:Int)) (.int .i64 xb) 40;obtain⟨b,off,x,kc,rfl,g⟩:=(o.out.A1 i).cells r;have l:=Ap g;obtain⟨y,q1,z,_⟩:=g;clear hs h;go_enter Tryz.func163,Tryz.ntmps163;go_wp2_with fail;have d:=A9 (w.alloc (.cells #[.int .i64 (k:Int),.int .i64 xb] 40)) (.cells #[.int .i64 (p.s k).birth,.slice x (p.s k).kn kc,.string (p.s k).data] 108);refine(XA _ _ _ lo hi (p.s k) _ (l.out.slot.A1 d)).mono ?_;rintro e A ⟨⟨t,rfl,j⟩,f⟩;have q:=A8 (A8 i d) f;have m:=Ap j;clear j f;go_wp2;go_ret;refine⟨⟨t,rfl,?_⟩,q⟩;rw[Int.toNat_natCast];exact m.out
theorem X7(p:A7)(L:Int)(x:AG->Prop)(Q:AX p)(hL:0<=L/\L<2)(u:Lb p (L+1) x):Lb p L (zW p x):=by
 intro v lo hi xs xb w hs C;have A:=Ap u;have HR:=Ap Q;have V:=Ap hs;have HP:=Ap C;have O:=Ap (Ep Q C);obtain⟨_,a,c,rfl,_⟩:=id hs;obtain⟨k,rfl⟩:=Int.eq_ofNat_of_zero_le C.2.1;rw[Int.toNat_natCast]at O;have hk:k<p.n:=by have:=C.2.2.1;omega
 have fA:(k:Int)<(p.n:Int):=by omega
 have dA:(L == 2)=false:=by simp;omega
 have R:=A9 w (.cells #[.int .i64 (k:Int),.int .i64 xb] 40);obtain⟨⟨x0,x1⟩,⟨x2,x3⟩⟩:=Ad.new w (.int .i64 (k:Int)) (.int .i64 xb) 40;obtain⟨b,off,ka,kc,rfl,F⟩:=(V.out.A1 R).cells hk;have T:=Ap F;obtain⟨q0,q1,q2,_⟩:=F;clear hs C u Q;go_enter Tryz.func163,Tryz.ntmps163;go_wp2_with fail;have y:=A9 (w.alloc (.cells #[.int .i64 (k:Int),.int .i64 xb] 40)) (.cells #[.int .i64 (p.s k).birth,.slice ka (p.s k).kn kc,.string (p.s k).data] 108);refine(OP _ _ _ lo hi (p.s k) _ (T.out.slot.A1 y) (KM O.out)).mono ?_;rintro e g ⟨rfl,D⟩;have X:=A8 (A8 R y) D;clear D R y x0 x1 x2 x3 q0 q1 q2 T;have d:Hid ((Tryz.prog.info? 204).map (·.size)=some (BC (p.s k)).size):=by
  show _=_;rw[BC,EE];exact Lg
 have W:Hid ((#[Value.int .i64 0,Value.int .i64 0,Value.int .i64 0,Value.int .i64 0,Value.int .i64 0,Value.int .i64 0,Value.int .i64 0,Value.int .i64 0,Value.int .i64 0,Value.int .i64 0,Value.int .i64 0,Value.int .i64 0,Value.int .i64 0,Value.int .i64 0,Value.int .i64 0,Value.int .i64 0]:Array Value)=BP (fun _=>0)):=rfl;have Y:∀w,(binOp .eql 204 (.agg (BC (p.s k))) (.agg #[Value.int .i64 0,Value.int .i64 0,Value.int .i64 0,Value.int .i64 0,Value.int .i64 0,Value.int .i64 0,Value.int .i64 0,Value.int .i64 0,Value.int .i64 0,Value.int .i64 0,Value.int .i64 0,Value.int .i64 0,Value.int .i64 0,Value.int .i64 0,Value.int .i64 0,Value.int .i64 0])).run Tryz.prog w = .ok (.bool (GJ (B7 (p.s k)) (fun _=>0))) w:=fun w=>TG (B7 (p.s k)) (fun _=>0) w
 have r:(g.alloc (.cells (BC (p.s k)) 204)).heap[g.heap.size]?=some (.cells (BC (p.s k)) 204 (0,0)):=heap_alloc_last _ _;have J:=Ap r;have B:=A8 X (A9 g (.cells (BC (p.s k)) 204));clear r X;by_cases I:GJ (B7 (p.s k)) (fun _=>0)=true
 ·have N:=Ap ((Uw _).1 I);go_wp2_with (first
   | (refine wpList_store_row rfl 204 (.tmp 8) (.tmp 20) rfl g.heap.size (BC (p.s k)) rfl rfl 204 #[Value.int .i64 0,Value.int .i64 0,Value.int .i64 0,Value.int .i64 0,Value.int .i64 0,Value.int .i64 0,Value.int .i64 0,Value.int .i64 0,Value.int .i64 0,Value.int .i64 0,Value.int .i64 0,Value.int .i64 0,Value.int .i64 0,Value.int .i64 0,Value.int .i64 0,Value.int .i64 0] (heap_alloc_last _ _) d.out (by rw[BC,EE];rfl) (Kh _) ?_;rw[World.setRow_alloc_new])
   | (refine wpList_load_row rfl 204 (.tmp 8) rfl g.heap.size rfl 204 (BC (p.s k)) (0,0) _ J.out IJ rfl d.out ?_))
  go_ret;exact⟨AJ.no fun h=>N.out (by rw[Int.toNat_natCast]at h;exact h.1),B⟩
 ·have N:Hid (∃i,i<8/\¬Nil (AL (p.s k) i) (AW (p.s k) i)):=by
   by_cases h:∃i,i<8/\¬Nil (AL (p.s k) i) (AW (p.s k) i)
   ·exact h
   ·exact absurd ((Uw _).2 h) I
  have iA:GJ (B7 (p.s k)) (fun _=>0)=false:=(by simpa using I);clear I;go_wp2_with (first
   | (refine wpList_store_row rfl 204 (.tmp 8) (.tmp 20) rfl g.heap.size (BC (p.s k)) rfl rfl 204 #[Value.int .i64 0,Value.int .i64 0,Value.int .i64 0,Value.int .i64 0,Value.int .i64 0,Value.int .i64 0,Value.int .i64 0,Value.int .i64 0,Value.int .i64 0,Value.int .i64 0,Value.int .i64 0,Value.int .i64 0,Value.int .i64 0,Value.int .i64 0,Value.int .i64 0,Value.int .i64 0] (heap_alloc_last _ _) d.out (by rw[BC,EE];rfl) (Kh _) ?_;rw[World.setRow_alloc_new])
   | (refine wpList_load_row rfl 204 (.tmp 8) rfl g.heap.size rfl 204 (BC (p.s k)) (0,0) _ J.out IJ rfl d.out ?_))
  have jA:g.heap.size<(g.alloc (.cells (BC (p.s k)) 204)).heap.size:=by rw[World.size_alloc];exact Nat.lt_succ_self _
  go_loopw [24] (fun i wr=>∃j:Nat,j<=8/\i = .int .i64 j/\(∀m,m<j->Nil (AL (p.s k) m) (AW (p.s k) m)\/x (p.s (AL (p.s k) m).toNat))/\wr.heap[g.heap.size]?=some (.cells (BC (p.s k)) 204 (0,0))/\Below w.heap.size w wr) (fun i _=>8 - (intOf i).toNat)
  case atStart=>exact⟨0,Nat.zero_le _,rfl,fun m hm=>absurd hm (Nat.not_lt_zero _),J.out,B⟩
  case round=>
   obtain⟨j,hj,rfl,q,hK,H⟩:=hrel;have f:=Ap q;have l:=Ap hK;have G:g.heap.size<wr.heap.size:=(Array.getElem?_eq_some_iff.1 hK).1;clear q hK;by_cases o:j<8
   ·have Z:(j:Int)<8:=(by omega);obtain⟨y0,y1⟩:=At (i:=j*2) l.out (I3 (B7 (p.s k)) (by omega));obtain⟨y2,y3⟩:=At (i:=j*2+1) l.out (I3 (B7 (p.s k)) (by omega));by_cases hn:Nil (AL (p.s k) j) (AW (p.s k) j)
    ·have M:=Ap hn;rw[show B7 (p.s k) (j*2)=0 from hn.1]at y0;rw[show B7 (p.s k) (j*2+1)=0 from hn.2]at y2;clear hn;go_wp2;go_roundw
     case rel=>exact⟨j+1,by omega,by go_num,Bf (n:=8) o f.out (Or.inl M.out),l.out,H⟩
     case measure=>simp[intOf];omega
    ·have M:=Ap hn;have S:=Ap (Iv O.out o hn).1;have e0:(B7 (p.s k) (j*2) == 0)=false\/(B7 (p.s k) (j*2) == 0)=true/\(B7 (p.s k) (j*2+1) == 0)=false:=by
      by_cases h:B7 (p.s k) (j*2)=0
      ·right;refine⟨by simp[h],?_⟩;have:B7 (p.s k) (j*2+1)≠0:=fun h'=>hn ⟨h,h'⟩
       simp[this]
      ·left;simp[h]
     clear hn;rcases e0 with e0 | ⟨e0,e1⟩
     all_goals
      go_wp2_with fail;refine(A.out _ lo hi (B7 (p.s k) (j*2)) (B7 (p.s k) (j*2+1)) _ (V.out.A1 H) S.out).mono ?_;rintro e w2 ⟨⟨t,rfl,ht⟩,z⟩;have U:=Ap ht;have K:=Ap ((z.block _ G).trans l.out);have E:=A8 H z;clear ht z y0 y1 y2 y3;cases t
      ·go_wp2;go_ret;refine⟨AJ.no fun h=>?_,E⟩;rw[Int.toNat_natCast]at h;rcases h.2 j o with P | P
       ·exact M.out P
       ·exact absurd (U.out.2 P) (by simp)
      ·go_wp2;go_roundw
       case rel=>exact⟨j+1,by omega,by go_num,Bf (n:=8) o f.out (Or.inr (U.out.1 trivial)),K.out,E⟩
       case measure=>simp[intOf];omega
   ·obtain rfl:j=8:=(by omega);go_wp2;go_ret;exact⟨AJ.yes (by rw[Int.toNat_natCast];exact⟨N.out,f.out⟩),H⟩
theorem zAT(p:A7)(a:AX p):Lb p 1 (ND p):=X7 p 1 FJ a (by omega) (zAU p)
theorem X6(p:A7)(a:AX p):Lb p 0 (NC p):=X7 p 0 (ND p) a (by omega) (zAT p a)
def zGA(s:AG)(w:World)(e:Ending)(w':World):Prop:=
 ∃kv kb,e = .returned (.agg #[.int .i64 s.birth,kv,.string s.data])/\Bm w' kb kv s.kn s.ks s.kb/\(0<s.kn->w.heap.size<=kb/\kb<w'.heap.size)/\Below w.heap.size w w'
def kc(f g:Nat->Int):Nat->List Value
 | 0=>[]
 | k+1=>kc f g k ++ [.int .i64 (f k),.int .i64 (g k)]
theorem KI(f g:Nat->Int)(k:Nat):(kc f g k).length=k*2:=by
 induction k with
 | zero=>rfl
 | succ k ih=>simp[kc,ih];omega
theorem Rn(f g:Nat->Int)(k i r:Nat)(hi:i<k)(a:r<2):(kc f g k)[i*2+r]? = [Value.int .i64 (f i),.int .i64 (g i)][r]?:=by
 induction k with
 | zero=>omega
 | succ k ih=>
  unfold kc;by_cases e:i<k
  ·rw[List.getElem?_append_left (by rw[KI];omega)];exact ih e
  ·obtain rfl:i=k:=(by omega);rw[List.getElem?_append_right (by rw[KI];omega),KI];congr 1;omega
theorem Z6(f g:Nat->Int)(k:Nat):∀u∈kc f g k,u.oneCell'=true:=by
 induction k with
 | zero=>intro u a;simp[kc]at a
 | succ k ih=>
  intro u a;simp only[kc,List.mem_append,List.mem_cons,List.not_mem_nil,or_false]at a;rcases a with a | rfl | rfl
  ·exact ih u a
  ·rfl
  ·rfl
variable{b:Nat}{g:Nat->Int}
theorem Um{off:Nat}(h:∀i,i<n->w.cell? ⟨b,off+i*2,none⟩=some (.int .i64 (f i))/\w.cell? ⟨b,off+i*2+1,none⟩=some (.int .i64 (g i))) :
 ∀j u,(kc f g n)[j]?=some u->w.cell? ((⟨b,off,none⟩:Addr).add j)=some u:=by
 intro j u d;have k:j<n*2:=by
  have:=(List.getElem?_eq_some_iff.1 d).1
  rwa [KI]at this
 have a:(⟨b,off,none⟩:Addr).add j=⟨b,off+j,none⟩:=by unfold Addr.add;split<;>simp_all
 rw[a];obtain⟨c0,c1⟩:=h (j / 2) (by omega);have e:=Rn f g n (j / 2) (j % 2) (by omega) (by omega);rw[show j / 2*2+j % 2=j by omega,d]at e;rcases(by omega:j % 2=0\/j % 2=1)with c | c
 ·rw[c]at e;simp at e;subst e;rw[show off+j=off+j / 2*2 by omega];exact c0
 ·rw[c]at e;simp at e;subst e;rw[show off+j=off+j / 2*2+1 by omega];exact c1
variable{base e:Nat}
theorem YF(k:n<=maxLen)(h:w.ownsRow base e 2 v n (kc f g n)):∃kb,Bm w kb v n f g/\(0<n->base<=kb/\kb<w.heap.size):=by
 by_cases d:0<n
 ·obtain⟨gb,cap,rfl,c,l,j,b⟩:=Gd h d;refine⟨gb,⟨k,_,cap,rfl,c,fun _=>⟨0,rfl,fun i hi=>⟨?_,?_⟩⟩⟩,fun _=>⟨l,j⟩⟩
  ·have:=b (i*2+0) _ (Rn f g n i 0 hi (by omega));simpa using this
  ·have:=b (i*2+1) _ (Rn f g n i 1 hi (by omega));simpa using this
 ·obtain⟨a,cap,rfl,c⟩:=C6 h;exact⟨0,⟨k,a,cap,rfl,c,fun h=>absurd h d⟩,fun h=>absurd h d⟩
variable{P:Program}
theorem Ra(base:Nat)(t ty e:TypeId)(i:TypeInfo)(size c:Nat)(b:Option Addr)(f:P.underlying t=some (.slice e))(hi:P.info? e=some i)
 (v:Value) (n:Nat) (xs:List Value) (a:w.ownsRow base e size v n xs) :
 (Builtin.append_ #[t,t] ty #[v,.slice b 0 c]).run P w = .ok v w:=by
 rcases a.2 with⟨rfl,rfl⟩ | ⟨g,cap,h,rfl,_,_,d,_⟩
 ·cases b<;>simp[Builtin.append_,run_underlying f,sizeOf,typeInfo,hi,Builtin.lenOf,Builtin.firstCells,loadCells,loadCellsFrom]
 ·cases b<;>simp[Builtin.append_,run_underlying f,sizeOf,typeInfo,hi,Builtin.lenOf,Builtin.firstCells,d,storeCells,loadCells,loadCellsFrom]
variable{rest:List Oper}{Q:Exit->Act->World->Prop}
theorem zDB{f:Array Oper}{o:Oper}{a:Act}(g:o.guard=none)(s x:Operand)(t:TypeId)
 (l:o.op = .call {callee:=.builtin .append,args:=#[s,x],argTypes:=#[t,t]})
 (base:Nat) (e:TypeId) (i:TypeInfo) (size c m:Nat) (j:Option Addr) (p:P.underlying t=some (.slice e)) (hi:P.info? e=some i)
 (v:Value) (n:Nat) (xs:List Value) (hs:a.eval s=v) (b:w.ownsRow base e size v n xs) (k:m=0) (q:a.eval x = .slice j m c)
 (h:wpList P f Q rest (a.put o.dst v) w):wpList P f Q (o :: rest) a w:=by
 subst k;refine wpList_plain g fun K hK=>?_
 have d:=Ra (P:=P) (w:=w) base t o.type e i size c j p hi v n xs b;unfold Oper.wp;simp[execOp,l,resolve,invoke,builtin,hs,q,d,Result.andThen];exact hK _ _ h
theorem Kb:(Tryz.prog.info? 40).map (fun i=>(i.zero,i.size,i.bytes))=some (some (.agg #[.int .i64 0,.int .i64 0]),2,16):=by kernel_rfl
def sc(f:Nat->AG)(kv:Nat->Value):Nat->List Value
 | 0=>[]
 | k+1=>sc f kv k ++ [.int .i64 (f k).birth,kv k,.string (f k).data]
theorem LN(f:Nat->AG)(kv:Nat->Value)(k:Nat):(sc f kv k).length=k*3:=by
 induction k with
 | zero=>rfl
 | succ k ih=>simp[sc,ih];omega
theorem Mg(f:Nat->AG)(kv:Nat->Value)(k i r:Nat)(hi:i<k)(a:r<3):(sc f kv k)[i*3+r]? = [Value.int .i64 (f i).birth,kv i,.string (f i).data][r]?:=by
 induction k with
 | zero=>omega
 | succ k ih=>
  unfold sc;by_cases e:i<k
  ·rw[List.getElem?_append_left (by rw[LN];omega)];exact ih e
  ·obtain rfl:i=k:=(by omega);rw[List.getElem?_append_right (by rw[LN];omega),LN];congr 1;omega
theorem zI9(f:Nat->AG)(kv:Nat->Value)(k:Nat)(h:∀i,i<k->(kv i).oneCell'=true):∀u∈sc f kv k,u.oneCell'=true:=by
 induction k with
 | zero=>intro u a;simp[sc]at a
 | succ k ih=>
  intro u a;simp only[sc,List.mem_append,List.mem_cons,List.not_mem_nil,or_false]at a;rcases a with a | rfl | rfl | rfl
  ·exact ih (fun i hi=>h i (by omega)) u a
  ·rfl
  ·exact h k (by omega)
  ·rfl
variable{w1:World}
theorem Fq(h:Below w.heap.size w w1)(row:Option Nat):w.grownBy w1 row:=⟨h.os,h.tape,h.output,h.size,fun k a _=>h.block k a⟩
def ic(f:Nat->Int):Nat->List Value
 | 0=>[]
 | k+1=>ic f k ++ [.int .i64 (f k)]
theorem Ih(f:Nat->Int)(k:Nat):(ic f k).length=k*1:=by
 induction k with
 | zero=>rfl
 | succ k ih=>simp[ic,ih]
theorem Rm(f:Nat->Int)(k i:Nat)(hi:i<k):(ic f k)[i]?=some (Value.int .i64 (f i)):=by
 induction k with
 | zero=>omega
 | succ k ih=>
  unfold ic;by_cases e:i<k
  ·rw[List.getElem?_append_left (by rw[Ih];omega)];exact ih e
  ·obtain rfl:i=k:=(by omega);rw[List.getElem?_append_right (by rw[Ih];omega),Ih];simp
theorem zHu(f:Nat->Int)(k:Nat):∀u∈ic f k,u.oneCell'=true:=by
 induction k with
 | zero=>intro u a;simp[ic]at a
 | succ k ih=>
  intro u a;simp only[ic,List.mem_append,List.mem_cons,List.not_mem_nil,or_false]at a;rcases a with a | rfl
  ·exact ih u a
  ·rfl
theorem add_lit(b off j:Nat):(⟨b,off,none⟩:Addr).add j=⟨b,off+j,none⟩:=by unfold Addr.add;split<;>simp_all
theorem zEP{off:Nat}(h:∀i,i<n->w.cell? ⟨b,off+i,none⟩=some (.int .i64 (f i))) :
 ∀j u,(ic f n)[j]?=some u->w.cell? ((⟨b,off,none⟩:Addr).add j)=some u:=by
 intro j u c;have a:j<n:=by
  have:=(List.getElem?_eq_some_iff.1 c).1;rw[Ih]at this;omega
 rw[Rm f n j a]at c;rw[add_lit,h j a];exact c
variable{xs:List Value}
theorem UC{g cap:Nat}(h:w.ownsRow base e 1 (.slice (some ⟨g,0,none⟩) n cap) n xs)(c:0<n):0<n/\(some ⟨g,0,none⟩:Option Addr)=some ⟨g,0,none⟩/\cap<=maxLen/\∃a,w.heap[g]?=some (.cells a e (0,0))/\a.size=cap:=by
 obtain⟨_,⟨h,rfl⟩ | ⟨g',b,a,hv,_,i,_,d,f,_⟩⟩:=h
 ·omega
 ·simp only[Value.slice.injEq,Option.some.injEq,Addr.mk.injEq,and_true,true_and]at hv;obtain⟨rfl,rfl⟩:=hv;exact⟨c,rfl,d,a,i,by simpa using f⟩
theorem zCF(j:n<=maxLen)(h:w.ownsRow base 2 1 v n (ic f n))(l:n=0->∃a,v = .slice a 0 0):∃d,Fg w d v n f/\(0<n->base<=d/\d<w.heap.size):=by
 by_cases g:0<n
 ·obtain⟨gb,cap,rfl,c,d,e,b⟩:=Gd h g;refine⟨gb,⟨j,_,cap,rfl,c,fun _=>⟨0,rfl,fun i hi=>?_⟩,fun _=>?_⟩,fun _=>⟨d,e⟩⟩
  ·have:=b i _ (Rm f n i hi);simpa using this
  ·exact UC h g
 ·obtain⟨a,cap,rfl,c⟩:=C6 h;exact⟨0,⟨j,a,cap,rfl,c,fun h=>absurd h g,fun e=>by obtain⟨m,k⟩:=l (by omega);simp only[Value.slice.injEq]at k;omega⟩,fun h=>absurd h g⟩
theorem Al{P:Prop}(h:P):Hid P:=h
theorem L1{y:Array Oper}{o:Oper}{a:Act}(r:o.guard=none)(s x:Operand)(t:TypeId)
 (L:o.op = .call {callee:=.builtin .append,args:=#[s,x],argTypes:=#[t,t]})
 (base:Nat) (e:TypeId) (i:TypeInfo) (z:Value) (size bytes:Nat) (M:P.underlying t=some (.slice e)) (hi:P.info? e=some i) (V:i.zero=some z)
 (q:i.size=size) (E:i.bytes=bytes) (J:z.cells.size=size) (I:0<size)
 (v:Value) (n:Nat) (xs:List Value) (hs:a.eval s=v) (g:w.ownsRow base e size v n xs)
 (B:Option Addr) (m c:Nat) (d:List Value) (N:a.eval x = .slice B m c) (F:d.length=m*size) (T:∀u∈d,u.oneCell'=true)
 (f:0<m->∃b off,B=some ⟨b,off,none⟩/\∀j u,d[j]?=some u->w.cell? ⟨b,off+j,none⟩=some u)
 (D:n+m<=maxLen) (k:(n+m)*bytes<=140737488355328) (p:base<=w.heap.size)
 (h:∀A w',w'.ownsRow base e size A (n+m) (xs ++ d)->w.grownBy w' v.ownBlock->(m=0->A=v)->wpList P y Q rest (a.put o.dst A) w'):wpList P y Q (o :: rest) a w:=by
 by_cases l:m=0
 ·have H:d = []:=List.eq_nil_of_length_eq_zero (by rw[F,l,Nat.zero_mul]);exact zDB r s x t L base e i size c m B M hi v n xs hs g l N (h v w (by subst l;subst H;simpa using g) ⟨rfl,rfl,rfl,Nat.le_refl _,fun _ _ _=>rfl⟩ (fun _=>rfl))
 cases B with
 | none=>
  obtain⟨b,off,C,_⟩:=f (by omega);simp at C
 | some ad=>
  refine wpList_append_own w r s x t L base e i z size bytes M hi V q E J I v n xs hs g ad m c d N F (fun j u K=>?_) T D k p (fun A w' O R _=>h A w' O R (fun e=>absurd e l));have S:0<m:=by
   have:=(List.getElem?_eq_some_iff.1 K).1;rw[F]at this;rcases Nat.eq_zero_or_pos m with G | G
   ·rw[G,Nat.zero_mul]at this;omega
   ·exact G
  obtain⟨b,off,C,U⟩:=f S;simp only[Option.some.injEq]at C;subst C;rw[add_lit];exact U j u K
theorem SU(h:DC w lo hi v n f){a:Option Addr}(hv:v = .slice a n c)(i:Below w.heap.size w w') :
 0<n->∃b off,a=some ⟨b,off,none⟩/\∀j u,(ic f n)[j]?=some u->w'.cell? ⟨b,off+j,none⟩=some u:=by
 obtain⟨_,m,c0,d,_,g⟩:=h;subst hv;simp only[Value.slice.injEq,true_and]at d;obtain⟨rfl,rfl⟩:=d;intro hn;obtain⟨b,off,e,_,_,k⟩:=g hn;refine⟨b,off,e,fun j u l=>?_⟩;have:=zEP k j u l;rw[add_lit]at this;exact(i.cell (AM this)).trans this
theorem zCa(j:n<=maxLen)(h:w.ownsRow base 2 1 v n (ic f n))(l:n=0->∃a,v = .slice a 0 0):∃e,Fg w e v n f/\(0<n->v.ownBlock=some e):=by
 by_cases d:0<n
 ·obtain⟨gb,cap,rfl,c,e,g,b⟩:=Gd h d;refine⟨gb,⟨j,_,cap,rfl,c,fun _=>⟨0,rfl,fun i hi=>?_⟩,fun _=>?_⟩,fun _=>rfl⟩
  ·have:=b i _ (Rm f n i hi);simpa using this
  ·exact UC h d
 ·obtain⟨a,cap,rfl,c⟩:=C6 h;exact⟨0,⟨j,a,cap,rfl,c,fun h=>absurd h d,fun g=>by obtain⟨m,k⟩:=l (by omega);simp only[Value.slice.injEq]at k;omega⟩,fun h=>absurd h d⟩
theorem zDP{B M bs:Nat}{kv:Nat->Value}(o:FB w' bs kb kv v0 p.n p.s)(q:MC kb p.n p.s)(i:∀k,Fd bs kb p.n p.s k->M<=k/\k<w'.heap.size)(t:p.hn<=maxLen)
 (j:w'.ownsRow base 2 1 v1 p.hn (ic p.h p.hn)) (l:∀k,v1.ownBlock=some k->B<=k/\(k<M\/w'.heap.size<=k\/(k<w'.heap.size/\¬Fd bs kb p.n p.s k))) (v:B<=M) (u:p.hn=0->∃a,v1 = .slice a 0 0):CF w' B w'.heap.size v0 v1 p:=by
 obtain⟨r,hi,d⟩:=zCa t j u;refine⟨bs,r,kb,kv,o,q,hi,fun e m=>?_,fun k g=>?_⟩
 ·have a:=i _ m;have b:=l _ (d e);rcases b.2 with f | f | f
  ·omega
  ·omega
  ·exact f.2 m
 ·rcases g with g | ⟨e,rfl⟩
  ·have:=i _ g;omega
  ·have b:=l _ (d e);have c:=j.lt _ (d e);exact⟨b.1,c.2⟩
theorem QP{B B' size:Nat}(h:w.ownsRow B' e size v n xs)(d:B<=B'):w.ownsRow B e size v n xs:=
 ⟨h.1,h.2.imp id (fun ⟨g,cap,cur,a,b,c⟩=>⟨g,cap,cur,a,Nat.le_trans d b,c⟩)⟩
def pcl:List (Int×Int)->List Value
 | []=>[]
 | x :: l=>.int .i64 x.1 :: .int .i64 x.2 :: pcl l
theorem F8:∀l,(pcl l).length=l.length*2
 | []=>rfl
 | x :: l=>by simp[pcl,F8 l];omega
theorem Kx:∀l m,pcl (l ++ m)=pcl l ++ pcl m
 | [],m=>rfl
 | x :: l,m=>by simp[pcl,Kx l m]
theorem NQ:∀l,∀u∈pcl l,u.oneCell'=true
 | [],u,a=>by simp[pcl]at a
 | x :: l,u,a=>by
  simp only[pcl,List.mem_cons]at a;rcases a with rfl | rfl | a
  ·rfl
  ·rfl
  ·exact NQ l u a
theorem KQ:∀(l:List (Int×Int)) i,i<l.length->(pcl l)[i*2]?=some (.int .i64 (l.getD i (0,0)).1)/\(pcl l)[i*2+1]?=some (.int .i64 (l.getD i (0,0)).2):=by
 intro l
 induction l with
 | nil=>intro i hi;simp at hi
 | cons x l ih=>
  intro i hi;cases i with
  | zero=>exact⟨rfl,rfl⟩
  | succ i=>
   have:=ih i (by simpa using hi);rw[show(i+1)*2=i*2+1+1 by omega];simpa[pcl]using this
def AI(l:List (Int×Int))(i:Nat):Int:=(l.getD i (0,0)).1
def AK(l:List (Int×Int))(i:Nat):Int:=(l.getD i (0,0)).2
theorem O4:(Tryz.prog.info? 40).map (fun i=>(i.zero,i.size,i.bytes))=some (some (.agg #[.int .i64 0,.int .i64 0]),2,16):=by kernel_rfl
theorem Dg(h:Below w.heap.size w w1)(row:Option Nat):w.grownBy w1 row:=⟨h.os,h.tape,h.output,h.size,fun k a _=>h.block k a⟩
def B6(w:World)(base:Nat)(v:Value)(l:List (Int×Int)):Prop:=w.ownsRow base 40 2 v l.length (pcl l)
variable{l:List (Int×Int)}
theorem B6.A1(h:B6 w base v l)(a:Below w.heap.size w w1):B6 w1 base v l:=
 h.kept (Dg a none) (by cases v.ownBlock<;>simp)
theorem B6.AD{row:Option Nat}(h:B6 w base v l)(b:w.grownBy w1 row)(a:∀q,v.ownBlock=some q->row≠some q):B6 w1 base v l:=
 h.kept b (by
  cases hv:v.ownBlock with
  | none=>simp
  | some q=>exact Or.inr (fun e=>a q hv e.symm))
theorem B6.nil(w:World)(base:Nat):B6 w base (.slice none 0 0) []:=World.ownsRow_nil _ _ _ _
theorem B6.mono{a:Nat}(h:B6 w base v l)(f:a<=base):B6 w a v l:=by
 refine⟨h.1,h.2.imp id ?_⟩;rintro⟨g,cap,b,e,c,d⟩;exact⟨g,cap,b,e,Nat.le_trans f c,d⟩
theorem B6.put{o:Nat}(h:B6 w base v l)(i:b<base)(u:Value):B6 (w.setCell ⟨b,o,none⟩ u) base v l:=by
 refine⟨h.1,h.2.imp id ?_⟩;rintro⟨g,cap,a,e,c,d,f⟩;exact⟨g,cap,a,e,c,(Below.heap_setCell _ _ _ _ (fun e=>by have:g=b:=e;omega)).trans d,f⟩
theorem B6.lt(h:B6 w base v l){q:Nat}(a:v.ownBlock=some q):base<=q/\q<w.heap.size:=by
 rcases h.2 with⟨rfl,_⟩ | ⟨g,cap,b,rfl,c,d,_⟩
 ·simp[Value.ownBlock]at a
 ·simp only[Value.ownBlock,Option.some.injEq]at a;subst a;exact⟨c,(Array.getElem?_eq_some_iff.1 d).1⟩
theorem B6.own(h:B6 w base v l)(j:l.length<=maxLen):∃b,Bm w b v l.length (AI l) (AK l)/\(0<l.length->v.ownBlock=some b/\base<=b/\b<w.heap.size):=by
 by_cases e:0<l.length
 ·obtain⟨g,cap,rfl,d,k,f,c⟩:=Gd h e;refine⟨g,⟨j,_,cap,rfl,d,fun _=>⟨0,rfl,fun i hi=>?_⟩⟩,fun _=>⟨rfl,k,f⟩⟩;rw[Nat.zero_add];exact⟨c _ _ (KQ l i hi).1,c _ _ (KQ l i hi).2⟩
 ·obtain⟨a,cap,rfl,d⟩:=C6 h;exact⟨0,⟨j,a,cap,rfl,d,fun h=>absurd h e⟩,fun h=>absurd h e⟩
def zHc(l:List (Int×Int))(w:World)(e:Ending)(w':World):Prop:=∃v,e = .returned v/\w'.ownsRow w.heap.size 40 2 v l.length (pcl l)/\Below w.heap.size w w'
def D3(F:Int->Int->List (Int×Int))(s:AG):Nat->List (Int×Int)
 | 0=>[]
 | k+1=>D3 F s k ++ F (AL s k) (AW s k)
theorem Qn(s:AG):∀k,D3 one s k=kidsUp (AL s) (AW s) k
 | 0=>rfl
 | k+1=>by rw[D3,kidsUp,Qn s k]
theorem Qm(p:A7)(s:AG):∀k,D3 (DA p) s k=CV p s k
 | 0=>rfl
 | k+1=>by rw[D3,CV,Qm p s k]
theorem Vu{F:Int->Int->List (Int×Int)}(hF:∀a b,(F a b).length<=9)(s:AG):∀k,(D3 F s k).length<=9*k
 | 0=>Nat.le_refl _
 | k+1=>by
  have:=Vu hF s k;have:=hF (AL s k) (AW s k);rw[D3,List.length_append];omega
def FR(p:A7)(F:Int->Int->List (Int×Int))(xs xb:Int):List (Int×Int):=if Nil xs xb then [] else(xs,xb) :: D3 F (p.s xs.toNat) 8
def La(p:A7)(L:Int)(F:Int->Int->List (Int×Int)):Prop:=∀(v:Value) (lo hi:Nat) (xs xb:Int) (w:World),BU w lo hi v p.n p.s->(Nil xs xb\/BA p xs xb)->
 Calls Tryz.prog 165 #[v,.agg #[.int .i64 xs,.int .i64 xb],.int .i64 L] w (zHc (F xs xb) w)
theorem zBJ{K:Nat}{cs:Array Value}(h:w.ownsRow base 40 2 v n xs)(hK:w.heap[K]?=some (.cells cs 204 (0,0))):v.ownBlock≠some K:=by
 intro e;rcases h.2 with⟨rfl,_⟩ | ⟨g,cap,b,rfl,_,a,_⟩
 ·simp[Value.ownBlock]at e
 ·simp only[Value.ownBlock,Option.some.injEq]at e;subst e;rw[hK]at a;simp only[Option.some.injEq,Obj.cells.injEq]at a;exact absurd a.2.1 (by decide)
theorem On{xs xb:Int}(h:¬Nil xs xb):(xs == 0)=false\/(xs == 0)=true/\(xb == 0)=false:=by
 by_cases a:xs=0
 ·right;refine⟨by simp[a],?_⟩;have:xb≠0:=fun b=>h ⟨a,b⟩
  simp[this]
 ·left;simp[a]
theorem zDS(p:A7):La p 2 one:=by
 intro v lo hi xs xb w hs j;obtain⟨_,a,c,rfl,_⟩:=id hs;have g:=A9 w (.cells #[.int .i64 xs,.int .i64 xb] 40);obtain⟨⟨k,l⟩,⟨m,n⟩⟩:=Ad.new w (.int .i64 xs) (.int .i64 xb) 40;have b:=World.ownsRow_lit (e:=40) (size:=2) (base:=w.heap.size) (w.alloc (.cells #[.int .i64 xs,.int .i64 xb] 40)) #[.int .i64 xs,.int .i64 xb] 1 (by simp) (by unfold maxLen;omega) rfl;rw[World.size_alloc]at b;have d:=Ap b;have h:=Ap (A8 g (A9 _ (.cells #[.int .i64 xs,.int .i64 xb] 40)));clear b;by_cases hn:Nil xs xb
 ·have f:=Ap hn;obtain⟨rfl,rfl⟩:=hn;go_enter Tryz.func165,Tryz.ntmps165;go_wp2;go_ret;exact⟨_,rfl,by rw[show one 0 0 = [] from if_pos f.out];exact World.ownsRow_nil _ _ _ _,g⟩
 ·have f:=Ap hn;have e0:=On hn;clear hn;rcases e0 with e0 | ⟨e0,i⟩
  all_goals
   go_enter Tryz.func165,Tryz.ntmps165;go_wp2;go_ret;exact⟨_,rfl,by rw[show one xs xb = [(xs,xb)] from if_neg f.out];exact d.out,h.out⟩
theorem Vi(p:A7)(L:Int)(F:Int->Int->List (Int×Int))(hR:AX p)(hL:0<=L/\L<2)(hF:∀a b,(F a b).length<=9)(E:La p (L+1) F):La p L (FR p F):=by
 intro v lo hi xs xb w hs hP;have Hs:=Ap hs;obtain⟨_,a,c,rfl,_⟩:=id hs;have ha:=A9 w (.cells #[.int .i64 xs,.int .i64 xb] 40);obtain⟨⟨x0,x1⟩,⟨x2,x3⟩⟩:=Ad.new w (.int .i64 xs) (.int .i64 xb) 40;have nB:(L == 2)=false:=by simp;omega
 clear hs;by_cases hn:Nil xs xb
 ·have HN:=Ap hn;obtain⟨rfl,rfl⟩:=hn;go_enter Tryz.func165,Tryz.ntmps165;go_wp2;go_ret;exact⟨_,rfl,by rw[show FR p F 0 0 = [] from if_pos HN.out];exact World.ownsRow_nil _ _ _ _,ha⟩
 ·have HN:=Ap hn;have e0:=On hn;have A:BA p xs xb:=hP.resolve_left hn;have Hf:=Ap (Ep hR A);have R:=Ap E;have HF:=Ap hF;obtain⟨k,rfl⟩:=Int.eq_ofNat_of_zero_le A.2.1;rw[Int.toNat_natCast]at Hf;have hk:k<p.n:=(by have:=A.2.2.1;omega);have pB:(k:Int)<(p.n:Int):=(by omega);clear hn hP A E hR hF;have x:=World.ownsRow_lit (e:=40) (size:=2) (base:=w.heap.size+1) (w.alloc (.cells #[.int .i64 (k:Int),.int .i64 xb] 40)) #[.int .i64 (k:Int),.int .i64 xb] 1 (by simp) (by unfold maxLen;omega) rfl;rw[World.size_alloc]at x;have C:=Ap x;have K:=A9 (w.alloc (.cells #[.int .i64 (k:Int),.int .i64 xb] 40)) (.cells #[.int .i64 (k:Int),.int .i64 xb] 40);have J:=A8 ha K;have mA:=(Ad.new w (.int .i64 (k:Int)) (.int .i64 xb) 40).A1 K;clear x0 x1 x2 x3 x ha K;obtain⟨⟨x0,x1⟩,⟨x2,x3⟩⟩:=mA;obtain⟨b,off,ka,kc,rfl,X⟩:=(Hs.out.A1 J).cells hk;have HC:=Ap X;obtain⟨q0,q1,q2,_⟩:=X;obtain⟨y0,y1⟩:=(Ad.new w (.int .i64 (k:Int)) (.int .i64 xb) 40).1;obtain⟨y2,y3⟩:=(Ad.new w (.int .i64 (k:Int)) (.int .i64 xb) 40).2;rcases e0 with e0 | ⟨e0,e1⟩
  all_goals
   go_enter Tryz.func165,Tryz.ntmps165;go_wp2_with fail;refine(OP _ _ _ lo hi (p.s k) _ HC.out.slot (KM Hf.out)).mono ?_;rintro e O ⟨rfl,B⟩;have T:=A8 J B;have y:=C.out.kept (Fq B none) (Or.inr (by simp[Value.ownBlock]));have Q:Hid ((Tryz.prog.info? 204).map (·.size)=some (BC (p.s k)).size):=by
    show _=_;rw[BC,EE];exact Lg
   have D:(O.alloc (.cells (BC (p.s k)) 204)).heap[O.heap.size]?=some (.cells (BC (p.s k)) 204 (0,0)):=heap_alloc_last _ _;have HK:=Ap D;have S:=Ap (y.alloc (.cells (BC (p.s k)) 204));have gA:=A8 T (A9 O (.cells (BC (p.s k)) 204));have tB:w.heap.size+2<=O.heap.size:=(by have:=B.size;rw[World.size_alloc,World.size_alloc]at this;omega);obtain⟨i0,W,N⟩:=Option.map_eq_some_iff.1 Kb;simp only[Prod.mk.injEq]at N;have Z:=Ap (And.intro W N);clear B T y D J x0 x1 x2 x3 y0 y1 y2 y3 q0 q1 q2 HC C W N;go_wp2_with (first
    | (refine wpList_store_row rfl 204 (.tmp 8) (.tmp 23) rfl O.heap.size (BC (p.s k)) rfl rfl 204 #[Value.int .i64 0,Value.int .i64 0,Value.int .i64 0,Value.int .i64 0,Value.int .i64 0,Value.int .i64 0,Value.int .i64 0,Value.int .i64 0,Value.int .i64 0,Value.int .i64 0,Value.int .i64 0,Value.int .i64 0,Value.int .i64 0,Value.int .i64 0,Value.int .i64 0,Value.int .i64 0] (heap_alloc_last _ _) Q.out (by rw[BC,EE];rfl) (Kh _) ?_;rw[World.setRow_alloc_new]))
   go_loopw [7,24] (fun o i wr=>∃(j:Nat) (oa:Option Addr) (oc:Nat),j<=8/\i = .int .i64 j/\o = .slice oa (((k:Int),xb) :: D3 F (p.s k) j).length oc/\wr.ownsRow (w.heap.size+1) 40 2 o (((k:Int),xb) :: D3 F (p.s k) j).length (pcl (((k:Int),xb) :: D3 F (p.s k) j))/\wr.heap[O.heap.size]?=some (.cells (BC (p.s k)) 204 (0,0))/\Below w.heap.size w wr) (fun _ i _=>8 - (intOf i).toNat)
   case atStart=>exact⟨0,_,_,Nat.zero_le _,rfl,rfl,S.out,HK.out,gA⟩
   case round=>
    obtain⟨j,oa,oc,hj,rfl,rfl,G,hK,hb⟩:=hrel;have m:=Ap G;have z:=Ap hK;have Y:O.heap.size<wr.heap.size:=(Array.getElem?_eq_some_iff.1 hK).1;have jB:=Vu HF.out (p.s k) j;clear G hK;by_cases lA:j<8
    ·have kB:(j:Int)<8:=(by omega);obtain⟨y0,y1⟩:=At (i:=j*2) z.out (I3 (B7 (p.s k)) (by omega));obtain⟨y2,y3⟩:=At (i:=j*2+1) z.out (I3 (B7 (p.s k)) (by omega));have fA:Hid (Nil (B7 (p.s k) (j*2)) (B7 (p.s k) (j*2+1))\/BA p (B7 (p.s k) (j*2)) (B7 (p.s k) (j*2+1))):=by
      by_cases hn:Nil (AL (p.s k) j) (AW (p.s k) j)
      ·exact Or.inl hn
      ·exact Or.inr (Iv Hf.out lA hn).1
     go_wp2_with fail;refine(R.out _ lo hi (B7 (p.s k) (j*2)) (B7 (p.s k) (j*2+1)) _ (Hs.out.A1 hb) fA.out).mono ?_;rintro e w2 ⟨v2,rfl,l,r⟩;obtain⟨na,nc,rfl,_⟩:=C6 l;have rB:=HF.out (B7 (p.s k) (j*2)) (B7 (p.s k) (j*2+1));have H:=Ap l;have h:=Ap (m.out.kept (Fq r none) (by cases hv:(Value.slice oa (((k:Int),xb) :: D3 F (p.s k) j).length oc).ownBlock<;>simp));have P:=Ap ((r.block _ Y).trans z.out);have U:=A8 hb r;have vB:=r.size;clear l r y0 y1 y2 y3 m z;go_wp2_with (first
      | (at_builtin;refine L1 rfl _ _ 41 rfl (w.heap.size+1) 40 i0 (.agg #[.int .i64 0,.int .i64 0]) 2 16 (by kernel_rfl) Z.out.1 Z.out.2.1 Z.out.2.2.1 Z.out.2.2.2 rfl (by decide) (.slice oa (((k:Int),xb) :: D3 F (p.s k) j).length oc) (((k:Int),xb) :: D3 F (p.s k) j).length (pcl (((k:Int),xb) :: D3 F (p.s k) j)) rfl ?c0 na (F (B7 (p.s k) (j*2)) (B7 (p.s k) (j*2+1))).length nc (pcl (F (B7 (p.s k) (j*2)) (B7 (p.s k) (j*2+1)))) rfl (F8 _) (NQ _) ?c1 ?c3 ?c4 ?c5 ?_))
     case c0=>exact h.out
     case c1=>
      intro h0;obtain⟨g,cap,e,_,_,_,M⟩:=Gd H.out h0;simp only[Value.slice.injEq,true_and]at e;exact⟨g,0,e.1,fun j u hj=>by rw[Nat.zero_add];exact(M j u hj).1⟩
     case c3=>rw[List.length_cons];unfold maxLen;omega
     case c4=>rw[List.length_cons];omega
     case c5=>omega
     intro v3 w3 f d _;have t:((k:Int),xb) :: D3 F (p.s k) (j+1)=(((k:Int),xb) :: D3 F (p.s k) j) ++ F (B7 (p.s k) (j*2)) (B7 (p.s k) (j*2+1)):=rfl;have V:(D3 F (p.s k) j).length+1+(F (B7 (p.s k) (j*2)) (B7 (p.s k) (j*2+1))).length=(((k:Int),xb) :: D3 F (p.s k) (j+1)).length:=(by rw[t,List.length_append,List.length_cons]);rw[<-Kx,<-t,V]at f;have cA:=Ap ((d.block _ (by omega) (fun e=>zBJ h.out P.out e.symm)).trans P.out);have iA:=U.grown d U.size (fun q hq=>by have:=h.out.lt q hq;omega);obtain⟨nA,oA,rfl,_⟩:=C6 f;have I:=Ap f;clear f d t V;go_wp2;go_roundw
     case rel=>exact⟨j+1,nA,oA,by omega,by go_num,rfl,I.out,cA.out,iA⟩
     case measure=>simp[intOf];omega
    ·obtain rfl:j=8:=(by omega);go_wp2;go_ret;refine⟨_,rfl,?_,hb⟩;rw[show FR p F (k:Int) xb=((k:Int),xb) :: D3 F (p.s k) 8 by unfold FR;rw[if_neg HN.out,Int.toNat_natCast]];exact QP m.out (by omega)
theorem zDR(p:A7)(c:AX p):La p 1 (DA p):=by
 have h:=Vi p 1 one c (by omega) (fun a b=>by unfold one;split<;>simp) (zDS p);have e:FR p one=DA p:=by
  funext xs xb;unfold FR DA Gm;rw[Qn]
 rw[e]at h;exact h
theorem Vh(p:A7)(a:AX p):La p 0 (AE p):=by
 have h:=Vi p 0 (DA p) a (by omega) (U0 p) (zDR p a);have e:FR p (DA p)=AE p:=by
  funext xs xb;unfold FR AE;rw[Qm]
 rw[e]at h;exact h
def K3(n:Nat)(f g:Nat->Int)(x y:Int):Prop:=∃j,j<n/\f j=x/\g j=y
variable{a:Option Addr}
theorem Ay.cellsT(h:Ay w lo hi (.slice a n c) n f g){k:Nat}(e:k<n):∃b off,a=some ⟨b,off,none⟩/\w.cell? ⟨b,off+k*2,none⟩=some (.int .i64 (f k))/\w.cell? ⟨b,off+k*2+1,none⟩=some (.int .i64 (g k)):=by
 obtain⟨_,l,m,hv,_,j⟩:=h;simp only[Value.slice.injEq,true_and]at hv;obtain⟨rfl,rfl⟩:=hv;obtain⟨b,off,i,_,_,d⟩:=j (by omega);exact⟨b,off,i,(d k e).1,(d k e).2⟩
theorem Ay.take{m c':Nat}(h:Ay w lo hi (.slice a n c) n f g)(t:m<=n)(j:m<=c'):Ay w lo hi (.slice a m c') m f g:=by
 obtain⟨r,p,q,hv,_,o⟩:=h;simp only[Value.slice.injEq,true_and]at hv;obtain⟨rfl,rfl⟩:=hv;refine⟨by omega,_,c',rfl,j,fun s=>?_⟩;obtain⟨b,off,e,l,k,d⟩:=o (by omega);exact⟨b,off,e,l,k,fun i hi=>d i (by omega)⟩
theorem zCE(v:Value)(n lo hi:Nat)(f g:Nat->Int)(x y:Int)(w:World)(s:Ay w lo hi v n f g) :
 Calls Tryz.prog 188 #[v,.agg #[.int .i64 x,.int .i64 y]] w fun e w'=>(∃r:Int,e = .returned (.int .i64 r)/\(0<=r↔K3 n f g x y))/\Below w.heap.size w w':=by
 have C:=Ap s;obtain⟨F,a,c,rfl,K,_⟩:=id s;unfold maxLen at F;clear s;have E:=A9 w (.cells #[.int .i64 x,.int .i64 y] 40);have B:=Ap (Ad.new w (.int .i64 x) (.int .i64 y) 40);go_enter Tryz.func188,Tryz.ntmps188;go_wp2
 go_loopw [8] (fun i wr=>∃k:Nat,k<=n/\i = .int .i64 k/\¬K3 k f g x y/\Ad wr w.heap.size (.int .i64 x) (.int .i64 y)/\Below w.heap.size w wr) (fun i _=>n - (intOf i).toNat)
 case atStart=>exact⟨0,Nat.zero_le _,rfl,fun ⟨j,z,_⟩=>absurd z (Nat.not_lt_zero _),B.out,E⟩
 case round=>
  obtain⟨k,J,rfl,p,u,q⟩:=hrel;have m:=Ap p;have t:=Ap u;clear p u;obtain⟨⟨L,M⟩,⟨N,O⟩⟩:=t.out;by_cases o:k<n
  ·have A:(k:Int)<(n:Int):=(by omega);obtain⟨b,off,rfl,G,q1⟩:=(C.out.A1 q).cellsT o;by_cases d:x=f k/\y=g k
   ·have H:=Ap (show K3 n f g x y from⟨k,o,d.1.symm,d.2.symm⟩);rw[<-d.1]at G;rw[<-d.2]at q1;clear d;go_wp2
    go_quiet (fail)
    go_wp2;go_ret;exact⟨⟨_,rfl,⟨fun _=>H.out,fun _=>Int.natCast_nonneg _⟩⟩,Jq q _⟩
   ·have H:=Ap d;have e0:(x == f k)=false\/(x == f k)=true/\(y == g k)=false:=by
     by_cases h:x=f k
     ·right;refine⟨by simp[h],?_⟩;have:y≠g k:=fun D=>d ⟨h,D⟩
      simp[this]
     ·left;simp[h]
    clear d;rcases e0 with e0 | ⟨e0,I⟩
    all_goals
     go_wp2
     go_quiet (fail)
     go_wp2;go_roundw
     case rel=>
      refine⟨k+1,by omega,by go_num,?_,t.out.A1 (Jq (Below.refl _ _) _),Jq q _⟩;rintro⟨j,z,l⟩;by_cases e:j=k
      ·subst e;exact H.out ⟨l.1.symm,l.2.symm⟩
      ·exact m.out ⟨j,by omega,l⟩
     case measure=>simp[intOf];omega
  ·obtain rfl:k=n:=(by omega);go_wp2;go_ret;exact⟨⟨-1,rfl,⟨fun h=>absurd h (by omega),fun h=>absurd h m.out⟩⟩,q⟩
theorem Yd(v:Value)(n lo hi:Nat)(f g:Nat->Int)(x y:Int)(w:World)(b:Ay w lo hi v n f g) :
 Calls Tryz.prog 167 #[v,.agg #[.int .i64 x,.int .i64 y]] w fun e w'=>AJ (K3 n f g x y) e/\Below w.heap.size w w':=by
 have j:=Ap b;obtain⟨m,a,c,rfl,o,_⟩:=id b;clear b;have d:=A9 w (.cells #[.int .i64 x,.int .i64 y] 40);go_enter Tryz.func167,Tryz.ntmps167;go_wp2_with fail;refine(zCE _ n lo hi f g x y _ (j.out.A1 d)).mono ?_;rintro e w' ⟨⟨r,rfl,i⟩,h⟩;have k:=Ap i;have l:=A8 d h;clear i h;go_wp2;go_ret;exact⟨⟨_,rfl,by simpa using k.out⟩,l⟩
def PK(p:A7)(n:Nat)(f g:Nat->Int):Prop:=∀i,i<n->¬K3 i f g (f i) (g i)/\¬Has p.hn p.h (f i)
theorem yR(P v1 v:Value)(lo hi C B n:Nat)(p:A7)(f g:Nat->Int)(w:World)(F:DU w lo hi P v1 p)(L:Ay w C B v n f g) :
 Calls Tryz.prog 164 #[.agg #[P,v1],v] w fun e w'=>AJ (PK p n f g) e/\Below w.heap.size w w':=by
 have Hp:=Ap F;have R:=Ap L;obtain⟨a,c,y,c',rfl,rfl⟩:∃a c y c',P = .slice a p.n c/\v1 = .slice y p.hn c':=by
  obtain⟨⟨_,a,c,F,_⟩,⟨_,y,c',h3,_⟩⟩:=F;exact⟨a,c,y,c',F,h3⟩
 obtain⟨m1,la,Y,rfl,mc,_⟩:=id L;unfold maxLen at m1;clear F L;have ha:=A9 w (.cells #[.slice a p.n c,.slice y p.hn c'] 26);have Z:=Ap (Ad.new w (.slice a p.n c) (.slice y p.hn c') 26);go_enter Tryz.func164,Tryz.ntmps164;go_wp2
 go_loopw [9] (fun i wr=>∃k:Nat,k<=n/\i = .int .i64 k/\PK p k f g/\Ad wr w.heap.size (.slice a p.n c) (.slice y p.hn c')/\Below w.heap.size w wr) (fun i _=>n - (intOf i).toNat)
 case atStart=>exact⟨0,Nat.zero_le _,rfl,fun j hj=>absurd hj (Nat.not_lt_zero _),Z.out,ha⟩
 case round=>
  obtain⟨k,hk,rfl,z,S,M⟩:=hrel;have x:=Ap z;have J:=Ap S;clear z S;by_cases u:k<n
  · have T:(k:Int)<(n:Int):=by omega
    have eA:(k:Int)<=(Y:Int):=(by omega);obtain⟨b,off,rfl,q0,q1⟩:=(R.out.A1 M).cellsT u;have A:=A9 wr (.cells #[.int .i64 (f k),.int .i64 (g k)] 40);have o:=Ap (J.out.A1 A);have H:=Ap (Ad.new wr (.int .i64 (f k)) (.int .i64 (g k)) 40);have q:=A8 M A;have fA:w.heap.size<wr.heap.size:=J.out.1.lt;have N:(wr.alloc (.cells #[.int .i64 (f k),.int .i64 (g k)] 40)).heap.size=wr.heap.size+1:=World.size_alloc _ _;go_upto_region 4 with fail;generalize wr.alloc (.cells #[.int .i64 (f k),.int .i64 (g k)] 40)=wx at o H q N ⊢;clear q0 q1 A J;have s:=Ap ((R.out.A1 q).take (m:=k) (c':=Y) (by omega) (by omega));obtain⟨⟨x0,x1⟩,⟨x2,x3⟩⟩:=o.out;obtain⟨⟨y0,y1⟩,⟨y2,y3⟩⟩:=H.out;by_cases I:K3 k f g (f k) (g k)
    · have D:=Ap I
      clear I
      first
       | (go_region_with (first
           | (go_at_call 167
              refine(Yd _ k C B f g (f k) (g k) _ ?_).mono ?_
              (first | exact s.out | exact s.out.A1 (Below.refl _ _).drew)
              rintro e Q ⟨⟨O,rfl,r⟩,l⟩;obtain rfl:O=true:=r.2 D.out;clear r;have d:Below wx.heap.size wx Q:=(by first | exact l | exact Cs l);obtain⟨⟨U,_⟩,⟨V,_⟩⟩:=o.out.A1 d;obtain⟨⟨W,_⟩,⟨X,_⟩⟩:=H.out.A1 d)))
       | fail
      all_goals
       have t:=A8 q d;go_wp2;go_ret;exact⟨AJ.no fun h=>(h k u).1 D.out,t⟩
    · have D:=Ap I
      clear I;go_region_held3 (fun w'=>w'.cell? ⟨w.heap.size,0,none⟩=some (.slice a p.n c)/\w'.cell? ⟨w.heap.size,1,none⟩=some (.slice y p.hn c')/\w'.cell? ⟨wr.heap.size,0,none⟩=some (.int .i64 (f k))/\w'.cell? ⟨wr.heap.size,1,none⟩=some (.int .i64 (g k))) (go_keep)
       (first
         | (go_at_call 167
            refine(Yd _ k C B f g (f k) (g k) _ ?_).mono ?_
            (first | exact s.out | exact s.out.A1 (Below.refl _ _).drew)
            rintro e Q ⟨⟨O,rfl,r⟩,l⟩;obtain rfl:O=false:=Bb r D.out;clear r;have d:Below wx.heap.size wx Q:=(by first | exact l | exact Cs l);obtain⟨⟨U,_⟩,⟨V,_⟩⟩:=o.out.A1 d;obtain⟨⟨W,_⟩,⟨X,_⟩⟩:=H.out.A1 d)
         | (go_at_call 145
            refine(Oj _ p.hn lo hi p.h (f k) _ ?_).mono ?_;exact(Hp.out.2.A1 (A8 q d));rintro e w3 ⟨⟨t3,rfl,G⟩,rfl⟩))
      have t:=A8 q d;have K:=Ap (o.out.A1 d);have E:=Ap G;clear G d l x0 x1 x2 x3 y0 y1 y2 y3 U V W X;cases t3
      · go_wp2
        go_roundw
        case rel=>exact⟨k+1,by omega,by go_num,Bf (n:=n) u x.out ⟨D.out,fun h=>absurd (E.out.2 h) (by simp)⟩,K.out,t⟩
        case measure=>simp[intOf];omega
      · go_wp2
        go_ret;exact⟨AJ.no fun h=>(h k u).2 (E.out.1 trivial),t⟩
  · obtain rfl:k=n:=by omega
    go_wp2;go_ret;exact⟨AJ.yes x.out,M⟩
theorem zFN(f:l.length<=maxLen)(h:w.ownsRow base 40 2 v l.length (pcl l)):Ay w 0 w.heap.size v l.length (fun i=>(l.getD i (0,0)).1) (fun i=>(l.getD i (0,0)).2):=by
 by_cases e:0<l.length
 · obtain⟨g,cap,rfl,c,j,d,b⟩:=Gd h e
   refine⟨f,_,cap,rfl,c,fun _=>⟨g,0,rfl,Nat.zero_le _,d,fun i hi=>?_⟩⟩;have get:∀(l:List (Int×Int)) i,i<l.length->(pcl l)[i*2]?=some (.int .i64 (l.getD i (0,0)).1)/\(pcl l)[i*2+1]?=some (.int .i64 (l.getD i (0,0)).2):=by
    intro l
    induction l with
    | nil=>intro i hi;simp at hi
    | cons x l ih=>
      intro i hi;cases i with
      | zero=>exact⟨rfl,rfl⟩
      | succ i=>
        have:=ih i (by simpa using hi);rw[show(i+1)*2=i*2+1+1 by omega];simpa[pcl]using this
   rw[Nat.zero_add];exact⟨(b _ _ (get l i hi).1).1,(b _ _ (get l i hi).2).1⟩
 · obtain⟨a,cap,rfl,c⟩:=C6 h
   exact⟨f,a,cap,rfl,c,fun h=>absurd h e⟩
theorem zAh(p:A7)(l:List (Int×Int)):PK p l.length (fun i=>(l.getD i (0,0)).1) (fun i=>(l.getD i (0,0)).2)↔Rh p l:=by
 have a:∀i (h:i<l.length),l.getD i (0,0)=l[i]:=fun i h=>by rw[List.getD_eq_getElem?_getD,List.getElem?_eq_getElem h,Option.getD_some]
 constructor
 · intro h
   refine⟨?_,fun x m=>?_⟩
   · rw[List.Nodup,List.pairwise_iff_getElem]
     intro i j hi b c e;refine(h j b).1 ⟨i,c,?_,?_⟩
     · show(l.getD i (0,0)).1=(l.getD j (0,0)).1
       rw[a i hi,a j b,e]
     · show(l.getD i (0,0)).2=(l.getD j (0,0)).2
       rw[a i hi,a j b,e]
   · obtain⟨i,hi,rfl⟩:=List.getElem_of_mem m
     have:=(h i hi).2;simp only[a i hi]at this;exact this
 · rintro⟨g,k⟩ i hi
   refine⟨?_,?_⟩
   · rintro⟨j,b,d,f⟩
     simp only[a i hi,a j (by omega)]at d f;rw[List.Nodup,List.pairwise_iff_getElem]at g;exact g j i (by omega) hi b (Prod.ext d f)
   · simp only[a i hi]
     exact k _ (List.getElem_mem hi)
end Go.Proofs.YtnfjcaoclahfjaaGreatDoor

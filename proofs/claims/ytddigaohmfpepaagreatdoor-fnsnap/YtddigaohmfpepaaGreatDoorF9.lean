/- A part of the proof. -/
import Derived.Test.YtddigaohmfpepaaGreatDoorF8
import Derived.Scope
import Derived.WalkMore
import Derived.Deep.MidRow
set_option linter.unusedVariables false
set_option maxRecDepth 20000
set_option maxHeartbeats 4000000
namespace Go.Proofs.YtddigaohmfpepaaGreatDoor
open Go.RowKit
def Au(p:A7)(i:Nat)(s:AH):A7:={n:=p.n,s:=fun j=>if j=i then s else p.s j,hn:=p.hn,h:=p.h}
variable{w:World}{lo hi:Nat}{p:A7}
theorem zFt{wr:World}{R:Nat}{s0 s1:Value}(e:Bq wr lo hi s0 s1 p)(b:R<lo)(a:w.heap.size<=R)(d:hi<=wr.heap.size)(c:Below w.heap.size w wr) :
 Bq ((wr.setCell ⟨R,0,none⟩ s0).setCell ⟨R,1,none⟩ s1) w.heap.size ((wr.setCell ⟨R,0,none⟩ s0).setCell ⟨R,1,none⟩ s1).heap.size s0 s1 p/\Below w.heap.size w ((wr.setCell ⟨R,0,none⟩ s0).setCell ⟨R,1,none⟩ s1):=by
 have t:=(AC.put wr R 0 s0).trans (AC.put _ R 1 s1);have g:=t.size;exact⟨(e.AD t (fun k f=>by omega)).wide (by omega) (by omega),(c.setCell a _).setCell a _⟩
def Ba(n:Nat)(f:Nat->AH)(i:Nat):Prop:=i<n/\Ah (f i)/\∀j,j<i->¬Ah (f j)
variable{n i j:Nat}
theorem Ba.uniq{f:Nat->AH}(h:Ba n f i)(a:Ba n f j):i=j:=by
 rcases Nat.lt_trichotomy i j with e | e | e
 ·exact absurd h.2.1 (a.2.2 i e)
 ·exact e
 ·exact absurd a.2.1 (h.2.2 j e)
open Classical in
noncomputable def Bv(p:A7)(s:AH):Dr:=
 if AZ p/\¬Ah s/\C5 p s then(if h:∃i,Ba p.n p.s i then⟨Au p (Classical.choose h) s,((Classical.choose h:Nat):Int),s.birth,0⟩else⟨Cs 0,0,0,6⟩)else⟨Cs 0,0,0,1⟩
variable{s:AH}
theorem Qk(h:¬(AZ p/\¬Ah s/\C5 p s)):Bv p s=⟨Cs 0,0,0,1⟩:=if_neg h
theorem Ko(h:AZ p/\¬Ah s/\C5 p s)(a:∀j,j<p.n->¬Ah (p.s j)):Bv p s=⟨Cs 0,0,0,6⟩:=by
 unfold Bv;rw[if_pos h,dif_neg (fun ⟨i,hi⟩=>a i hi.1 hi.2.1)]
theorem KT(h:AZ p/\¬Ah s/\C5 p s)(b:Ba p.n p.s i):Bv p s=⟨Au p i s,(i:Int),s.birth,0⟩:=by
 unfold Bv;have a:∃i,Ba p.n p.s i:=⟨i,b⟩;rw[if_pos h,dif_pos a];have e:Classical.choose a=i:=(Classical.choose_spec a).uniq b;rw[e]
theorem zCV(b:AZ p)(c:¬Ah s):Jq p.n p.s s↔C5 p s:=by
 have a:∀i,i<p.n->¬Ah (p.s i)->1<=(p.s i).birth:=fun i hi=>R5 (b.2.1 i hi)
 constructor
 ·rintro(h | h | h)
  ·exact absurd h c
  ·exact⟨h.1,Or.inl h.2⟩
  ·exact⟨h.1.1,Or.inr ⟨h.1.2.1,h.1.2.2,fun j d=>(NH a).1 (h.2 j (by have:=h.1.2.1;omega))⟩⟩
 ·intro h;rcases h.2 with g | g
  ·exact Or.inr (Or.inl ⟨h.1,g⟩)
  ·exact Or.inr (Or.inr ⟨⟨h.1,g.1,g.2.1⟩,fun j d=>(NH a).2 (g.2.2 j (by omega))⟩)
theorem zCa(v:Value)(n lo hi:Nat)(f:Nat->AH)(w:World)(u:CL w lo hi v n f) :
 Calls Tryz.prog 138 #[v,.func (.func 137) #[] #[]] w fun e w'=>((∃i:Nat,Ba n f i/\e = .returned (A0 (i:Int)))\/((∀j,j<n->¬Ah (f j))/\e = .returned (A0 (-1))))/\Below w.heap.size w w':=by
 have y:=AT u;obtain⟨B,a,c,rfl,G,z⟩:=u;unfold maxLen at B;clear z;go_enter Tryz.func138,Tryz.ntmps138;go_wp2
 go_loopw [5,8] (fun _ i wr=>∃k:Nat,k<=n/\i=A0 k/\(∀j,j<k->¬Ah (f j))/\Below w.heap.size w wr) (fun _ i _=>n - (intOf i).toNat)
 case atStart=>exact⟨0,Nat.zero_le _,rfl,fun j A=>absurd A (Nat.not_lt_zero _),Below.refl _ _⟩
 case round=>
  obtain⟨k,E,rfl,g,r⟩:=hrel;have d:=AT g;clear g;by_cases h:k<n
  ·have x:(k:Int)<(n:Int):=(by omega);obtain⟨b,off,F,kc,rfl,hs⟩:=(y.out.A1 r).cells h;have s:=AT hs;obtain⟨C,q1,D,_⟩:=hs;go_wp2_with fail;refine(Kr _ _ _ lo hi (f k) _ s.out.slot).mono ?_;rintro e H ⟨⟨t,rfl,p⟩,m⟩;have o:=A9 r m;clear m C q1 D s;by_cases l:Ah (f k)
   ·obtain rfl:t=true:=p.2 l;have q:=AT l;clear p l;go_wp2;go_ret;exact⟨Or.inl ⟨k,⟨h,q.out,d.out⟩,rfl⟩,o⟩
   ·obtain rfl:t=false:=BQ p l;have q:=AT l;clear p l;go_wp2;go_roundw
    case rel=>exact⟨k+1,by omega,by go_num,Br h d.out q.out,o⟩
    case measure=>simp[intOf];omega
  ·obtain rfl:k=n:=(by omega);go_wp2;go_ret;exact⟨Or.inr ⟨d.out,rfl⟩,r⟩
variable{v:Value}{f:Nat->Int}
theorem BG.all{g:Nat->Int}(h:BG w lo hi v n f g):BG w 0 w.heap.size v n f g:=by
 obtain⟨e,a,cap,hv,c,j⟩:=h;refine⟨e,a,cap,hv,c,fun hn=>?_⟩;obtain⟨b,off,i,k,l,d⟩:=j hn;exact⟨b,off,i,Nat.zero_le _,AV (d 0 hn).1,d⟩
theorem CU.all{v0 v1 v2:Value}(h:CU w lo hi v0 v1 v2 s):CU w 0 w.heap.size v0 v1 v2 s:=⟨h.1,h.2.1.all,h.2.2⟩
theorem DA.all(h:DA w lo hi v n f):DA w 0 w.heap.size v n f:=by
 obtain⟨e,a,cap,hv,c,i⟩:=h;refine⟨e,a,cap,hv,c,fun hn=>?_⟩;obtain⟨b,off,g,j,k,d⟩:=i hn;exact⟨b,off,g,Nat.zero_le _,AV (d 0 hn),d⟩
variable{f:Nat->AH}{kv:Nat->Value}{k:Nat}
theorem Vf{g:Nat->AH}{a:Nat->Value}(h:∀i,i<k->f i=g i/\kv i=a i):sc f kv k=sc g a k:=by
 induction k with
 | zero=>rfl
 | succ k ih=>
   unfold sc;rw[ih (fun i hi=>h i (by omega)),(h k (by omega)).1,(h k (by omega)).2]
theorem Qf(f:Nat->AH)(kv:Nat->Value)(k m:Nat):sc f kv (k+m)=sc f kv k ++ sc (fun i=>f (k+i)) (fun i=>kv (k+i)) m:=by
 induction m with
 | zero=>simp[sc]
 | succ m ih=>
   show sc f kv (k+m) ++ [A0 (f (k+m)).birth,kv (k+m),.string (f (k+m)).data]=sc f kv k ++ (sc (fun i=>f (k+i)) (fun i=>kv (k+i)) m ++ [A0 (f (k+m)).birth,kv (k+m),.string (f (k+m)).data]);rw[ih,List.append_assoc]
theorem zE5{u:Value}(h:k<=n)(b:(sc f kv k)[j]?=some u):(sc f kv n)[j]?=some u:=by
 obtain⟨m,rfl⟩:=Nat.exists_eq_add_of_le h;have a:=(List.getElem?_eq_some_iff.1 b).1;rw[Qf,List.getElem?_append_left a];exact b
theorem zE6{m:Nat}{u:Value}(a:(sc (fun i=>f (k+i)) (fun i=>kv (k+i)) m)[j]?=some u):(sc f kv (k+m))[k*3+j]?=some u:=by
 rw[Qf,List.getElem?_append_right (by rw[Gu];omega),Gu];rw[show k*3+j - k*3=j by omega];exact a
theorem Xl(f:Nat->AH)(i:Nat)(s:AH):∀n,DC (fun j=>if j=i then s else f j) n<=DC f n+(if i<n then Ce s else 0)
 | 0=>Nat.zero_le _
 | n+1=>by
   have a:=Xl f i s n;show DC (fun j=>if j=i then s else f j) n+Ce (if n=i then s else f n)<=DC f n+Ce (f n)+_;by_cases e:n=i
   · rw[if_pos e,if_pos (by omega)]
     rw[if_neg (by omega)]at a;omega
   · rw[if_neg e]
     by_cases b:i<n
     · rw[if_pos b]at a
       rw[if_pos (by omega)];omega
     · rw[if_neg b]at a
       rw[if_neg (by omega)];omega
theorem Vi(p:A7)(i:Nat)(s:AH):Ap (Au p i s)<=Ap p+Ce s:=by
 have h:=Xl p.s i s p.n;have a:(if i<p.n then Ce s else 0)<=Ce s:=(by split<;>omega);show p.n+DC (fun j=>if j=i then s else p.s j) p.n+p.hn<=p.n+DC p.s p.n+p.hn+Ce s;omega
variable{cv:Nat->Value}
theorem zIN{kv:Value}{a:Nat}(h:a<p.n) :
 sc p.s cv a ++ [A0 s.birth,kv,.string s.data] ++ sc (fun i=>p.s (a+1+i)) (fun i=>cv (a+1+i)) (p.n - (a+1))=sc (Au p a s).s (fun j=>if j=a then kv else cv j) p.n:=by
 have e:=Qf (Au p a s).s (fun j=>if j=a then kv else cv j) (a+1) (p.n - (a+1));rw[show a+1+(p.n - (a+1))=p.n by omega]at e;rw[e];congr 1
 · show _=sc (Au p a s).s (fun j=>if j=a then kv else cv j) a ++ [A0 ((Au p a s).s a).birth,(if a=a then kv else cv a),.string ((Au p a s).s a).data]
   rw[show(Au p a s).s a=s from if_pos rfl,if_pos rfl];congr 1;exact Vf fun i hi=>⟨(if_neg (by omega:¬i=a)).symm,(if_neg (by omega:¬i=a)).symm⟩
 · exact Vf fun i hi=>⟨(if_neg (by omega:¬a+1+i=a)).symm,(if_neg (by omega:¬a+1+i=a)).symm⟩
variable{base:Nat}
theorem zA9{e:Nat}(k:n<=maxLen)(h:w.ownsRow base e 3 v n (sc f cv n))(hs:∀i,i<n->CU w 0 w.heap.size (A0 (f i).birth) (cv i) (.string (f i).data) (f i)):CL w 0 w.heap.size v n f:=by
 by_cases j:0<n
 · obtain⟨g,cap,rfl,c,l,d,b⟩:=FI h j
   refine⟨k,_,cap,rfl,c,fun _=>⟨g,0,rfl,Nat.zero_le _,d,fun i hi=>⟨_,_,_,?_,?_,?_,hs i hi⟩⟩⟩
   · have:=(b (i*3+0) _ (IS f cv n i 0 hi (by omega))).1;simpa using this
   · have:=(b (i*3+1) _ (IS f cv n i 1 hi (by omega))).1;simpa using this
   · have:=(b (i*3+2) _ (IS f cv n i 2 hi (by omega))).1;simpa using this
 · obtain⟨a,cap,rfl,c⟩:=Bw h
   exact⟨k,a,cap,rfl,c,fun h=>absurd h j⟩
theorem zBl(v0 v1 kv:Value)(lo hi lo' hi' d:Nat)(p:A7)(s:AH)(w:World)(Q:CD w lo hi v0 v1 p)(h2:CU w lo' hi' (A0 s.birth) kv (.string s.data) s)(kA:d<p.n)(hn:Ap p+Ce s<=1048576) :
 Calls Tryz.prog 139 #[.agg #[v0,v1],A0 (d:Int),.agg #[A0 s.birth,kv,.string s.data]] w (Td (Au p d s) w):=by
 have Hp:=AT Q;have Hs:=AT h2;have Hn:=AT hn;have bC:p.n<=1048576:=(by unfold Ap at hn;omega);have cC:p.hn<=1048576:=(by unfold Ap at hn;omega);obtain⟨a,c,L,c',rfl,rfl⟩:=Q.form;obtain⟨G,kc,rfl⟩:=h2.form;have mc:p.n<=c:=(by obtain⟨⟨_,_,_,e,h,_⟩,_⟩:=Q;simp only[Value.slice.injEq,true_and]at e;omega);obtain⟨cv,V,F⟩:=Q.1.values;obtain⟨b,off,rfl,lA,mA,m⟩:=F (by omega);have O:=AT V;have t:=AT m;have U:b<w.heap.size:=by
  have:=m 0 _ (by have:=IS p.s cv p.n 0 0 (by omega) (by omega);simpa using this);exact AV this
 obtain⟨i1,X,z⟩:=Option.map_eq_some_iff.1 Xa;simp only[Prod.mk.injEq]at z;have l:=AT (And.intro X z);clear Q h2 hn V F m X z lA mA;have S:=AB w (.cells #[.slice (some ⟨b,off,none⟩) p.n c,.slice L p.hn c'] 26);have T:=A9 S (AB _ (.cells #[A0 s.birth,.slice G s.kn kc,.string s.data] 94));have D:=A9 T (AB _ (.cells #[A5,A5] 26));have HB:=AT (((Ad.new w (.slice (some ⟨b,off,none⟩) p.n c) (.slice L p.hn c') 26).A1 (AB _ (.cells #[A0 s.birth,.slice G s.kn kc,.string s.data] 94))).A1 (AB _ (.cells #[A5,A5] 26)));have K:=(CZ.new (w.alloc (.cells #[.slice (some ⟨b,off,none⟩) p.n c,.slice L p.hn c'] 26)) (A0 s.birth) (.slice G s.kn kc) (.string s.data) 94).A1 (AB _ (.cells #[A5,A5] 26));rw[World.size_alloc]at K;have HS:=AT K;have J:=Ad.new ((w.alloc (.cells #[.slice (some ⟨b,off,none⟩) p.n c,.slice L p.hn c'] 26)).alloc (.cells #[A0 s.birth,.slice G s.kn kc,.string s.data] 94)) (A5) (A5) 26;rw[World.size_alloc,World.size_alloc]at J;have HR:=AT J;clear S T K J;go_enter Tryz.func139,Tryz.ntmps139;go_wp2_with fail;generalize hW:((w.alloc (.cells #[.slice (some ⟨b,off,none⟩) p.n c,.slice L p.hn c'] 26)).alloc (.cells #[A0 s.birth,.slice G s.kn kc,.string s.data] 94)).alloc (.cells #[A5,A5] 26)=W at HB HS HR D ⊢;have hz:W.heap.size=w.heap.size+3:=(by rw[<-hW,World.size_alloc,World.size_alloc,World.size_alloc]);clear hW;obtain⟨⟨x0,x1⟩,⟨x2,x3⟩⟩:=HB.out;obtain⟨⟨y0,y1⟩,⟨y2,y3⟩,⟨y4,y5⟩⟩:=HS.out;have iB:(d:Int)<=(c:Int):=(by omega);have n0:W.heap.size≠w.heap.size:=(by omega);have n1:W.heap.size≠w.heap.size+1:=(by omega);go_region_held3 (fun w'=>w'.cell? ⟨w.heap.size,0,none⟩=some (.slice (some ⟨b,off,none⟩) p.n c)/\w'.cell? ⟨w.heap.size+1,0,none⟩=some (A0 s.birth)/\w'.cell? ⟨w.heap.size+1,1,none⟩=some (.slice G s.kn kc)/\w'.cell? ⟨w.heap.size+1,2,none⟩=some (.string s.data)) (go_keep)
  (first
    | (refine step_append_grows rfl (.tmp 12) (.tmp 14) 23 rfl 94 i1 (.agg #[A0 0,A5,.string ⟨#[]⟩]) 3 48 (by kernel_rfl) l.out.1 l.out.2.1 l.out.2.2.1 l.out.2.2.2 rfl (by decide) (some ⟨b,off,none⟩) d d (sc p.s cv d) (by simp[Act.eval]) (fun e=>by cases e) (Gu _ _ _) ?_ ⟨W.heap.size,0,none⟩ 1 1 [A0 s.birth,.slice G s.kn kc,.string s.data] (by simp[Act.eval]) rfl ?_ (zIi _ _ _ _ _) (by omega) (by unfold maxLen;omega) (by omega) ?_
       exact fun b1 e j u E=>by
        simp only[Option.some.injEq]at e;subst e;rw[add_lit];exact((A9 D (AB W _)).drew.cell (p:=⟨b,off+j,none⟩) U).trans (t.out j u (zE5 (by omega) E))
       exact zIo W _ _ _ _;intro v4 w4 o q;obtain⟨g4,c4,rfl,_⟩:=o.form (by omega);have y:Below W.heap.size W w4:=A9 (AB W _) (Cp (Rb q));have x:=AT (Nd (B:=W.heap.size) o (by simp));obtain⟨⟨p0,p1⟩,⟨p2,p3⟩⟩:=HB.out.A1 y;obtain⟨⟨p4,p5⟩,⟨p6,p7⟩,⟨p8,p9⟩⟩:=HS.out.A1 y;clear o q))
 have iA:=A9 D y;have jB:(d:Int)+1<=(p.n:Int):=(by omega);have oA:=y.size;clear x0 x1 x2 x3 y0 y1 y2 y3 y4 y5 p4 p5 p6 p7 p8 p9 HS;have dA:Hid (∀j u,(sc (fun i=>p.s (d+1+i)) (fun i=>cv (d+1+i)) (p.n - (d+1)))[j]?=some u->w4.cell? ((⟨b,off+(d+1)*3,none⟩:Addr).add j)=some u):=fun j u E=>by
  have e:=zE6 (f:=p.s) (kv:=cv) E;rw[show d+1+(p.n - (d+1))=p.n by omega]at e;rw[add_lit,show off+(d+1)*3+j=off+((d+1)*3+j)by omega];exact(iA.cell (p:=⟨b,off+((d+1)*3+j),none⟩) U).trans (t.out _ u e)
 have oB:Hid (c=d+1->∀j u,(sc (fun i=>p.s (d+1+i)) (fun i=>cv (d+1+i)) (p.n - (d+1)))[j]?=some u->w4.cell? ((⟨b,off,none⟩:Addr).add j)=some u):=fun vB j u E=>by
  rw[show p.n - (d+1)=0 by omega]at E;simp[sc]at E
 have P:Hid (∀u∈sc (fun i=>p.s (d+1+i)) (fun i=>cv (d+1+i)) (p.n - (d+1)),u.oneCell'=true):=qF _ _ _ (fun i hi=>by obtain⟨eC,fC,e⟩:=(O.out (d+1+i) (by omega)).form;rw[e];rfl);go_wp2_with (first
  | (at_builtin;refine Jt rfl _ _ 23 rfl W.heap.size 94 i1 (.agg #[A0 0,A5,.string ⟨#[]⟩]) 3 48 (by kernel_rfl) l.out.1 l.out.2.1 l.out.2.2.1 l.out.2.2.2 rfl (by decide) (.slice (some ⟨g4,0,none⟩) (d+1) c4) (d+1) _ rfl x.out _ (p.n - (d+1)) _ (sc (fun i=>p.s (d+1+i)) (fun i=>cv (d+1+i)) (p.n - (d+1))) rfl (Gu _ _ _) P.out (by intro hm;exact⟨b,off+(d+1)*3,(by first | rw[if_neg (by omega)] | rfl | simp),fun j u E=>by have hq:=dA.out j u E;rw[add_lit]at hq;exact hq⟩) ?c3 ?c4 ?c5 ?_))
 case c3=>unfold maxLen;omega
 case c4=>omega
 case c5=>omega
 all_goals
  intro v5 Z g r _;have hl:=zIN (s:=s) (cv:=cv) (kv:=.slice G s.kn kc) kA;simp only[List.append_assoc,List.cons_append,List.nil_append]at hl g;rw[show d+1+(p.n - (d+1))=p.n by omega,hl]at g;clear hl;obtain⟨g5,c5,rfl,_⟩:=g.form (by omega);have C:Below W.heap.size W Z:=y.grown r oA (fun k hk=>(x.out.lt k hk).1);have A:=A9 D C;have fA:Hid (CD Z 0 Z.heap.size (.slice (some ⟨g5,0,none⟩) p.n c5) (.slice L p.hn c') (Au p d s)):=by
   refine⟨zA9 (by show p.n<=maxLen;unfold maxLen;omega) g (fun i hi=>?_),(Hp.out.2.A1 A).all⟩;by_cases e:i=d
   · subst e
     rw[show(Au p i s).s i=s from if_pos rfl];simp only[if_true];exact(Hs.out.A1 A).all
   · rw[show(Au p d s).s i=p.s i from if_neg e]
     simp only[if_neg e];exact((O.out i hi).A1 A).all
  have cA:=AT (HR.out.A1 C);have dC:w.heap.size+3<=Z.heap.size:=(by have:=C.size;omega);clear g r p0 p1 p2 p3;obtain⟨⟨p0,p1⟩,⟨p2,p3⟩⟩:=HB.out.A1 C;go_wp2_with fail;refine(Oh _ _ 0 Z.heap.size (Au p d s) _ fA.out (by have:=Vi p d s;have:=Hn.out;omega)).mono ?_;rintro e w6 ⟨s0,s1,rfl,I,H⟩;obtain⟨a6,c6,a7,c7,rfl,rfl⟩:=I.form;have M:=AT (cA.out.A1 H);have eA:=AT I;have jA:=A9 A H;clear I H p0 p1 p2 p3;obtain⟨⟨u0,u1⟩,⟨u2,u3⟩⟩:=M.out;go_wp2;have N:=M.out.put (.slice a6 (Au p d s).n c6) (.slice a7 (Au p d s).hn c7);have Y:=zFt (R:=w.heap.size+1+1) eA.out (by omega) (by omega) (Nat.le_refl _) jA;exact bodyPost_ret (v:=.agg #[.slice a6 (Au p d s).n c6,.slice a7 (Au p d s).hn c7]) (by simp[results,Tryz.results139,go_sem,N.1.1,N.2.1]) rfl ⟨_,_,rfl,Y.1,Y.2⟩
theorem zHO(w:World)(a b d e f:Value)(c g h:TypeId) :
 Ad (((w.alloc (.cells #[a,b] c)).alloc (.cells #[d,e,f] g)).alloc (.cells #[A5,A5,A0 0,A0 0,A0 0] h)) w.heap.size a b/\
 CZ (((w.alloc (.cells #[a,b] c)).alloc (.cells #[d,e,f] g)).alloc (.cells #[A5,A5,A0 0,A0 0,A0 0] h)) (w.heap.size+1) d e f/\
 Du (((w.alloc (.cells #[a,b] c)).alloc (.cells #[d,e,f] g)).alloc (.cells #[A5,A5,A0 0,A0 0,A0 0] h)) (w.heap.size+1+1) (A5) (A5) (A0 0) (A0 0) (A0 0)/\
 Below w.heap.size w (((w.alloc (.cells #[a,b] c)).alloc (.cells #[d,e,f] g)).alloc (.cells #[A5,A5,A0 0,A0 0,A0 0] h))/\
 (((w.alloc (.cells #[a,b] c)).alloc (.cells #[d,e,f] g)).alloc (.cells #[A5,A5,A0 0,A0 0,A0 0] h)).heap.size=w.heap.size+3:=by
 refine⟨((Ad.new w a b c).A1 (AB _ _)).A1 (AB _ _),?_,?_,A9 (A9 (AB _ _) (AB _ _)) (AB _ _),by simp⟩
 ·have:=(CZ.new (w.alloc (.cells #[a,b] c)) d e f g).A1 (AB _ (.cells #[A5,A5,A0 0,A0 0,A0 0] h));rw[World.size_alloc]at this;exact this
 ·have:=Du.new ((w.alloc (.cells #[a,b] c)).alloc (.cells #[d,e,f] g)) (A5) (A5) (A0 0) (A0 0) (A0 0) h;rw[World.size_alloc,World.size_alloc]at this;exact this
theorem ZQ(v0 v1 kv:Value)(lo hi lo' hi':Nat)(p:A7)(s:AH)(w:World)(h1:CD w lo hi v0 v1 p)(h2:CU w lo' hi' (A0 s.birth) kv (.string s.data) s)(hn:Ap p+Ce s<=1048576) :
 Calls Tryz.prog 78 #[.agg #[v0,v1],.agg #[A0 s.birth,kv,.string s.data]] w (PK (Bv p s) w):=by
 have Hp:=AT h1;have Hs:=AT h2;have Hn:=AT hn;obtain⟨a,c,a',c',rfl,rfl⟩:=h1.form;obtain⟨ka,kc,rfl⟩:=h2.form;have aC:s.kn<=1048576:=by unfold Ce at hn;omega
 have bC:p.n<=1048576:=by unfold Ap at hn;omega
 have S:=zHO w (.slice a p.n c) (.slice a' p.hn c') (A0 s.birth) (.slice ka s.kn kc) (.string s.data) 26 94 117;clear h1 h2 hn;go_enter Tryz.func78,Tryz.ntmps78;go_wp2_with fail;generalize ((w.alloc (.cells #[.slice a p.n c,.slice a' p.hn c'] 26)).alloc (.cells #[A0 s.birth,.slice ka s.kn kc,.string s.data] 94)).alloc (.cells #[A5,A5,A0 0,A0 0,A0 0] 117)=W at S ⊢;obtain⟨hB,hX,hR,J,hz⟩:=S;refine(MR _ _ lo hi p _ (Hp.out.A1 J)).mono ?_;rintro e w1 ⟨⟨t,rfl,j⟩,q⟩;have M:=AT (hB.A1 q);have G:=AT (hX.A1 q);have B:=AT (hR.A1 q);have E:=A9 J q;have gB:w.heap.size+3<=w1.heap.size:=by have:=q.size;omega
 clear hB hX hR J q hz;by_cases o:AZ p
 ·have D:=AT o;obtain rfl:t=true:=j.2 o;clear j o;obtain⟨⟨y0,y1⟩,⟨y2,y3⟩,⟨y4,y5⟩⟩:=G.out;go_wp2_with fail;refine(Kr _ _ _ lo' hi' s _ (Hs.out.A1 E)).mono ?_;rintro e w2 ⟨⟨t,rfl,j⟩,r⟩;have F:=AT (M.out.A1 r);have H:=AT (G.out.A1 r);have C:=AT (B.out.A1 r);have y:=A9 E r;have iB:w.heap.size+3<=w2.heap.size:=(by have:=r.size;omega);clear r E M G B gB y0 y1 y2 y3 y4 y5;by_cases hF:Ah s
  ·have Y:=AT hF;obtain rfl:t=true:=j.2 hF;clear j hF;obtain⟨⟨u0,u1⟩,⟨u2,u3⟩,⟨u4,u5⟩,⟨u6,u7⟩,⟨u8,u9⟩⟩:=C.out;go_wp2;have b:=C.out.put (A5) (A5) (A0 0) (A0 0) (A0 1);have d:=Jh (R:=w.heap.size+1+1) (u2:=A0 0) (u3:=A0 0) (u4:=A0 1) (by omega) y;rw[Qk (fun h=>h.2.1 Y.out)];exact bodyPost_ret (v:=.agg #[A5,A5,A0 0,A0 0,A0 1]) (by simp[results,Tryz.results78,go_sem,b.1.1,b.2.1.1,b.2.2.1.1,b.2.2.2.1.1,b.2.2.2.2.1]) rfl ⟨_,_,rfl,d.1,d.2⟩
  ·have Y:=AT hF;obtain rfl:t=false:=BQ j hF;clear j hF;obtain⟨⟨T,U⟩,⟨V,X⟩⟩:=F.out;obtain⟨⟨y0,y1⟩,⟨y2,y3⟩,⟨y4,y5⟩⟩:=H.out;go_wp2_with fail;refine(Z4 _ _ _ _ p.n lo hi lo' hi' p.s s _ (Hp.out.1.A1 y) (Hs.out.A1 y)).mono ?_;rintro e w3 ⟨⟨t,rfl,j⟩,u⟩;rw[zCV D.out Y.out]at j;have A:=AT (F.out.A1 u);have I:=AT (H.out.A1 u);have k:=AT (C.out.A1 u);have m:=A9 y u;have jB:w.heap.size+3<=w3.heap.size:=(by have:=u.size;omega);clear u y F H C iB T U V X y0 y1 y2 y3 y4 y5;by_cases L:C5 p s
   ·have Z:=AT (And.intro D.out (And.intro Y.out L));obtain rfl:t=true:=j.2 L;clear j L;obtain⟨⟨T,U⟩,⟨V,X⟩⟩:=A.out;go_wp2_with fail;refine(zCa _ p.n lo hi p.s _ (Hp.out.1.A1 m)).mono ?_;rintro e w4 ⟨⟨i,Q,rfl⟩ | ⟨fB,rfl⟩,g⟩
    ·have N:=AT (A.out.A1 g);have O:=AT (I.out.A1 g);have l:=AT (k.out.A1 g);have z:=A9 m g;have dC:w.heap.size+3<=w4.heap.size:=(by have:=g.size;omega);have Hi:=AT Q;have vB:¬(i:Int)<0:=(by omega);clear g A I k m T U V X jB Q;obtain⟨⟨T,U⟩,⟨V,X⟩⟩:=N.out;obtain⟨⟨y0,y1⟩,⟨y2,y3⟩,⟨y4,y5⟩⟩:=O.out;obtain⟨⟨u0,u1⟩,⟨u2,u3⟩,⟨u4,u5⟩,⟨u6,u7⟩,⟨u8,u9⟩⟩:=l.out;have n0:w.heap.size+1+1≠w.heap.size:=(by omega);have n1:w.heap.size+1+1≠w.heap.size+1:=(by omega);go_wp2_with fail;go_region_held3 (fun w'=>w'.cell? ⟨w.heap.size,0,none⟩=some (.slice a p.n c)/\w'.cell? ⟨w.heap.size,1,none⟩=some (.slice a' p.hn c')/\w'.cell? ⟨w.heap.size+1,0,none⟩=some (A0 s.birth)/\w'.cell? ⟨w.heap.size+1,1,none⟩=some (.slice ka s.kn kc)/\w'.cell? ⟨w.heap.size+1,2,none⟩=some (.string s.data)) (go_keep)
      (first
       | (go_at_call 139;refine(zBl _ _ _ lo hi lo' hi' i p s _ ?_ ?_ Hi.out.1 Hn.out).mono ?_;(exact Hp.out.A1 z.drew);(exact Hs.out.A1 z.drew);rintro e w5 ⟨s0,s1,rfl,K,P⟩;obtain⟨a5,c5,a6,c6,rfl,rfl⟩:=K.form;have f:=Cp P;obtain⟨⟨p0,p1⟩,⟨p2,p3⟩⟩:=N.out.A1 f;obtain⟨⟨p4,p5⟩,⟨p6,p7⟩,⟨p8,p9⟩⟩:=O.out.A1 f;obtain⟨⟨r0,r1⟩,⟨r2,r3⟩,⟨r4,r5⟩,⟨r6,r7⟩,⟨r8,r9⟩⟩:=l.out.A1 f))
     have pA:Hid (Bq w5 w4.heap.size w5.heap.size (.slice a5 (Au p i s).n c5) (.slice a6 (Au p i s).hn c6) (Au p i s)):=K;have oA:=AT (l.out.A1 f);have eB:=A9 z f;clear K P f;go_wp2;have x:=oA.out.put (.slice a5 (Au p i s).n c5) (.slice a6 (Au p i s).hn c6) (A0 (i:Int)) (A0 s.birth) (A0 0);have d:=NK (R:=w.heap.size+1+1) (u2:=A0 (i:Int)) (u3:=A0 s.birth) (u4:=A0 0) pA.out (by omega) (by omega) (Nat.le_refl _) eB;rw[KT Z.out Hi.out];exact bodyPost_ret (v:=.agg #[.slice a5 (Au p i s).n c5,.slice a6 (Au p i s).hn c6,A0 (i:Int),A0 s.birth,A0 0]) (by simp[results,Tryz.results78,go_sem,x.1.1,x.2.1.1,x.2.2.1.1,x.2.2.2.1.1,x.2.2.2.2.1]) rfl ⟨_,_,rfl,d.1,d.2⟩
    ·have l:=AT (k.out.A1 g);have z:=A9 m g;clear g A I k m T U V X;obtain⟨⟨u0,u1⟩,⟨u2,u3⟩,⟨u4,u5⟩,⟨u6,u7⟩,⟨u8,u9⟩⟩:=l.out;go_wp2;have b:=l.out.put (A5) (A5) (A0 0) (A0 0) (A0 6);have d:=Jh (R:=w.heap.size+1+1) (u2:=A0 0) (u3:=A0 0) (u4:=A0 6) (by omega) z;rw[Ko Z.out fB];exact bodyPost_ret (v:=.agg #[A5,A5,A0 0,A0 0,A0 6]) (by simp[results,Tryz.results78,go_sem,b.1.1,b.2.1.1,b.2.2.1.1,b.2.2.2.1.1,b.2.2.2.2.1]) rfl ⟨_,_,rfl,d.1,d.2⟩
   ·have Z:=AT L;obtain rfl:t=false:=BQ j L;clear j L;obtain⟨⟨u0,u1⟩,⟨u2,u3⟩,⟨u4,u5⟩,⟨u6,u7⟩,⟨u8,u9⟩⟩:=k.out;go_wp2;have b:=k.out.put (A5) (A5) (A0 0) (A0 0) (A0 1);have d:=Jh (R:=w.heap.size+1+1) (u2:=A0 0) (u3:=A0 0) (u4:=A0 1) (by omega) m;rw[Qk (fun h=>Z.out h.2.2)];exact bodyPost_ret (v:=.agg #[A5,A5,A0 0,A0 0,A0 1]) (by simp[results,Tryz.results78,go_sem,b.1.1,b.2.1.1,b.2.2.1.1,b.2.2.2.1.1,b.2.2.2.2.1]) rfl ⟨_,_,rfl,d.1,d.2⟩
 ·have D:=AT o;obtain rfl:t=false:=BQ j o;clear j o;obtain⟨⟨u0,u1⟩,⟨u2,u3⟩,⟨u4,u5⟩,⟨u6,u7⟩,⟨u8,u9⟩⟩:=B.out;go_wp2;have b:=B.out.put (A5) (A5) (A0 0) (A0 0) (A0 1);have d:=Jh (R:=w.heap.size+1+1) (u2:=A0 0) (u3:=A0 0) (u4:=A0 1) (by omega) E;rw[Qk (fun h=>D.out h.1)];exact bodyPost_ret (v:=.agg #[A5,A5,A0 0,A0 0,A0 1]) (by simp[results,Tryz.results78,go_sem,b.1.1,b.2.1.1,b.2.2.1.1,b.2.2.2.1.1,b.2.2.2.2.1]) rfl ⟨_,_,rfl,d.1,d.2⟩
def mix(f g:Nat->Int)(j:Nat):Int:=if j % 2=0 then f (j / 2)else g (j / 2)
theorem KG(f g:Nat->Int)(i:Nat):mix f g (i*2)=f i/\mix f g (i*2+1)=g i:=by
 unfold mix;rw[if_pos (by omega),if_neg (by omega),show i*2 / 2=i by omega,show(i*2+1) / 2=i by omega];exact⟨rfl,rfl⟩
def Df(f g:Nat->Int):Prop:=∀i,i<8->Nil (f i) (g i)
theorem Uu(f g:Nat->Int):F2 (mix f g) (fun _=>0)=true↔Df f g:=by
 rw[QE];constructor
 ·intro h i hi;have:=h i hi;rw[(KG f g i).1,(KG f g i).2]at this;exact this
 ·intro h i hi;rw[(KG f g i).1,(KG f g i).2];exact h i hi
def Bc(f g:Nat->Int)(b:Int):AH:={birth:=b,kn:=8,ks:=f,kb:=g,data:=⟨#[]⟩}
open Classical in
noncomputable def GP(p:A7)(f g:Nat->Int)(b:Int):Dr:=if Df f g then⟨p,0,0,0⟩else Bv p (Bc f g b)
theorem zHN(w:World)(a b:Value)(cs:Array Value)(c d e:TypeId) :
 Ad (((w.alloc (.cells #[a,b] c)).alloc (.cells cs d)).alloc (.cells #[A5,A5,A0 0,A0 0,A0 0] e)) w.heap.size a b/\
 (((w.alloc (.cells #[a,b] c)).alloc (.cells cs d)).alloc (.cells #[A5,A5,A0 0,A0 0,A0 0] e)).heap[w.heap.size+1]?=some (.cells cs d (0,0))/\
 Du (((w.alloc (.cells #[a,b] c)).alloc (.cells cs d)).alloc (.cells #[A5,A5,A0 0,A0 0,A0 0] e)) (w.heap.size+1+1) (A5) (A5) (A0 0) (A0 0) (A0 0)/\
 Below w.heap.size w (((w.alloc (.cells #[a,b] c)).alloc (.cells cs d)).alloc (.cells #[A5,A5,A0 0,A0 0,A0 0] e))/\
 (((w.alloc (.cells #[a,b] c)).alloc (.cells cs d)).alloc (.cells #[A5,A5,A0 0,A0 0,A0 0] e)).heap.size=w.heap.size+3:=by
 refine⟨((Ad.new w a b c).A1 (AB _ _)).A1 (AB _ _),?_,?_,A9 (A9 (AB _ _) (AB _ _)) (AB _ _),by simp⟩
 ·exact(YU w (.cells #[a,b] c) (.cells cs d) _).1
 ·have:=Du.new ((w.alloc (.cells #[a,b] c)).alloc (.cells cs d)) (A5) (A5) (A0 0) (A0 0) (A0 0) e;rw[World.size_alloc,World.size_alloc]at this;exact this
theorem zBk(v0 v1:Value)(lo hi:Nat)(p:A7)(f g:Nat->Int)(b:Int)(w:World)(U:CD w lo hi v0 v1 p)(hn:Ap p+8<=1048576) :
 Calls Tryz.prog 140 #[.agg #[v0,v1],.agg (Aj (mix f g)),A0 b] w (PK (GP p f g b) w):=by
 have Hp:=AF U;obtain⟨a,c,a',c',rfl,rfl⟩:=U.form;have Hn:=AF hn;clear U hn;have M:=zHN w (.slice a p.n c) (.slice a' p.hn c') (Aj (mix f g)) 26 121 117;have s:Hid ((Tryz.prog.info? 121).map (·.size)=some (Aj (mix f g)).size):=by
  show _=_;rw[D4];exact GV
 have oA:∀w,(binOp .eql 121 (.agg (Aj (mix f g))) (.agg #[Value.int .i64 0,Value.int .i64 0,Value.int .i64 0,Value.int .i64 0,Value.int .i64 0,Value.int .i64 0,Value.int .i64 0,Value.int .i64 0,Value.int .i64 0,Value.int .i64 0,Value.int .i64 0,Value.int .i64 0,Value.int .i64 0,Value.int .i64 0,Value.int .i64 0,Value.int .i64 0])).run Tryz.prog w = .ok (.bool (F2 (mix f g) (fun _=>0))) w:=fun w=>PT (mix f g) (fun _=>0) w
 go_enter Tryz.func140,Tryz.ntmps140;go_upto_region 1 with fail;generalize ((w.alloc (.cells #[.slice a p.n c,.slice a' p.hn c'] 26)).alloc (.cells (Aj (mix f g)) 121)).alloc (.cells #[A5,A5,A0 0,A0 0,A0 0] 117)=W at M ⊢;obtain⟨V,hA,hR,l,hz⟩:=M;have Q:=AF hA;have HB:=AF V;have HR:=AF hR;clear hA hR;obtain⟨⟨x0,x1⟩,⟨x2,x3⟩⟩:=HB.out;by_cases z:Df f g
 ·have S:=AF z;have bA:=(Uu f g).2 z;clear z;go_wp2_with (first
   | (refine wpList_load_row rfl 121 (.tmp 4) rfl (w.heap.size+1) rfl 121 (Aj (mix f g)) (0,0) _ Q.out FP rfl s.out ?_)
   | fail)
  refine(Oh _ _ lo hi p W (Hp.out.A1 l) (by have:=Hn.out;omega)).mono ?_;rintro e w1 ⟨s0,s1,rfl,y,r⟩;obtain⟨C,c1,D,E,rfl,rfl⟩:=y.form;have T:=AF y;have A:=AF (HR.out.A1 r);have X:=A9 l r;have kB:=r.size;clear y r l x0 x1 x2 x3 V;obtain⟨⟨u0,u1⟩,⟨u2,u3⟩,⟨u4,u5⟩,⟨u6,u7⟩,⟨u8,u9⟩⟩:=A.out;go_wp2;have d:=A.out.put (.slice C p.n c1) (.slice D p.hn E) (A0 0) (A0 0) (A0 0);have m:=NK (R:=w.heap.size+1+1) (u2:=A0 0) (u3:=A0 0) (u4:=A0 0) T.out (by omega) (by omega) (Nat.le_refl _) X;rw[show GP p f g b=⟨p,0,0,0⟩from if_pos S.out];exact bodyPost_ret (v:=.agg #[.slice C p.n c1,.slice D p.hn E,A0 0,A0 0,A0 0]) (by simp[results,Tryz.results140,go_sem,d.1.1,d.2.1.1,d.2.2.1.1,d.2.2.2.1.1,d.2.2.2.2.1]) rfl ⟨_,_,rfl,m.1,m.2⟩
 ·have S:=AF z;have bA:F2 (mix f g) (fun _=>0)=false:=Bool.eq_false_iff.2 (fun h=>z ((Uu f g).1 h));clear z;have K:=zAL 39 38 (.agg #[A0 0,A0 0]) 2 16 (by kernel_rfl) zGq rfl 8 (by omega) (by omega);have pA:∀w,(Instr.makeSlice 39 (A0 8) (A0 8)).run Tryz.prog w = .ok (.slice (some ⟨w.heap.size,0,none⟩) 8 8) (w.alloc (.cells (Fu #[A0 0,A0 0] 8) 38)):=K;clear K;have J:=AB W (.cells (Fu #[A0 0,A0 0] 8) 38);have I:=AB W (.cells (Aj (mix f g)) 38);have q:=AF I;have F:(W.alloc (.cells (Fu #[A0 0,A0 0] 8) 38)).heap[w.heap.size+1]?=some (.cells (Aj (mix f g)) 121 (0,0)):=(J.block _ (by omega)).trans Q.out;have t:Hid (∀ty,(Builtin.copy_ #[39,39] ty #[.slice (some ⟨W.heap.size,0,none⟩) 8 8,.slice (some ⟨w.heap.size+1,0,none⟩) 8 8]).run Tryz.prog (W.alloc (.cells (Fu #[A0 0,A0 0] 8) 38)) = .ok (goInt 8) (W.alloc (.cells (Aj (mix f g)) 38))):=by
   intro ty;have N:(Fu #[A0 0,A0 0] 8).size=16:=(by kernel_rfl);have hr:=Z9 (P:=Tryz.prog) (W.alloc (.cells (Fu #[A0 0,A0 0] 8) 38)) 39 39 ty 38 2 W.heap.size 0 8 8 ⟨w.heap.size+1,0,none⟩ 8 8 (Fu #[A0 0,A0 0] 8) 38 (Aj (mix f g)).toList (by kernel_rfl) RO (heap_alloc_last _ _) (by simp[Aj]) (fun j v O=>by
    have u:j<16:=by
     have:=(List.getElem?_eq_some_iff.1 O).1;simpa[D4]using this
    have e:(Aj (mix f g)).toList[j]?=some (A0 (mix f g j)):=(by rw[Array.getElem?_toList];exact EM (mix f g) u);rw[e]at O;simp only[Option.some.injEq]at O;subst O;rw[add_lit,Nat.zero_add];exact(Az F (EM (mix f g) u)).1) (by rw[N];simp[Aj]) (fun v hv=>(Array.all_eq_true_iff_forall_mem.1 (I7 _)) v (by simpa using hv))
   have e0:((Fu #[A0 0,A0 0] 8).toList.drop 16) = []:=List.drop_eq_nil_of_le (by simp[N]);have e1:((Fu #[A0 0,A0 0] 8).toList.take 0 ++ (Aj (mix f g)).toList ++ (Fu #[A0 0,A0 0] 8).toList.drop (0+(Aj (mix f g)).toList.length)).toArray=Aj (mix f g):=by
    have hl:(Aj (mix f g)).toList.length=16:=(by simp[Aj]);rw[hl,Nat.zero_add,e0];simp
   rw[e1,World.setRow_alloc_new]at hr;exact hr
  have Hz:=AF hz;clear I F J hz;have Z:=t.out 3;obtain⟨⟨x4,x5⟩,⟨x6,x7⟩⟩:=HB.out.A1 q.out;go_wp2_with (first
   | (refine wpList_load_row rfl 121 (.tmp 4) rfl (w.heap.size+1) rfl 121 (Aj (mix f g)) (0,0) _ Q.out FP rfl s.out ?_)
   | fail)
  have HS:Hid (CU (W.alloc (.cells (Aj (mix f g)) 38)) 0 (W.alloc (.cells (Aj (mix f g)) 38)).heap.size (A0 (Bc f g b).birth) (.slice (some ⟨W.heap.size,0,none⟩) 8 8) (.string (Bc f g b).data) (Bc f g b)):=by
   refine⟨rfl,⟨by show 8<=maxLen;unfold maxLen;omega,_,8,rfl,Nat.le_refl _,fun _=>⟨W.heap.size,0,rfl,Nat.zero_le _,by simp,fun i hi=>?_⟩⟩,rfl,by show 0<=maxLen;omega⟩;have iB:i<8:=hi;have G:(W.alloc (.cells (Aj (mix f g)) 38)).heap[W.heap.size]?=some (.cells (Aj (mix f g)) 38):=heap_alloc_last _ _;have g1:=(Az G (EM (mix f g) (show i*2<16 by omega))).1;have g2:=(Az G (EM (mix f g) (show i*2+1<16 by omega))).1;rw[(KG f g i).1]at g1;rw[(KG f g i).2]at g2;rw[Nat.zero_add];exact⟨g1,g2⟩
  refine(ZQ _ _ _ lo hi 0 _ p (Bc f g b) _ (Hp.out.A1 (A9 l q.out)) HS.out (by show Ap p+(8+0)<=_;exact Hn.out)).mono ?_;rintro e w3 ⟨s0,s1,rfl,L,H⟩;have k:=A9 q.out H;have hz:=Hz.out;have B:=AF (HR.out.A1 k);have Y:=A9 l k;have lB:=k.size;have He:Hid (GP p f g b=Bv p (Bc f g b)):=if_neg S.out;have x:Hid (Bq w3 W.heap.size w3.heap.size s0 s1 (Bv p (Bc f g b)).pool):=L.wide q.out.size (Nat.le_refl _);generalize Bv p (Bc f g b)=o at x He ⊢;obtain⟨C,c1,D,E,rfl,rfl⟩:=x.out.form;clear L H k x0 x1 x2 x3 x4 x5 x6 x7 V HS t Z;obtain⟨⟨u0,u1⟩,⟨u2,u3⟩,⟨u4,u5⟩,⟨u6,u7⟩,⟨u8,u9⟩⟩:=B.out;go_wp2;have d:=B.out.put (.slice C o.pool.n c1) (.slice D o.pool.hn E) (A0 o.ps) (A0 o.pb) (A0 o.code);have m:=NK (R:=w.heap.size+1+1) (u2:=A0 o.ps) (u3:=A0 o.pb) (u4:=A0 o.code) x.out (by omega) (by omega) (Nat.le_refl _) Y;rw[He.out];exact bodyPost_ret (v:=.agg #[.slice C o.pool.n c1,.slice D o.pool.hn E,A0 o.ps,A0 o.pb,A0 o.code]) (by simp[results,Tryz.results140,go_sem,d.1.1,d.2.1.1,d.2.2.1.1,d.2.2.2.1.1,d.2.2.2.2.1]) rfl ⟨_,_,rfl,m.1,m.2⟩
def hop(J:Nat->Act->World->Prop)(Q:Exit->Act->World->Prop):Exit->Act->World->Prop
 | .goto l,a,w=>J l a w
 | e,a,w=>Q e a w
def JU(P:Program)(c:Code)(Q:Exit->Act->World->Prop):Nat->Nat->Act->World->Prop
 | 0,_,_,_=>False
 | n+1,l,a,w=>∃rest,findLabel c l=some rest/\rest.wp P (hop (JU P c Q n) Q) a w
variable{P:Program}{a:Act}{Q:Exit->Act->World->Prop}
theorem zCY{c:Code}(n:Nat)(first:c.wp P (hop (JU P c Q n) Q) a w):(Code.scope c).wp P Q a w:=by
 intro b k cs;have key:∀n l rest a w,findLabel c l=some rest->rest.wp P (hop (JU P c Q n) Q) a w->∃e y w',Q e y w'/\Arrives P (lone (b.at a (.code rest :: .inScope c :: k)) cs w) b k cs e y w':=by
  intro n
  induction n with
  | zero=>
   intro l rest a w z v;obtain⟨e,h,i,g,d⟩:=v b (.inScope c :: k) cs;cases e with
   | normal=>exact⟨.normal,h,i,g,Steps.trans d (.one step_inScope)⟩
   | exit id=>exact⟨.exit id,h,i,g,fun r q=>d r (by simp[exitTo,q])⟩
   | goto l'=>exact False.elim g
   | ret=>exact⟨_,h,i,g,d⟩
   | panic ch=>exact⟨_,h,i,g,d⟩
   | outgrown=>exact⟨_,h,i,g,d⟩
  | succ n ih=>
   intro l rest a w z v;obtain⟨e,h,i,g,d⟩:=v b (.inScope c :: k) cs;cases e with
   | normal=>exact⟨.normal,h,i,g,Steps.trans d (.one step_inScope)⟩
   | exit id=>exact⟨.exit id,h,i,g,fun r q=>d r (by simp[exitTo,q])⟩
   | goto l'=>
    obtain⟨f,m,p⟩:=g;obtain⟨t,s,x,o,j⟩:=ih l' f h i m p;have u:gotoIn l' (.inScope c :: k)=some (.code f :: .inScope c :: k):=(by simp[gotoIn,m]);exact⟨t,s,x,o,.of_steps (d _ u) j⟩
   | ret=>exact⟨_,h,i,g,d⟩
   | panic ch=>exact⟨_,h,i,g,d⟩
   | outgrown=>exact⟨_,h,i,g,d⟩
 obtain⟨e,h,i,g,d⟩:=first b (.inScope c :: k) cs
 cases e with
 | normal=>exact⟨.normal,h,i,g,.head step_scope (Steps.trans d (.one step_inScope))⟩
 | exit id=>exact⟨.exit id,h,i,g,fun r q=>.head step_scope (d r (by simp[exitTo,q]))⟩
 | goto l'=>
  match n,g with
  | n+1,g=>
   obtain⟨f,m,p⟩:=g;obtain⟨t,s,x,o,j⟩:=key n l' f h i m p;have u:gotoIn l' (.inScope c :: k)=some (.code f :: .inScope c :: k):=(by simp[gotoIn,m]);exact⟨t,s,x,o,.of_steps (.head step_scope (d _ u)) j⟩
 | ret=>exact⟨_,h,i,g,.of_steps (.one step_scope) d⟩
 | panic ch=>exact⟨_,h,i,g,.of_steps (.one step_scope) d⟩
 | outgrown=>exact⟨_,h,i,g,.of_steps (.one step_scope) d⟩
def Mb:Array Value:=#[A0 0,A0 0,A0 0,A0 0,A0 0,A0 0,A0 0,A0 0,A0 0,A0 0,A0 0,A0 0,A0 0,A0 0,A0 0,A0 0,A0 0,A0 0,A0 0,A0 0,A0 0,A0 0,A0 0,A0 0,A0 0,A0 0,A0 0,A0 0,A0 0,A0 0,A0 0,A0 0,A0 0,A0 0,A0 0,A0 0,A0 0,A0 0,A0 0,A0 0,A5]
def Fo(n:Nat):Array Value:=#[A0 ((n:Int) / 8),A0 ((n:Int) % 8),A0 0,A0 0,A0 0,A0 0,A0 0,A0 0,A0 0,A0 0,A0 0,A0 0,A0 0,A0 0,A0 0,A0 0,A0 0,A0 0,A0 0,A0 0,A0 0,A0 0,A0 0,A0 0,A0 0,A0 0,A0 0,A0 0,A0 0,A0 0,A0 0,A0 0,A0 0,A0 0,A0 0,A0 0,A0 0,A0 0,A0 0,A0 0,A5]
theorem Pa:(Tryz.prog.info? 125).map (·.size)=some 41:=by kernel_rfl
theorem zEP(n:Nat):(Tryz.prog.info? 125).map (·.size)=some (Fo n).size:=Pa
theorem zGM(n:Nat):(Fo n).all (·.oneCell')=true:=by simp[Fo,Value.oneCell']
def CC(w:World)(B:Nat)(f:Nat->Value):Prop:=∀i,i<41->AO w B i (f i)
variable{B:Nat}{f:Nat->Value}
theorem CC.A1{w':World}(h:CC w B f)(t:Below w.heap.size w w'):CC w' B f:=fun i hi=>(h i hi).A1 t
theorem CC.AD{S:Nat->Prop}{w':World}(h:CC w B f)(t:AC S w w')(hs:¬S B):CC w' B f:=fun i hi=>(h i hi).AD t hs
theorem CC.congr{g:Nat->Value}(h:CC w B f)(e:∀i,i<41->f i=g i):CC w B g:=fun i hi=>e i hi▸h i hi
theorem CC.put(h:CC w B f)(o:Nat)(v:Value):CC (w.setCell ⟨B,o,none⟩ v) B (fun i=>if i=o then v else f i):=fun i hi=>by
 show AO _ B i (if i=o then v else f i);by_cases e:i=o
 ·subst e;rw[if_pos rfl];exact(h i hi).set v
 ·rw[if_neg e];exact(h i hi).other v (Or.inr (fun h=>e h.symm))
theorem CC.there(h:CC w B f){o:Nat}(hn:o+n<=41):w.there B o n:=fun j a=>⟨by rw[(h (o+j) (by omega)).1];rfl,(h (o+j) (by omega)).2⟩
theorem CC.range(h:CC w B f):w.rangeAt B 0 ((List.range 41).map f):=fun j v hv=>by
 have a:j<41:=by have:=(List.getElem?_eq_some_iff.1 hv).1;simpa using this
 rw[Nat.zero_add,(h j a).1];simpa[a]using hv
theorem CC.puts(h:CC w B f)(o:Nat)(vs:List Value)(hv:o+vs.length<=41):CC (w.setCells B o vs) B (fun i=>if o<=i/\i<o+vs.length then vs.getD (i - o) undef else f i):=fun i hi=>by
 refine⟨?_,?_⟩
 ·show _=some (if o<=i/\i<o+vs.length then vs.getD (i - o) undef else f i);by_cases e:o<=i/\i<o+vs.length
  ·rw[if_pos e];have:=World.cell?_setCells_in B vs o w (fun j a=>by rw[(h (o+j) (by omega)).1];rfl) (i - o) (by omega);rw[show o+(i - o)=i by omega]at this;rw[this,List.getD_eq_getElem?_getD,List.getElem?_eq_getElem (by omega),Option.getD_some]
  ·rw[if_neg e,World.cell?_setCells_out B vs o w ⟨B,i,none⟩ (fun _ _=>by show i<o\/o+vs.length<=i;omega)];exact(h i hi).1
 ·rw[World.frozen?_setCells];exact(h i hi).2
def CW(f:Nat->Value):Array Value:=((List.range 41).map f).toArray
theorem Qn(f:Nat->Value):(CW f).size=41:=by simp[CW]
theorem Np(f:Nat->Value):(Tryz.prog.info? 125).map (·.size)=some (CW f).size:=by rw[Qn];exact Pa
theorem zIM:(Tryz.prog.underlying 125).map (fun d=>d.isRow)=some true:=by kernel_rfl
def P2(n:Nat)(i:Nat):Value:=if i=0 then A0 ((n:Int) / 8)else if i=1 then A0 ((n:Int) % 8)else if i=40 then A5 else A0 0
theorem zHa(W:World)(n:Nat):CC (W.alloc (.cells (Fo n) 125)) W.heap.size (P2 n):=fun i hi=>by
 refine Az (i:=i) (heap_alloc_new W (.cells (Fo n) 125)) ?_;have:Fo n=CW (P2 n):=by rfl
 rw[this];simp[CW,hi]
theorem UZ{J J':Nat->Act->World->Prop}(h:∀l a w,J l a w->J' l a w):∀{e:Exit} {a:Act} {w:World},hop J Q e a w->hop J' Q e a w
 | .goto l,a,w,he=>h l a w he
 | .normal,_,_,he=>he
 | .exit _,_,_,he=>he
 | .ret,_,_,he=>he
 | .panic _,_,_,he=>he
 | .outgrown,_,_,he=>he
theorem zBm{c:Code}(R:Nat->Nat->Act->World->Prop)(n:Nat)(zero:∀l a w,¬R 0 l a w)
 (step:∀n l a w,R (n+1) l a w->∃rest,findLabel c l=some (Code.skip.seq rest)/\rest.wp P (hop (R n) Q) a w)
 (first:(∀l a w rest,findLabel c l=some (Code.skip.seq rest)->R (n+1) l a w->rest.wp P (hop (R n) Q) a w)->c.wp P (hop (R n) Q) a w):(Code.scope c).wp P Q a w:=by
 have key:∀n l a w,R n l a w->JU P c Q n l a w:=by
  intro n
  induction n with
  | zero=>intro l a w h;exact absurd h (zero l a w)
  | succ n ih=>
   intro l a w h;obtain⟨rest,f,g⟩:=step n l a w h;exact⟨_,f,Code.wp_mono (fun e a w d=>UZ ih d) (wp_seq (wp_skip g))⟩
 refine zCY n (Code.wp_mono (fun e a w d=>UZ (key n) d) (first ?_));intro l a w rest f j;obtain⟨i,b,g⟩:=step n l a w j;rw[f]at b;simp only[Option.some.injEq,Code.seq.injEq,true_and]at b;rw[b];exact g
def BN(p:A7)(xs xb:Int)(n L:Nat):Int:=if L=0 then xs else if L=1 then BV p xs xb n else BZ p xs xb n
def Bd(p:A7)(xs xb:Int)(n L:Nat):Int:=if L=0 then xb else if L=1 then Bj p xs xb n else Bg p xs xb n
def plc(n L:Nat):Nat:=if L=0 then n / 8 else n % 8
def Cx(p:A7)(xs xb:Int)(n L j:Nat):Int:=if Nil (BN p xs xb n L) (Bd p xs xb n L)then 0 else BC (p.s (BN p xs xb n L).toNat) j
variable{L:Nat}
theorem Ka(p:A7)(xs xb:Int)(n:Nat)(h:L<2):BN p xs xb n (L+1)=Cx p xs xb n L (plc n L*2)/\Bd p xs xb n (L+1)=Cx p xs xb n L (plc n L*2+1):=by
 rcases L with _ | _ | L
 ·exact⟨rfl,rfl⟩
 ·exact⟨rfl,rfl⟩
 ·omega
theorem My(h:n<64):plc n L<8:=by unfold plc;split<;>omega
variable{xs xb:Int}
theorem KQ(h:Nil (BN p xs xb n L) (Bd p xs xb n L))(a:L<2):Nil (BN p xs xb n (L+1)) (Bd p xs xb n (L+1)):=by
 rw[(Ka p xs xb n a).1,(Ka p xs xb n a).2];unfold Cx;rw[if_pos h,if_pos h];exact⟨rfl,rfl⟩
theorem zIF(h:As p xs xb)(hn:n<64)(a:L<2):Ie p (BN p xs xb n L) (Bd p xs xb n L):=by
 rcases L with _ | _ | L
 ·exact NQ h
 ·exact LX h (by omega)
 ·omega
def BY(p:A7)(xs xb:Int)(n K M:Nat)(o:Value)(i:Nat):Value:=
 if i<2 then A0 (plc n i:Nat)
 else if i<34 then A0 (if (i - 2) / 16<K then Cx p xs xb n ((i - 2) / 16) ((i - 2) % 16)else 0)
 else if i<40 then A0 (if (i - 34) / 2<M then(if (i - 34) % 2=0 then BN p xs xb n ((i - 34) / 2)else Bd p xs xb n ((i - 34) / 2))else 0)
 else o
theorem zGP(p:A7)(xs xb:Int)(n:Nat)(hi:i<41):P2 n i=BY p xs xb n 0 0 (A5) i:=by
 unfold P2 BY;by_cases a:i=0
 ·subst a;rfl
 by_cases b:i=1
 ·subst b;rfl
 rw[if_neg a,if_neg b,if_neg (show ¬i<2 by omega)];by_cases c:i=40
 ·subst c;rfl
 rw[if_neg c];by_cases d:i<34
 ·rw[if_pos d,if_neg (Nat.not_lt_zero _)]
 ·rw[if_neg d,if_pos (by omega),if_neg (Nat.not_lt_zero _)]
variable{o:Value}
theorem zHZ{K:Nat}(g:L<3)(h:CC w B (BY p xs xb n K L o)) :
 CC ((w.setCell ⟨B,34+L*2,none⟩ (A0 (BN p xs xb n L))).setCell ⟨B,34+L*2+1,none⟩ (A0 (Bd p xs xb n L))) B (BY p xs xb n K (L+1) o):=by
 refine((h.put _ _).put _ _).congr fun i hi=>?_
 show(if i=34+L*2+1 then _ else if i=34+L*2 then _ else _)=_;by_cases d:i=34+L*2+1
 ·subst d;rw[if_pos rfl];unfold BY;rw[if_neg (by omega),if_neg (by omega),if_pos (by omega),show(34+L*2+1 - 34) / 2=L by omega,show(34+L*2+1 - 34) % 2=1 by omega,if_pos (by omega),if_neg (by omega)]
 rw[if_neg d];by_cases e:i=34+L*2
 ·subst e;rw[if_pos rfl];unfold BY;rw[if_neg (by omega),if_neg (by omega),if_pos (by omega),show(34+L*2 - 34) / 2=L by omega,show(34+L*2 - 34) % 2=0 by omega,if_pos (by omega),if_pos rfl]
 rw[if_neg e];unfold BY;by_cases a:i<2
 ·rw[if_pos a,if_pos a]
 by_cases b:i<34
 ·rw[if_neg a,if_neg a,if_pos b,if_pos b]
 rw[if_neg a,if_neg a,if_neg b,if_neg b];by_cases c:i<40
 ·rw[if_pos c,if_pos c];by_cases f:(i - 34) / 2<L
  ·rw[if_pos f,if_pos (show(i - 34) / 2<L+1 by omega)]
  ·rw[if_neg f,if_neg (by omega)]
 ·rw[if_neg c,if_neg c]
theorem zGO{M:Nat}(k:L<2)(h:CC w B (BY p xs xb n L M o))(g:¬Nil (BN p xs xb n L) (Bd p xs xb n L)) :
 CC (w.setCells B (2+L*16) (B9 (p.s (BN p xs xb n L).toNat)).toList) B (BY p xs xb n (L+1) M o):=by
 have a:(B9 (p.s (BN p xs xb n L).toNat)).toList.length=16:=by simp[B9,D4]
 refine(h.puts (2+L*16) _ (by omega)).congr fun i hi=>?_
 show(if 2+L*16<=i/\i<2+L*16+_ then _ else _)=_;rw[a];by_cases d:2+L*16<=i/\i<2+L*16+16
 ·rw[if_pos d];have j:i - (2+L*16)<16:=(by omega);have e:(B9 (p.s (BN p xs xb n L).toNat)).toList.getD (i - (2+L*16)) undef=A0 (BC (p.s (BN p xs xb n L).toNat) (i - (2+L*16))):=by
   rw[List.getD_eq_getElem?_getD,Array.getElem?_toList];have:=EM (BC (p.s (BN p xs xb n L).toNat)) j;rw[show B9 (p.s (BN p xs xb n L).toNat)=Aj (BC (p.s (BN p xs xb n L).toNat))from rfl,this];rfl
  rw[e];unfold BY Cx;rw[if_neg (by omega),if_pos (by omega),show(i - 2) / 16=L by omega,if_pos (by omega),if_neg g,show(i - 2) % 16=i - (2+L*16)by omega]
 ·rw[if_neg d];unfold BY;by_cases b:i<2
  ·rw[if_pos b,if_pos b]
  rw[if_neg b,if_neg b];by_cases c:i<34
  ·rw[if_pos c,if_pos c];by_cases f:(i - 2) / 16<L
   ·rw[if_pos f,if_pos (by omega)]
   ·rw[if_neg f,if_neg (by omega)]
  ·rw[if_neg c,if_neg c]
theorem SZ(r:L<3)(h:CC w B (BY p xs xb n L (L+1) o))(k:L<2->Nil (BN p xs xb n L) (Bd p xs xb n L)):CC w B (BY p xs xb n 2 3 o):=by
 refine h.congr fun i hi=>?_
 have f:∀K,L<=K->K<3->L<2->Nil (BN p xs xb n K) (Bd p xs xb n K):=fun K m q a=>by
  have n0:=k a;by_cases e:K=L
  ·subst e;exact n0
  have g:=KQ n0 a;by_cases j:K=L+1
  ·subst j;exact g
  have l:=KQ g (by omega);rw[show K=L+1+1 by omega];exact l
 unfold BY;by_cases a:i<2
 ·rw[if_pos a,if_pos a]
 rw[if_neg a,if_neg a];by_cases c:i<34
 ·rw[if_pos c,if_pos c];by_cases b:(i - 2) / 16<L
  ·rw[if_pos b,if_pos (by omega)]
  ·rw[if_neg b,if_pos (by omega)];unfold Cx;rw[if_pos (f _ (by omega) (by omega) (by omega))]
 ·rw[if_neg c,if_neg c];by_cases d:i<40
  ·rw[if_pos d,if_pos d];by_cases b:(i - 34) / 2<L+1
   ·rw[if_pos b,if_pos (show(i - 34) / 2<3 by omega)]
   ·rw[if_neg b,if_pos (show(i - 34) / 2<3 by omega)];have:=f ((i - 34) / 2) (by omega) (by omega) (by omega);split
    ·rw[this.1]
    ·rw[this.2]
  ·rw[if_neg d,if_neg d]
theorem zHb{K M:Nat}(o':Value)(h:CC w B (BY p xs xb n K M o)):CC (w.setCell ⟨B,40,none⟩ o') B (BY p xs xb n K M o'):=by
 refine(h.put _ _).congr fun i hi=>?_
 show(if i=40 then _ else _)=_;by_cases e:i=40
 ·subst e;rfl
 ·rw[if_neg e];unfold BY;by_cases a:i<2
  ·rw[if_pos a,if_pos a]
  rw[if_neg a,if_neg a];by_cases b:i<34
  ·rw[if_pos b,if_pos b]
  ·rw[if_neg b,if_neg b,if_pos (show i<40 by omega),if_pos (show i<40 by omega)]
def BS(p:A7)(xs xb:Int)(n k:Nat):List (Int×Int):=kidsUp (fun i=>BN p xs xb n (2 - i)) (fun i=>Bd p xs xb n (2 - i)) k
theorem zDP{t:Array Oper}{o:Oper}{K:Act->World->Prop}{E:Prop}(A:o.guard=none)(s x:Operand)
 (I:o.op = .call {callee:=.builtin .append,args:=#[s,x],argTypes:=#[39,39]}) (base k:Nat) (v:Value) (l:List (Int×Int)) (hs:a.eval s=v) (d:Ax w base v l)
 (z:Option Addr) (m c:Nat) (g:List (Int×Int)) (L:a.eval x = .slice z m c) (q:m=g.length) (N:Ax w k (.slice z m c) g) (H:l.length+g.length<=1000) (n:base<=w.heap.size)
 (h:∀y w',Ax w' base y (l ++ g)->w.grownBy w' v.ownBlock->K (a.put o.dst y) w'):if Region.wanted o (yielded t a.tmps)=true then Oper.wp Tryz.prog o a w K Q else E:=by
 have R:Region.wanted o (yielded t a.tmps)=true:=by simp[Region.wanted,A]
 rw[if_pos R];obtain⟨i0,f,D,F,G⟩:∃i,Tryz.prog.info? 38=some i/\i.zero=some (.agg #[A0 0,A0 0])/\i.size=2/\i.bytes=16:=by
  obtain⟨i0,f,r⟩:=Option.map_eq_some_iff.1 No;simp only[Prod.mk.injEq]at r;exact⟨i0,f,r⟩
 have J:Tryz.prog.underlying 39=some (.slice 38):=by kernel_rfl
 by_cases M:0<g.length
 ·obtain⟨b,cap,e,_,_,_,p⟩:=FI N M;simp only[Value.slice.injEq]at e;obtain⟨rfl,_,_⟩:=e;obtain⟨y,w',C,r1,S,_⟩:=run_append_own (P:=Tryz.prog) w base 39 o.type 38 i0 (.agg #[A0 0,A0 0]) 2 16 J f D F G rfl (by decide) v l.length (pcl l) d ⟨b,0,none⟩ m c (pcl g) (by rw[Ip,q]) (fun j u O=>by rw[add_lit,Nat.zero_add];exact(p j u O).1) (NO g) (by rw[q];unfold maxLen;omega) (by rw[q];omega) n;unfold Oper.wp;simp[execOp,I,resolve,invoke,builtin,hs,L,C,Result.andThen];refine h y w' ?_ S;unfold Ax;rw[MH,List.length_append,<-q];exact r1
 ·have e0:g = []:=List.eq_nil_of_length_eq_zero (by omega);subst e0;have B:m=0:=q;subst B;have C:=Rf (P:=Tryz.prog) (w:=w) base 39 o.type 38 i0 2 c z J f v l.length (pcl l) d;unfold Oper.wp;simp[execOp,I,resolve,invoke,builtin,hs,L,C,Result.andThen];exact h v w (by rw[List.append_nil];exact d) ⟨rfl,rfl,rfl,Nat.le_refl _,fun _ _ _=>rfl⟩
theorem Kf{z X:Nat}(a:Act)(h:a = {tmps:=#[v,.agg #[A0 xs,A0 xb],A0 (n:Int),a.tmps.getD 3 undef,.pointer (some ⟨z,0,none⟩),a.tmps.getD 5 undef,.pointer (some ⟨z+1,0,none⟩),.pointer (some ⟨B,0,none⟩),.pointer (some ⟨X,0,none⟩),A0 (L:Int),a.tmps.getD 10 undef,a.tmps.getD 11 undef,a.tmps.getD 12 undef,a.tmps.getD 13 undef,a.tmps.getD 14 undef,a.tmps.getD 15 undef,a.tmps.getD 16 undef,a.tmps.getD 17 undef,a.tmps.getD 18 undef,a.tmps.getD 19 undef,a.tmps.getD 20 undef,a.tmps.getD 21 undef,a.tmps.getD 22 undef,a.tmps.getD 23 undef,a.tmps.getD 24 undef,a.tmps.getD 25 undef,a.tmps.getD 26 undef,a.tmps.getD 27 undef,a.tmps.getD 28 undef,a.tmps.getD 29 undef,a.tmps.getD 30 undef,a.tmps.getD 31 undef,a.tmps.getD 32 undef,a.tmps.getD 33 undef,a.tmps.getD 34 undef,a.tmps.getD 35 undef,a.tmps.getD 36 undef,a.tmps.getD 37 undef,a.tmps.getD 38 undef,a.tmps.getD 39 undef,a.tmps.getD 40 undef,a.tmps.getD 41 undef,a.tmps.getD 42 undef,a.tmps.getD 43 undef,a.tmps.getD 44 undef,a.tmps.getD 45 undef,a.tmps.getD 46 undef,a.tmps.getD 47 undef,a.tmps.getD 48 undef,a.tmps.getD 49 undef,a.tmps.getD 50 undef,a.tmps.getD 51 undef,a.tmps.getD 52 undef,a.tmps.getD 53 undef,a.tmps.getD 54 undef,a.tmps.getD 55 undef,a.tmps.getD 56 undef,a.tmps.getD 57 undef,a.tmps.getD 58 undef,a.tmps.getD 59 undef,a.tmps.getD 60 undef,a.tmps.getD 61 undef,a.tmps.getD 62 undef,a.tmps.getD 63 undef,a.tmps.getD 64 undef,a.tmps.getD 65 undef,a.tmps.getD 66 undef,a.tmps.getD 67 undef],defers:=[]}):∃j:Nat->Value,a = {tmps:=#[v,.agg #[A0 xs,A0 xb],A0 (n:Int),j 3,.pointer (some ⟨z,0,none⟩),j 5,.pointer (some ⟨z+1,0,none⟩),.pointer (some ⟨B,0,none⟩),.pointer (some ⟨X,0,none⟩),A0 (L:Int),j 10,j 11,j 12,j 13,j 14,j 15,j 16,j 17,j 18,j 19,j 20,j 21,j 22,j 23,j 24,j 25,j 26,j 27,j 28,j 29,j 30,j 31,j 32,j 33,j 34,j 35,j 36,j 37,j 38,j 39,j 40,j 41,j 42,j 43,j 44,j 45,j 46,j 47,j 48,j 49,j 50,j 51,j 52,j 53,j 54,j 55,j 56,j 57,j 58,j 59,j 60,j 61,j 62,j 63,j 64,j 65,j 66,j 67],defers:=[]}:=⟨fun i=>a.tmps.getD i undef,h⟩
def zIe(p:A7)(v:Value)(xs xb:Int)(n:Nat)(w0:World)(z:Nat)(k l:Nat)(a:Act)(w:World):Prop:=
 ∃B X L:Nat,(∃j:Nat->Value,a = {tmps:=#[v,.agg #[A0 xs,A0 xb],A0 (n:Int),j 3,.pointer (some ⟨z,0,none⟩),j 5,.pointer (some ⟨z+1,0,none⟩),.pointer (some ⟨B,0,none⟩),.pointer (some ⟨X,0,none⟩),A0 (L:Int),j 10,j 11,j 12,j 13,j 14,j 15,j 16,j 17,j 18,j 19,j 20,j 21,j 22,j 23,j 24,j 25,j 26,j 27,j 28,j 29,j 30,j 31,j 32,j 33,j 34,j 35,j 36,j 37,j 38,j 39,j 40,j 41,j 42,j 43,j 44,j 45,j 46,j 47,j 48,j 49,j 50,j 51,j 52,j 53,j 54,j 55,j 56,j 57,j 58,j 59,j 60,j 61,j 62,j 63,j 64,j 65,j 66,j 67],defers:=[]})/\L<3/\z+1<B/\B<X/\X<w.heap.size/\Below z w0 w/\w.heap[z+1]?=some (.cells Mb 125 (0,0))/\
  ((l=0/\7<=k+L/\CC w B (BY p xs xb n L L (A5))/\Ad w X (A0 (BN p xs xb n L)) (A0 (Bd p xs xb n L)))\/
   (l=1/\L<k/\∃o,CC w B (BY p xs xb n 2 3 o)/\Ax w (X+1) o (BS p xs xb n (2 - L))))
theorem ZK(B:Nat):∀(vs:List Value) (o:Nat) (w:World),AC (fun k=>k=B) w (w.setCells B o vs)
 | [],_,w=>AC.refl _ w
 | v :: vs,o,w=>((AC.refl (fun k=>k=B) w).setCell (p:=⟨B,o,none⟩) rfl v).trans (ZK B vs (o+1) _)
theorem Xp(p:A7)(xs xb:Int)(n K M:Nat)(o:Value)(a:L<2):BY p xs xb n K M o L=A0 (plc n L:Nat):=by
 unfold BY;rw[if_pos a]
theorem UH(p:A7)(xs xb:Int)(n M:Nat)(o:Value)(a:L<2)(b:j<16):BY p xs xb n (L+1) M o (2+L*16+j)=A0 (Cx p xs xb n L j):=by
 unfold BY;rw[if_neg (by omega),if_pos (by omega),show(2+L*16+j - 2) / 16=L by omega,show(2+L*16+j - 2) % 16=j by omega,if_pos (by omega)]
theorem UI(p:A7)(xs xb:Int)(n K:Nat)(o:Value)(a:L<3):BY p xs xb n K 3 o (34+L*2)=A0 (BN p xs xb n L)/\BY p xs xb n K 3 o (34+L*2+1)=A0 (Bd p xs xb n L):=by
 refine⟨?_,?_⟩
 · unfold BY
   rw[if_neg (by omega),if_neg (by omega),if_pos (by omega),show(34+L*2 - 34) / 2=L by omega,show(34+L*2 - 34) % 2=0 by omega,if_pos (by omega),if_pos rfl]
 · unfold BY
   rw[if_neg (by omega),if_neg (by omega),if_pos (by omega),show(34+L*2+1 - 34) / 2=L by omega,show(34+L*2+1 - 34) % 2=1 by omega,if_pos (by omega),if_neg (by omega)]
theorem zGN(p:A7)(xs xb:Int)(n K M:Nat)(o:Value):BY p xs xb n K M o 40=o:=rfl
theorem zFk(c:L<2->Nil (BN p xs xb n L) (Bd p xs xb n L))(e:L<3):BS p xs xb n (2 - L) = []:=by
 unfold BS;rcases L with _ | _ | L
 · have b:=c (by omega)
   have a:=KQ b (by omega);have d:=KQ a (by omega);show([] ++ one (BN p xs xb n 2) (Bd p xs xb n 2)) ++ one (BN p xs xb n 1) (Bd p xs xb n 1) = [];unfold one;rw[if_pos d,if_pos a];rfl
 · have b:=c (by omega)
   have a:=KQ b (by omega);show [] ++ one (BN p xs xb n 2) (Bd p xs xb n 2) = [];unfold one;rw[if_pos a];rfl
 · obtain rfl:L=0:=by omega
   rfl
theorem Uy(p:A7)(xs xb:Int)(n:Nat)(a:L<3):BS p xs xb n (2 - L+1)=BS p xs xb n (2 - L) ++ one (BN p xs xb n L) (Bd p xs xb n L):=by
 show BS p xs xb n (2 - L) ++ one (BN p xs xb n (2 - (2 - L))) (Bd p xs xb n (2 - (2 - L)))=_;rw[show 2 - (2 - L)=L by omega]
theorem zA0(p:A7)(xs xb:Int)(n k:Nat):(BS p xs xb n k).length<=k:=IB _ _ k
theorem UJ(p:A7)(xs xb:Int)(n K M:Nat)(a:o.oneCell'=true):(CW (BY p xs xb n K M o)).all (·.oneCell')=true:=by
 unfold CW;rw[Array.all_eq_true_iff_forall_mem];intro v hv;simp at hv;obtain⟨i,_,rfl⟩:=hv;unfold BY;split
 · rfl
 split
 · rfl
 split
 · rfl
 · exact a
variable{l:List (Int×Int)}
theorem Ax.one(h:Ax w base v l):v.oneCell'=true:=by
 obtain⟨a,c,rfl,_⟩:=Bw h;rfl
theorem Ax.setRow{g:Nat}(h:Ax w base v l)(d:g<base)(cs:Array Value):Ax (w.setRow g cs) base v l:=by
 have t:=AC.setRow w g cs;exact h.AD (row:=some g) ⟨t.os,t.tape,t.output,t.size,fun k b a=>t.block k b (fun e=>a (by rw[e]))⟩ (fun q c=>by
  have:=(h.lt c).1;simp only[ne_eq,Option.some.injEq];omega)
theorem Ua(f:Nat->Value):(Tryz.prog.info? 125).map (·.size)=some ((List.range 41).map f).length:=by
 rw[Pa];simp
theorem Vu(v:Value)(lo hi:Nat)(p:A7)(xs xb:Int)(n:Nat)(w:World)(h1:CL w lo hi v p.n p.s)(hT:As p xs xb)(hn:n<64) :
 Calls Tryz.prog 80 #[v,.agg #[A0 xs,A0 xb],A0 (n:Int)] w fun e w'=>∃o,e = .returned (.agg (CW (BY p xs xb n 2 3 o)))/\Ax w' w.heap.size o (BS p xs xb n 3)/\Below w.heap.size w w':=by
 have Hp:=AF h1;have HT:=AF hT;obtain⟨_,a,c,rfl,_⟩:=id h1;clear h1 hT;have pE:(n:Int)<64:=by omega
 have nE:0<=(n:Int) % 8:=by omega
 have oE:(n:Int) % 8<8:=by omega
 have eC:=AB w (.cells #[A0 xs,A0 xb] 38);have fB:=AB (w.alloc (.cells #[A0 xs,A0 xb] 38)) (.cells #[A0 0,A0 0,A0 0,A0 0,A0 0,A0 0,A0 0,A0 0,A0 0,A0 0,A0 0,A0 0,A0 0,A0 0,A0 0,A0 0,A0 0,A0 0,A0 0,A0 0,A0 0,A0 0,A0 0,A0 0,A0 0,A0 0,A0 0,A0 0,A0 0,A0 0,A0 0,A0 0,A0 0,A0 0,A0 0,A0 0,A0 0,A0 0,A0 0,A0 0,A5] 125);have U:=AF ((Ad.new w (A0 xs) (A0 xb) 38).A1 fB);have T:Hid (((w.alloc (.cells #[A0 xs,A0 xb] 38)).alloc (.cells #[A0 0,A0 0,A0 0,A0 0,A0 0,A0 0,A0 0,A0 0,A0 0,A0 0,A0 0,A0 0,A0 0,A0 0,A0 0,A0 0,A0 0,A0 0,A0 0,A0 0,A0 0,A0 0,A0 0,A0 0,A0 0,A0 0,A0 0,A0 0,A0 0,A0 0,A0 0,A0 0,A0 0,A0 0,A0 0,A0 0,A0 0,A0 0,A0 0,A0 0,A5] 125)).heap[w.heap.size+1]?=some (.cells Mb 125 (0,0))):=by
  have:=heap_alloc_new (w.alloc (.cells #[A0 xs,A0 xb] 38)) (.cells #[A0 0,A0 0,A0 0,A0 0,A0 0,A0 0,A0 0,A0 0,A0 0,A0 0,A0 0,A0 0,A0 0,A0 0,A0 0,A0 0,A0 0,A0 0,A0 0,A0 0,A0 0,A0 0,A0 0,A0 0,A0 0,A0 0,A0 0,A0 0,A0 0,A0 0,A0 0,A0 0,A0 0,A0 0,A0 0,A0 0,A0 0,A0 0,A0 0,A0 0,A5] 125);rw[World.size_alloc]at this;exact this
 have bA:=A9 eC fB;have G:((w.alloc (.cells #[A0 xs,A0 xb] 38)).alloc (.cells #[A0 0,A0 0,A0 0,A0 0,A0 0,A0 0,A0 0,A0 0,A0 0,A0 0,A0 0,A0 0,A0 0,A0 0,A0 0,A0 0,A0 0,A0 0,A0 0,A0 0,A0 0,A0 0,A0 0,A0 0,A0 0,A0 0,A0 0,A0 0,A0 0,A0 0,A0 0,A0 0,A0 0,A0 0,A0 0,A0 0,A0 0,A0 0,A0 0,A0 0,A5] 125)).heap.size=w.heap.size+2:=by rw[World.size_alloc,World.size_alloc]
 clear eC fB;go_enter Tryz.func80,Tryz.ntmps80;go_wp2;refine zBm (zIe p (.slice a p.n c) xs xb n w w.heap.size) 6 ?_ ?_ ?_
 ·rintro l a w ⟨B,X,L,_,N,_,_,_,_,_,h | h⟩
  ·have:=h.2.1;omega
  ·have:=h.2.1;omega
 ·clear U T bA G;rintro k l a' d ⟨B,X,L,⟨j,rfl⟩,N,hB,hX,D,hb,hO,⟨rfl,t,hW,hx⟩ | ⟨rfl,t,o,hW,hr⟩⟩
  ·refine⟨_,rfl,?_⟩;have A:=AF hW;have HX:=AF hx;have HO:=AF hO;have Hb:=AF hb;have Hk:=AF t;have jD:(L:Int)<3:=(by omega);have iD:B≠X:=(by omega);obtain⟨⟨x0,x1⟩,⟨x2,x3⟩⟩:=hx;obtain⟨y0,y1⟩:=A.out (34+L*2) (by omega);obtain⟨y2,y3⟩:=A.out (34+L*2+1) (by omega);clear hW hO hb t;go_upto_region 4 with fail;have cA:AC (fun k=>k=B) d ((d.setCell ⟨B,34+L*2,none⟩ (A0 (BN p xs xb n L))).setCell ⟨B,34+L*2+1,none⟩ (A0 (Bd p xs xb n L))):=((AC.refl (fun k=>k=B) d).setCell (p:=⟨B,34+L*2,none⟩) rfl _).setCell (p:=⟨B,34+L*2+1,none⟩) rfl _;have I:=AF (zHZ N A.out);have V:=AF (HX.out.AD cA (by omega));have H:=AF ((cA.block _ (by omega) (by omega)).trans HO.out);have y:=AF ((Hb.out.setCell (p:=⟨B,34+L*2,none⟩) (by show _<=B;omega) (A0 (BN p xs xb n L))).setCell (p:=⟨B,34+L*2+1,none⟩) (by show _<=B;omega) (A0 (Bd p xs xb n L)));have r:=Nat.lt_of_lt_of_le D cA.size;clear cA x0 x1 x2 x3 y0 y1 y2 y3;generalize (d.setCell ⟨B,34+L*2,none⟩ (A0 (BN p xs xb n L))).setCell ⟨B,34+L*2+1,none⟩ (A0 (Bd p xs xb n L))=w2 at I V H y r ⊢;clear A HX HO Hb D;obtain⟨⟨x0,x1⟩,⟨x2,x3⟩⟩:=V.out;by_cases g:Nil (BN p xs xb n L) (Bd p xs xb n L)
   ·have HN:=AF g;rw[g.1]at x0;rw[g.2]at x2;clear g;go_wp2;go_step3;have t:=Hk.out;exact⟨B,X,L,Kf _ rfl,N,hB,hX,r,y.out,H.out,Or.inr ⟨rfl,by omega,A5,SZ N I.out (fun _=>HN.out),by rw[zFk (fun _=>HN.out) N];exact Ax.nil _ _⟩⟩
   ·have HN:=AF g;by_cases kD:L=2
    ·subst kD;rcases L1 g with e0 | ⟨e0,e1⟩
     all_goals
      clear g;go_wp2;go_step3;have t:=Hk.out;exact⟨B,X,2,Kf _ rfl,N,hB,hX,r,y.out,H.out,Or.inr ⟨rfl,by omega,A5,SZ N I.out (fun h=>absurd h (by omega)),Ax.nil _ _⟩⟩
    ·have z:L<2:=(by omega);have mE:((L:Int) == 2)=false:=(by simp;omega);have hK:=(zIF HT.out hn z).resolve_left g;obtain⟨m,hm⟩:=Int.eq_ofNat_of_zero_le hK.1.2.1;have lD:m<p.n:=(by have:=hK.1.2.2.1;omega);have bE:(m:Int)<(p.n:Int):=(by omega);have aD:Hid ((p.s m).kn=8):=by
      have:=hK.2;rw[hm]at this;exact this
     obtain⟨b,off,ka,kc,rfl,iC⟩:=(Hp.out.A1 y.out).cells lD;have HC:=AF iC;obtain⟨q0,q1,q2,_⟩:=iC;have Hm:=AF hm;have fC:=L1 g;rw[hm]at x0 fC;clear hm hK g;have vB:Hid ((Tryz.prog.info? 121).map (·.size)=some (B9 (p.s m)).size):=by
      show _=_;rw[B9,D4];exact GV
     rcases fC with e0 | ⟨e0,e1⟩
     all_goals
      go_wp2_with fail;refine(OD _ _ _ lo hi (p.s m) _ HC.out.slot (Or.inr aD.out)).mono ?_;rintro e w3 ⟨rfl,E⟩;have rA:=AF (I.out.A1 E);have tB:=AF (V.out.A1 E);have oB:=AF ((E.block _ (by omega)).trans H.out);have tA:=AF (y.out.trans (E.mono y.out.size));have jA:=Nat.lt_of_lt_of_le r E.size;have sB:Hid (w3.there B (2+L*16) (B9 (p.s m)).size):=by
       have:=rA.out.there (o:=2+L*16) (n:=16) (by omega);rw[<-D4 (BC (p.s m))]at this;exact this
      clear E x0 x1 x2 x3 q0 q1 q2 HC I V H y r;go_upto_region 6 with(refine wpList_store_mid rfl 121 (.tmp 36) (.tmp 34) rfl B (2+L*16) (B9 (p.s m)) rfl rfl sB.out vB.out (I7 _) ?_);have Q:=ZK B (B9 (p.s m)).toList (2+L*16) w3;have J:Hid (CC (w3.setCells B (2+L*16) (B9 (p.s m)).toList) B (BY p xs xb n (L+1) (L+1) (A5))):=by
       have:=zGO z rA.out HN.out;rw[Hm.out]at this;exact this
      have sA:=AF (tB.out.AD Q (by omega));have pB:=AF ((Q.block _ (by omega) (by omega)).trans oB.out);have vA:=AF (tA.out.trans (Q.A1 (B:=w.heap.size) (tA.out.size) (by intro k t;omega)));have kA:=Nat.lt_of_lt_of_le jA Q.size;clear Q rA tB oB tA jA sB;generalize w3.setCells B (2+L*16) (B9 (p.s m)).toList=w4 at J sA pB vA kA ⊢;have rE:=My (n:=n) (L:=L) hn;have cE:((plc n L:Nat):Int)<8:=(by omega);obtain⟨⟨x0,x1⟩,⟨x2,x3⟩⟩:=sA.out;obtain⟨z0,_⟩:=J.out L (by omega);rw[Xp p xs xb n _ _ _ z]at z0;obtain⟨y0,_⟩:=J.out (2+L*16+plc n L*2) (by omega);rw[UH p xs xb n _ _ z (by omega),<-(Ka p xs xb n z).1]at y0;obtain⟨y1,_⟩:=J.out (2+L*16+plc n L*2+1) (by omega);rw[Nat.add_assoc,UH p xs xb n _ _ z (by omega),<-(Ka p xs xb n z).2,<-Nat.add_assoc]at y1;have aB:Hid (∀(u v:Value) (w5:World),w5=((w4.drew.setCell ⟨X,0,none⟩ u).setCell ⟨X,1,none⟩ v)->(w5.cell? ⟨B,L,none⟩=some (A0 ((plc n L:Nat):Int))/\w5.cell? ⟨B,2+L*16+plc n L*2,none⟩=some (A0 (BN p xs xb n (L+1)))/\w5.cell? ⟨B,2+L*16+plc n L*2+1,none⟩=some (A0 (Bd p xs xb n (L+1))))):=by
       intro u v w5 e5;have h:=fun o=>(Ir w4.drew X u v).cell (b:=B) (o:=o) (by show B<w4.heap.size;omega) (by omega)
       rw[e5,h,h,h];exact⟨z0,y0,y1⟩
      have vD:(L:Int)<2:=(by omega);simp only[Act.put];refine wp_region_held_drew (S:=(fun w'=>w'.cell? ⟨B,L,none⟩=some (A0 ((plc n L:Nat):Int))/\w'.cell? ⟨B,2+L*16+plc n L*2,none⟩=some (A0 (BN p xs xb n (L+1)))/\w'.cell? ⟨B,2+L*16+plc n L*2+1,none⟩=some (A0 (Bd p xs xb n (L+1))))) (by kernel_rfl) ?_ (fun hHeld=>?_)
      ·(try dsimp only)
       go_keep
      refine tk 0 (h:=tk 1 (h:=tk 2 (h:=tk 3 (h:=tk 4 (h:=tk 5 (h:=tk 6 (h:=tk 7 (h:=tk 8 (h:=?_)))))))));refine rd [9] (rc (fun K hK=>?_) .nil);go_simp
      (try go_wp2_with fail)
      refine hK.out _ _ (by(try dsimp only);exact aB.out _ _ _ rfl) ?_;clear hK K hHeld;intro hHeld
      try simp only[Act.put,s1,s2,s3]
      refine wpAnyH_done (by kernel_rfl) ?_ _;go_wp2;go_step3;have t:=Hk.out;have dA:AC (fun k=>k=X) w4 ((w4.setCell ⟨X,0,none⟩ (A0 (BN p xs xb n (L+1)))).setCell ⟨X,1,none⟩ (A0 (Bd p xs xb n (L+1)))).drew:=by
       have h:=Ir w4 X (A0 (BN p xs xb n (L+1))) (A0 (Bd p xs xb n (L+1)));exact⟨h.os,h.tape,h.output,h.size,h.block⟩
      exact⟨B,X,L+1,Kf _ rfl,by omega,hB,hX,Nat.lt_of_lt_of_le kA dA.size,vA.out.trans (dA.A1 (B:=w.heap.size) vA.out.size (by intro k t;omega)),(dA.block _ (by omega) (by omega)).trans pB.out,Or.inl ⟨rfl,by omega,J.out.AD dA (by omega),sA.out.put _ _⟩⟩
  ·refine⟨_,rfl,?_⟩;have A:=AF hW;have HO:=AF hO;have Hb:=AF hb;have Hk:=AF t;have HR:=AF hr;have jD:(L:Int)<3:=(by omega);have iD:B≠X:=(by omega);obtain⟨y0,_⟩:=A.out (34+L*2) (by omega);rw[(UI p xs xb n 2 o N).1]at y0;obtain⟨y1,_⟩:=A.out (34+L*2+1) (by omega);rw[(UI p xs xb n 2 o N).2]at y1;clear hW hO hb t hr;obtain⟨wd,jC⟩:=Option.map_eq_some_iff.1 zIM;have HU:=AF jC;clear jC;by_cases g:Nil (BN p xs xb n L) (Bd p xs xb n L)
   ·have HN:=AF g;rw[g.1]at y0;rw[g.2]at y1;clear g;have f:Hid (Ax d (X+1) o (BS p xs xb n (2 - L+1))):=by
     have:=HR.out;rw[Uy p xs xb n N];unfold one;rw[if_pos HN.out,List.append_nil];exact this
    have x:=A;have q:=HO;have C:=Hb;have Z:=D;clear A HO Hb HR D;by_cases cB:L=0
    ·subst cB;go_wp2_with (first
      | (refine wpList_load_mid rfl 125 (.tmp 7) rfl B 0 rfl ((List.range 41).map (BY p xs xb n 2 3 o)) wd x.out.range HU.out.1 HU.out.2 (Ua _) ?_)
      | (refine wpList_store_row rfl 125 (.tmp 6) (.tmp 67) rfl (w.heap.size+1) (CW (BY p xs xb n 2 3 o)) rfl rfl 125 Mb q.out (Np _) (by rw[Qn];rfl) (UJ _ _ _ _ _ _ f.out.one) ?_)
      | fail)
     unfold hop;dsimp only;refine bodyPost_ret (v:=.agg (CW (BY p xs xb n 2 3 o))) (results_cell_row (P:=Tryz.prog) (ty:=125) Tryz.results80 _ _ (w.heap.size+1) 125 (CW (BY p xs xb n 2 3 o)) (0,0) _ rfl (setRow_heap _ _ _ _ _ _ q.out) HU.out.1 (by have:=HU.out.2;cases wd<;>exact this) (Np _)) rfl ⟨o,rfl,?_,?_⟩
     ·exact(f.out.setRow (by omega) _).mono (by omega)
     ·exact below_setRow C.out (by omega) _
    ·obtain⟨M,rfl⟩:∃M,L=M+1:=⟨L - 1,by omega⟩;have hM:(0:Int)<(M:Int)+1:=(by omega);go_wp2;go_step3;have t:=Hk.out;exact⟨B,X,M,Kf _ rfl,by omega,hB,hX,Z,C.out,q.out,Or.inr ⟨rfl,by omega,o,x.out,by
      have:=f.out;rw[show 2 - (M+1)+1=2 - M by omega]at this;exact this⟩⟩
   ·have HN:=AF g;obtain⟨oa,oc,rfl,_⟩:=Bw HR.out;have lC:d.cell? ⟨B,40,none⟩=some (.slice oa (BS p xs xb n (2 - L)).length oc):=(A.out 40 (by omega)).1;rcases L1 g with e0 | ⟨e0,e1⟩
    all_goals
     clear g;go_upto_region 9 with fail;have bB:Below d.heap.size d (d.alloc (.cells #[A0 (BN p xs xb n L),A0 (Bd p xs xb n L)] 38)):=AB _ _;have mC:(d.alloc (.cells #[A0 (BN p xs xb n L),A0 (Bd p xs xb n L)] 38)).cell? ⟨B,40,none⟩=some (.slice oa (BS p xs xb n (2 - L)).length oc):=((A.out.A1 bB) 40 (by omega)).1;have R:Hid (Below d.heap.size d (d.alloc (.cells #[A0 (BN p xs xb n L),A0 (Bd p xs xb n L)] 38)).drew):=bB.drew;clear bB;have aC:Hid (Ax (d.alloc (.cells #[A0 (BN p xs xb n L),A0 (Bd p xs xb n L)] 38)).drew d.heap.size (.slice (some ⟨d.heap.size,0,none⟩) 1 1) [(BN p xs xb n L,Bd p xs xb n L)]):=World.ownsRow_lit (e:=38) (size:=2) d #[A0 (BN p xs xb n L),A0 (Bd p xs xb n L)] 1 (Nat.le_refl _) (by unfold maxLen;omega) rfl
     go_region_law (refine zDP rfl (.tmp 55) (.tmp 60) rfl (X+1) d.heap.size (.slice oa (BS p xs xb n (2 - L)).length oc) (BS p xs xb n (2 - L)) (by simp[Act.eval]) (HR.out.A1 R.out) (some ⟨d.heap.size,0,none⟩) 1 1 [(BN p xs xb n L,Bd p xs xb n L)] (by simp[Act.eval]) rfl aC.out (by have:=zA0 p xs xb n (2 - L);simp;omega) (by have:=R.out.size;omega) ?_;intro v3 w3 gB F;obtain⟨va,vc,rfl,_⟩:=Bw gB;have eB:AC (fun k=>X<k) d w3:=(AC.EF R.out).trans ⟨F.os,F.tape,F.output,F.size,fun k t mD=>F.block k t (fun e=>mD (by have:=(HR.out.lt e.symm).1;omega))⟩;obtain⟨k0,nD⟩:=(A.out.AD eB (by omega)) 40 (by omega);have pA:=AF eB;have rB:=AF gB;clear eB gB F)
     all_goals
      have lA:(BS p xs xb n (2 - L) ++ [(BN p xs xb n L,Bd p xs xb n L)]).length=(BS p xs xb n (2 - L)).length+1:=(by simp);have Y:AC (fun k=>X<k\/k=B) d (w3.setCell ⟨B,40,none⟩ (.slice va ((BS p xs xb n (2 - L)).length+1) vc)):=AC.setCell (S:=fun k=>X<k\/k=B) (pA.out.mono (fun k t=>Or.inl t)) (p:=⟨B,40,none⟩) (Or.inr rfl) _;have x:=AF (zHb (.slice va ((BS p xs xb n (2 - L)).length+1) vc) (A.out.AD pA.out (by omega)));have f:Hid (Ax (w3.setCell ⟨B,40,none⟩ (.slice va ((BS p xs xb n (2 - L)).length+1) vc)) (X+1) (.slice va ((BS p xs xb n (2 - L)).length+1) vc) (BS p xs xb n (2 - L+1))):=by
       have:=rB.out.put (b:=B) (o:=40) (by omega) (.slice va ((BS p xs xb n (2 - L)).length+1) vc);rw[lA]at this;rw[Uy p xs xb n N];unfold one;rw[if_neg HN.out];exact this
      have q:=AF ((Y.block _ (by omega) (by omega)).trans HO.out);have C:=AF (Hb.out.trans (Y.A1 (B:=w.heap.size) Hb.out.size (by intro k t;omega)));have Z:=Nat.lt_of_lt_of_le D Y.size;clear Y rB pA R aC mC lC A HO Hb HR D k0 nD lA y0 y1;generalize w3.setCell ⟨B,40,none⟩ (.slice va ((BS p xs xb n (2 - L)).length+1) vc)=w4 at x f q C Z ⊢;generalize Value.slice va ((BS p xs xb n (2 - L)).length+1) vc=oq at x f ⊢;by_cases cB:L=0
      ·subst cB;go_wp2_with (first
        | (refine wpList_load_mid rfl 125 (.tmp 7) rfl B 0 rfl ((List.range 41).map (BY p xs xb n 2 3 oq)) wd x.out.range HU.out.1 HU.out.2 (Ua _) ?_)
        | (refine wpList_store_row rfl 125 (.tmp 6) (.tmp 67) rfl (w.heap.size+1) (CW (BY p xs xb n 2 3 oq)) rfl rfl 125 Mb q.out (Np _) (by rw[Qn];rfl) (UJ _ _ _ _ _ _ f.out.one) ?_)
        | fail)
       unfold hop;dsimp only;refine bodyPost_ret (v:=.agg (CW (BY p xs xb n 2 3 oq))) (results_cell_row (P:=Tryz.prog) (ty:=125) Tryz.results80 _ _ (w.heap.size+1) 125 (CW (BY p xs xb n 2 3 oq)) (0,0) _ rfl (setRow_heap _ _ _ _ _ _ q.out) HU.out.1 (by have:=HU.out.2;cases wd<;>exact this) (Np _)) rfl ⟨oq,rfl,?_,?_⟩
       ·exact(f.out.setRow (by omega) _).mono (by omega)
       ·exact below_setRow C.out (by omega) _
      ·obtain⟨M,rfl⟩:∃M,L=M+1:=⟨L - 1,by omega⟩;have hM:(0:Int)<(M:Int)+1:=(by omega);go_wp2;go_step3;have t:=Hk.out;exact⟨B,X,M,Kf _ rfl,by omega,hB,hX,Z,C.out,q.out,Or.inr ⟨rfl,by omega,oq,x.out,by
        have:=f.out;rw[show 2 - (M+1)+1=2 - M by omega]at this;exact this⟩⟩
 ·intro enter;go_upto_region 1 with fail;generalize (w.alloc (.cells #[A0 xs,A0 xb] 38)).alloc (.cells #[A0 0,A0 0,A0 0,A0 0,A0 0,A0 0,A0 0,A0 0,A0 0,A0 0,A0 0,A0 0,A0 0,A0 0,A0 0,A0 0,A0 0,A0 0,A0 0,A0 0,A0 0,A0 0,A0 0,A0 0,A0 0,A0 0,A0 0,A0 0,A0 0,A0 0,A0 0,A0 0,A0 0,A0 0,A0 0,A0 0,A0 0,A0 0,A0 0,A0 0,A5] 125)=W at U T bA G ⊢;have aA:=AB W (.cells (Fo n) 125);have cD:=AF (U.out.A1 aA);have dD:=AF (zHa W n);have bD:=AF ((aA.block _ (by omega)).trans T.out);have gD:=A9 bA aA;have kC:(W.alloc (.cells (Fo n) 125)).heap.size=w.heap.size+3:=(by rw[World.size_alloc,G]);obtain⟨⟨x0,x1⟩,⟨x2,x3⟩⟩:=cD.out;have eD:=AF G;clear aA U T bA G;go_wp2_with (first
   | (refine wpList_store_row rfl 125 (.tmp 7) (.tmp 15) rfl W.heap.size (Fo n) rfl rfl 125 Mb (heap_alloc_last _ _) (zEP n) rfl (zGM n) ?_;rw[World.setRow_alloc_new])
   | fail)
  go_step3
  rename_i K hK
  refine hK _ _ (enter 0 _ _ _ rfl ?_);clear hK;have G:=eD.out;have O:=AB (W.alloc (.cells (Fo n) 125)) (.cells #[A0 xs,A0 xb] 38);refine⟨W.heap.size,w.heap.size+3,0,Kf _ rfl,by omega,by omega,by omega,by rw[World.size_alloc,kC];omega,A9 gD O,?_,Or.inl ⟨rfl,by omega,?_,?_⟩⟩
  ·exact(O.block _ (by omega)).trans bD.out
  ·exact(dD.out.A1 O).congr fun i hi=>zGP p xs xb n hi
  ·have:=Ad.new (W.alloc (.cells (Fo n) 125)) (A0 xs) (A0 xb) 38;rw[kC]at this;exact this
end Go.Proofs.YtddigaohmfpepaaGreatDoor

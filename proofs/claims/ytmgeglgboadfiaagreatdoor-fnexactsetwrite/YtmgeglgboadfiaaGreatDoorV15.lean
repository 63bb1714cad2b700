/- What slices.IndexFunc (with impl.isFree) and spec.l01Take answer; what PoolTake tells. -/
import Derived.Test.YtmgeglgboadfiaaGreatDoorV14
import Derived.Scope
import Derived.WalkMore
import Derived.Deep.MidRow
set_option linter.unusedVariables false
set_option maxRecDepth 20000
set_option maxHeartbeats 4000000
namespace Go.Proofs.YtmgeglgboadfiaaGreatDoor
open Go.RowKit
def qz(n:Nat)(f:Nat->zL)(i:Nat):Prop:=i<n/\qE (f i)/\∀j,j<i->¬qE (f j)
theorem qz.uniq{n:Nat}{f:Nat->zL}{i j:Nat}(h:qz n f i)(h':qz n f j):i=j:=by
 rcases Nat.lt_trichotomy i j with e | e | e
 ·exact absurd h.2.1 (h'.2.2 i e)
 ·exact e
 ·exact absurd h'.2.1 (h.2.2 j e)
open Classical in
noncomputable def qw(p:zI)(s:zL):zDr:=
 if zx p/\¬qE s/\zAg p s then(if h:∃i,qz p.n p.s i then⟨yG p (Classical.choose h) s,((Classical.choose h:Nat):Int),s.zRi,0⟩else⟨zEH 0,0,0,6⟩)else⟨zEH 0,0,0,1⟩
theorem zGf{p:zI}{s:zL}(h:¬(zx p/\¬qE s/\zAg p s)):qw p s=⟨zEH 0,0,0,1⟩:=if_neg h
theorem zEu{p:zI}{s:zL}(h:zx p/\¬qE s/\zAg p s)(h':∀j,j<p.n->¬qE (p.s j)):qw p s=⟨zEH 0,0,0,6⟩:=by
 unfold qw;rw[if_pos h,dif_neg (fun ⟨i,hi⟩=>h' i hi.1 hi.2.1)]
theorem zHU{p:zI}{s:zL}{i:Nat}(h:zx p/\¬qE s/\zAg p s)(h':qz p.n p.s i):qw p s=⟨yG p i s,(i:Int),s.zRi,0⟩:=by
 unfold qw;have hx:∃i,qz p.n p.s i:=⟨i,h'⟩;rw[if_pos h,dif_pos hx];have e:Classical.choose hx=i:=(Classical.choose_spec hx).uniq h';rw[e]
theorem zF.trans2{S T:Nat->Prop}{a b c:World}(h:zF S a b)(k:zF T b c)(aA:∀i,T i->i<a.heap.size->S i):zF S a c:=
 ⟨k.os.trans h.os,k.tape.trans h.tape,k.output.trans h.output,Nat.le_trans h.size k.size,fun i hi hs=>(k.block i (Nat.lt_of_lt_of_le hi h.size) (fun t=>hs (aA i t hi))).trans (h.block i hi hs)⟩
theorem zJC{p:zI}{s:zL}(hR:zx p)(hf:¬qE s):zBG p.n p.s s↔zAg p s:=by
 have aA:∀i,i<p.n->¬qE (p.s i)->1<=(p.s i).zRi:=fun i hi=>zFS (hR.2.1 i hi)
 constructor
 ·rintro(h | h | h)
  ·exact absurd h hf
  ·exact⟨h.1,Or.inl h.2⟩
  ·exact⟨h.1.1,Or.inr ⟨h.1.2.1,h.1.2.2,fun j hj=>(zHb aA).1 (h.2 j (by have:=h.1.2.1;omega))⟩⟩
 ·intro h;rcases h.2 with g | g
  ·exact Or.inr (Or.inl ⟨h.1,g⟩)
  ·exact Or.inr (Or.inr ⟨⟨h.1,g.1,g.2.1⟩,fun j hj=>(zHb aA).2 (g.2.2 j (by omega))⟩)
theorem zI5(v:Value)(n lo hi:Nat)(f:Nat->zL)(w:World)(h1:qA w lo hi v n f) :
  Calls Tryz.prog 159 #[v,.func (.func 157) #[] #[]] w fun e w'=>((∃i:Nat,qz n f i/\e = .returned (.int .i64 (i:Int)))\/((∀j,j<n->¬qE (f j))/\e = .returned (.int .i64 (-1))))/\Below w.heap.size w w':=by
 have Hp:=zT h1;obtain⟨m1,a,c,rfl,mc,g1⟩:=h1;unfold maxLen at m1;clear g1;go_enter Tryz.func159,Tryz.ntmps159;go_wp2
 go_loopw [5,8] (fun _ i wr=>∃k:Nat,k<=n/\i = .int .i64 k/\(∀j,j<k->¬qE (f j))/\Below w.heap.size w wr) (fun _ i _=>n - (intOf i).toNat)
 case atStart=>exact⟨0,Nat.zero_le _,rfl,fun j hj=>absurd hj (Nat.not_lt_zero _),Below.refl _ _⟩
 case round=>
  obtain⟨k,hk,rfl,bA,hb⟩:=hrel;have aA:=zT bA;clear bA;by_cases cA:k<n
  ·have fA:(k:Int)<(n:Int):=(by omega);obtain⟨b,off,ka,kc,rfl,hs⟩:=(Hp.out.zRX hb).cells cA;have Hs:=zT hs;obtain⟨q0,q1,q2,_⟩:=hs;go_wp2_with fail;refine(zBv _ _ _ lo hi (f k) _ Hs.out.slot).mono ?_;rintro e w1 ⟨⟨t,rfl,ht⟩,eA⟩;have dA:=zA hb eA;clear eA q0 q1 q2 Hs;by_cases hf:qE (f k)
   ·obtain rfl:t=true:=ht.2 hf;have HF:=zT hf;clear ht hf;go_wp2;go_ret;exact⟨Or.inl ⟨k,⟨cA,HF.out,aA.out⟩,rfl⟩,dA⟩
   ·obtain rfl:t=false:=zQ ht hf;have HF:=zT hf;clear ht hf;go_wp2;go_roundw
    case rel=>exact⟨k+1,by omega,by go_num,zo cA aA.out HF.out,dA⟩
    case measure=>simp[intOf];omega
  ·obtain rfl:k=n:=(by omega);go_wp2;go_ret;exact⟨Or.inr ⟨aA.out,rfl⟩,hb⟩
theorem zU.all{w:World}{lo hi:Nat}{v:Value}{n:Nat}{f g:Nat->Int}(h:zU w lo hi v n f g):zU w 0 w.heap.size v n f g:=by
  obtain⟨h0,a,bA,hv,aA,hc⟩:=h;refine⟨h0,a,bA,hv,aA,fun hn=>?_⟩;obtain⟨b,off,ha,g1,g2,g3⟩:=hc hn;exact⟨b,off,ha,Nat.zero_le _,zD (g3 0 hn).1,g3⟩
theorem qG.all{w:World}{lo hi:Nat}{v0 v1 v2:Value}{s:zL}(h:qG w lo hi v0 v1 v2 s):qG w 0 w.heap.size v0 v1 v2 s:=⟨h.1,h.2.1.all,h.2.2⟩
theorem qV.all{w:World}{lo hi:Nat}{v:Value}{n:Nat}{f:Nat->Int}(h:qV w lo hi v n f):qV w 0 w.heap.size v n f:=by
  obtain⟨h0,a,bA,hv,aA,hc⟩:=h;refine⟨h0,a,bA,hv,aA,fun hn=>?_⟩;obtain⟨b,off,ha,g1,g2,g3⟩:=hc hn;exact⟨b,off,ha,Nat.zero_le _,zD (g3 0 hn),g3⟩
theorem zJo{f g:Nat->zL}{kv aA:Nat->Value}{k:Nat}(h:∀i,i<k->f i=g i/\kv i=aA i):sc f kv k=sc g aA k:=by
  induction k with
  | zero=>rfl
  | succ k ih=>
    unfold sc;rw[ih (fun i hi=>h i (by omega)),(h k (by omega)).1,(h k (by omega)).2]
theorem zGi(f:Nat->zL)(kv:Nat->Value)(k m:Nat):sc f kv (k+m)=sc f kv k ++ sc (fun i=>f (k+i)) (fun i=>kv (k+i)) m:=by
  induction m with
  | zero=>simp[sc]
  | succ m ih=>
    show sc f kv (k+m) ++ [.int .i64 (f (k+m)).zRi,kv (k+m),.string (f (k+m)).data]=sc f kv k ++ (sc (fun i=>f (k+i)) (fun i=>kv (k+i)) m ++ [.int .i64 (f (k+m)).zRi,kv (k+m),.string (f (k+m)).data]);rw[ih,List.append_assoc]
theorem zOX{f:Nat->zL}{kv:Nat->Value}{k n j:Nat}{u:Value}(h:k<=n)(hj:(sc f kv k)[j]?=some u):(sc f kv n)[j]?=some u:=by
  obtain⟨m,rfl⟩:=Nat.exists_eq_add_of_le h;have aA:=(List.getElem?_eq_some_iff.1 hj).1;rw[zGi,List.getElem?_append_left aA];exact hj
theorem zN0{f:Nat->zL}{kv:Nat->Value}{k m j:Nat}{u:Value}(hj:(sc (fun i=>f (k+i)) (fun i=>kv (k+i)) m)[j]?=some u):(sc f kv (k+m))[k*3+j]?=some u:=by
  rw[zGi,List.getElem?_append_right (by rw[zDy];omega),zDy];rw[show k*3+j - k*3=j by omega];exact hj
theorem zHp(f:Nat->zL)(i:Nat)(s:zL):∀n,yn (fun j=>if j=i then s else f j) n<=yn f n+(if i<n then zAO s else 0)
  | 0=>Nat.zero_le _
  | n+1=>by
    have ih:=zHp f i s n;show yn (fun j=>if j=i then s else f j) n+zAO (if n=i then s else f n)<=yn f n+zAO (f n)+_;by_cases e:n=i
    · rw[if_pos e,if_pos (by omega)]
      rw[if_neg (by omega)]at ih;omega
    · rw[if_neg e]
      by_cases e2:i<n
      · rw[if_pos e2]at ih
        rw[if_pos (by omega)];omega
      · rw[if_neg e2]at ih
        rw[if_neg (by omega)];omega
theorem zJg(p:zI)(i:Nat)(s:zL):qC (yG p i s)<=qC p+zAO s:=by
  have h:=zHp p.s i s p.n;have h2:(if i<p.n then zAO s else 0)<=zAO s:=(by split<;>omega);show p.n+yn (fun j=>if j=i then s else p.s j) p.n+p.hn<=p.n+yn p.s p.n+p.hn+zAO s;omega
theorem zQu{p:zI}{s:zL}{cv:Nat->Value}{kv:Value}{aA:Nat}(h:aA<p.n) :
    sc p.s cv aA ++ [.int .i64 s.zRi,kv,.string s.data] ++ sc (fun i=>p.s (aA+1+i)) (fun i=>cv (aA+1+i)) (p.n - (aA+1))=sc (yG p aA s).s (fun j=>if j=aA then kv else cv j) p.n:=by
  have e:=zGi (yG p aA s).s (fun j=>if j=aA then kv else cv j) (aA+1) (p.n - (aA+1));rw[show aA+1+(p.n - (aA+1))=p.n by omega]at e;rw[e];congr 1
  · show _=sc (yG p aA s).s (fun j=>if j=aA then kv else cv j) aA ++ [.int .i64 ((yG p aA s).s aA).zRi,(if aA=aA then kv else cv aA),.string ((yG p aA s).s aA).data]
    rw[show(yG p aA s).s aA=s from if_pos rfl,if_pos rfl];congr 1;exact zJo fun i hi=>⟨(if_neg (by omega:¬i=aA)).symm,(if_neg (by omega:¬i=aA)).symm⟩
  · exact zJo fun i hi=>⟨(if_neg (by omega:¬aA+1+i=aA)).symm,(if_neg (by omega:¬aA+1+i=aA)).symm⟩
theorem zNJ{w:World}{base e n:Nat}{f:Nat->zL}{cv:Nat->Value}{v:Value}(hm:n<=maxLen)(h:w.ownsRow base e 3 v n (sc f cv n))(hs:∀i,i<n->qG w 0 w.heap.size (.int .i64 (f i).zRi) (cv i) (.string (f i).data) (f i)):qA w 0 w.heap.size v n f:=by
  by_cases h0:0<n
  · obtain⟨g,bA,rfl,cA,hb,dA,aA⟩:=qY h h0
    refine⟨hm,_,bA,rfl,cA,fun _=>⟨g,0,rfl,Nat.zero_le _,dA,fun i hi=>⟨_,_,_,?_,?_,?_,hs i hi⟩⟩⟩
    · have:=(aA (i*3+0) _ (zEm f cv n i 0 hi (by omega))).1;simpa using this
    · have:=(aA (i*3+1) _ (zEm f cv n i 1 hi (by omega))).1;simpa using this
    · have:=(aA (i*3+2) _ (zEm f cv n i 2 hi (by omega))).1;simpa using this
  · obtain⟨a,bA,rfl,cA⟩:=zY h
    exact⟨hm,a,bA,rfl,cA,fun h=>absurd h h0⟩
theorem zKP(v0 v1 kv:Value)(lo hi lo' hi' aA:Nat)(p:zI)(s:zL)(w:World)(h1:zu w lo hi v0 v1 p)(h2:qG w lo' hi' (.int .i64 s.zRi) kv (.string s.data) s)(oB:aA<p.n)(hn:qC p+zAO s<=1048576) :
    Calls Tryz.prog 160 #[.agg #[v0,v1],.int .i64 (aA:Int),.agg #[.int .i64 s.zRi,kv,.string s.data]] w (zHY (yG p aA s) w):=by
  have Hp:=zT h1;have Hs:=zT h2;have Hn:=zT hn;have jC:p.n<=1048576:=(by unfold qC at hn;omega);have fC:p.hn<=1048576:=(by unfold qC at hn;omega);obtain⟨a,c,a',c',rfl,rfl⟩:=h1.form;obtain⟨ka,kc,rfl⟩:=h2.form;have mc:p.n<=c:=(by obtain⟨⟨_,_,_,e,h,_⟩,_⟩:=h1;simp only[Value.slice.injEq,true_and]at e;omega);obtain⟨cv,dB,mA⟩:=h1.1.values;obtain⟨b,off,rfl,sB,tB,eA⟩:=mA (by omega);have jB:=zT dB;have jA:=zT eA;have fB:b<w.heap.size:=by
    have:=eA 0 _ (by have:=zEm p.s cv p.n 0 0 (by omega) (by omega);simpa using this);exact zD this
  obtain⟨i1,gB,kA⟩:=Option.map_eq_some_iff.1 zEz;simp only[Prod.mk.injEq]at kA;have gA:=zT (And.intro gB kA);clear h1 h2 hn dB mA eA gB kA sB tB;have cB:=zC w (.cells #[.slice (some ⟨b,off,none⟩) p.n c,.slice a' p.hn c'] 33);have eB:=zA cB (zC _ (.cells #[.int .i64 s.zRi,.slice ka s.kn kc,.string s.data] 127));have oA:=zA eB (zC _ (.cells #[.slice none 0 0,.slice none 0 0] 33));have HB:=zT (((zc.zRZ w (.slice (some ⟨b,off,none⟩) p.n c) (.slice a' p.hn c') 33).zRX (zC _ (.cells #[.int .i64 s.zRi,.slice ka s.kn kc,.string s.data] 127))).zRX (zC _ (.cells #[.slice none 0 0,.slice none 0 0] 33)));have rA:=(yR.zRZ (w.alloc (.cells #[.slice (some ⟨b,off,none⟩) p.n c,.slice a' p.hn c'] 33)) (.int .i64 s.zRi) (.slice ka s.kn kc) (.string s.data) 127).zRX (zC _ (.cells #[.slice none 0 0,.slice none 0 0] 33));rw[World.size_alloc]at rA;have HS:=zT rA;have tA:=zc.zRZ ((w.alloc (.cells #[.slice (some ⟨b,off,none⟩) p.n c,.slice a' p.hn c'] 33)).alloc (.cells #[.int .i64 s.zRi,.slice ka s.kn kc,.string s.data] 127)) (.slice none 0 0) (.slice none 0 0) 33;rw[World.size_alloc,World.size_alloc]at tA;have HR:=zT tA;clear cB eB rA tA;go_enter Tryz.func160,Tryz.ntmps160;go_wp2_with fail;generalize hW:((w.alloc (.cells #[.slice (some ⟨b,off,none⟩) p.n c,.slice a' p.hn c'] 33)).alloc (.cells #[.int .i64 s.zRi,.slice ka s.kn kc,.string s.data] 127)).alloc (.cells #[.slice none 0 0,.slice none 0 0] 33)=W at HB HS HR oA ⊢;have hz:W.heap.size=w.heap.size+3:=(by rw[<-hW,World.size_alloc,World.size_alloc,World.size_alloc]);clear hW;obtain⟨⟨x0,x1⟩,⟨x2,x3⟩⟩:=HB.out;obtain⟨⟨y0,y1⟩,⟨y2,y3⟩,⟨y4,y5⟩⟩:=HS.out;have mB:(aA:Int)<=(c:Int):=(by omega);have n0:W.heap.size≠w.heap.size:=(by omega);have n1:W.heap.size≠w.heap.size+1:=(by omega);go_region_held3 (fun w'=>w'.cell? ⟨w.heap.size,0,none⟩=some (.slice (some ⟨b,off,none⟩) p.n c)/\w'.cell? ⟨w.heap.size+1,0,none⟩=some (.int .i64 s.zRi)/\w'.cell? ⟨w.heap.size+1,1,none⟩=some (.slice ka s.kn kc)/\w'.cell? ⟨w.heap.size+1,2,none⟩=some (.string s.data)) (go_keep)
    (first
      | (refine step_append_grows rfl (.tmp 12) (.tmp 14) 31 rfl 127 i1 (.agg #[.int .i64 0,.slice none 0 0,.string ⟨#[]⟩]) 3 48 (by kernel_rfl) gA.out.1 gA.out.2.1 gA.out.2.2.1 gA.out.2.2.2 rfl (by decide) (some ⟨b,off,none⟩) aA aA (sc p.s cv aA) (by simp[Act.eval]) (fun e=>by cases e) (zDy _ _ _) ?_ ⟨W.heap.size,0,none⟩ 1 1 [.int .i64 s.zRi,.slice ka s.kn kc,.string s.data] (by simp[Act.eval]) rfl ?_ (zRL _ _ _ _ _) (by omega) (by unfold maxLen;omega) (by omega) ?_
         exact fun b1 e j u hj=>by
           simp only[Option.some.injEq]at e;subst e;rw[add_lit];exact((zA oA (zC W _)).drew.cell (p:=⟨b,off+j,none⟩) fB).trans (jA.out j u (zOX (by omega) hj))
         exact zQh W _ _ _ _;intro v4 w4 dA fA;obtain⟨g4,c4,rfl,_⟩:=dA.form (by omega);have lA:Below W.heap.size W w4:=zA (zC W _) (zK (zCg fA));have iA:=zT (zEj (B:=W.heap.size) dA (by simp));obtain⟨⟨p0,p1⟩,⟨p2,p3⟩⟩:=HB.out.zRX lA;obtain⟨⟨p4,p5⟩,⟨p6,p7⟩,⟨p8,p9⟩⟩:=HS.out.zRX lA;clear dA fA))
  have vB:=zA oA lA;have nB:(aA:Int)+1<=(p.n:Int):=(by omega);have aC:=lA.size;clear x0 x1 x2 x3 y0 y1 y2 y3 y4 y5 p4 p5 p6 p7 p8 p9 HS;have rB:Hid (∀j u,(sc (fun i=>p.s (aA+1+i)) (fun i=>cv (aA+1+i)) (p.n - (aA+1)))[j]?=some u->w4.cell? ((⟨b,off+(aA+1)*3,none⟩:Addr).add j)=some u):=fun j u hj=>by
    have e:=zN0 (f:=p.s) (kv:=cv) hj;rw[show aA+1+(p.n - (aA+1))=p.n by omega]at e;rw[add_lit,show off+(aA+1)*3+j=off+((aA+1)*3+j)by omega];exact(vB.cell (p:=⟨b,off+((aA+1)*3+j),none⟩) fB).trans (jA.out _ u e)
  have eC:Hid (c=aA+1->∀j u,(sc (fun i=>p.s (aA+1+i)) (fun i=>cv (aA+1+i)) (p.n - (aA+1)))[j]?=some u->w4.cell? ((⟨b,off,none⟩:Addr).add j)=some u):=fun kC j u hj=>by
    rw[show p.n - (aA+1)=0 by omega]at hj;simp[sc]at hj
  have aB:Hid (∀u∈sc (fun i=>p.s (aA+1+i)) (fun i=>cv (aA+1+i)) (p.n - (aA+1)),u.oneCell'=true):=zP3 _ _ _ (fun i hi=>by obtain⟨dC,gC,e⟩:=(jB.out (aA+1+i) (by omega)).form;rw[e];rfl);go_wp2_with (first
    | (at_builtin;refine qJ rfl _ _ 31 rfl W.heap.size 127 i1 (.agg #[.int .i64 0,.slice none 0 0,.string ⟨#[]⟩]) 3 48 (by kernel_rfl) gA.out.1 gA.out.2.1 gA.out.2.2.1 gA.out.2.2.2 rfl (by decide) (.slice (some ⟨g4,0,none⟩) (aA+1) c4) (aA+1) _ rfl iA.out _ (p.n - (aA+1)) _ (sc (fun i=>p.s (aA+1+i)) (fun i=>cv (aA+1+i)) (p.n - (aA+1))) rfl (zDy _ _ _) aB.out (by intro hm;exact⟨b,off+(aA+1)*3,(by first | rw[if_neg (by omega)] | rfl | simp),fun j u hj=>by have hq:=rB.out j u hj;rw[add_lit]at hq;exact hq⟩) ?c3 ?c4 ?c5 ?_))
  case c3=>unfold maxLen;omega
  case c4=>omega
  case c5=>omega
  all_goals
    intro v5 w5 bA cA _;have hl:=zQu (s:=s) (cv:=cv) (kv:=.slice ka s.kn kc) oB;simp only[List.append_assoc,List.cons_append,List.nil_append]at hl bA;rw[show aA+1+(p.n - (aA+1))=p.n by omega,hl]at bA;clear hl;obtain⟨g5,c5,rfl,_⟩:=bA.form (by omega);have nA:Below W.heap.size W w5:=lA.grown cA aC (fun k hk=>(iA.out.lt k hk).1);have pA:=zA oA nA;have lB:Hid (zu w5 0 w5.heap.size (.slice (some ⟨g5,0,none⟩) p.n c5) (.slice a' p.hn c') (yG p aA s)):=by
      refine⟨zNJ (by show p.n<=maxLen;unfold maxLen;omega) bA (fun i hi=>?_),(Hp.out.2.zRX pA).all⟩;by_cases e:i=aA
      · subst e
        rw[show(yG p i s).s i=s from if_pos rfl];simp only[if_true];exact(Hs.out.zRX pA).all
      · rw[show(yG p aA s).s i=p.s i from if_neg e]
        simp only[if_neg e];exact((jB.out i hi).zRX pA).all
    have bC:=zT (HR.out.zRX nA);have iC:w.heap.size+3<=w5.heap.size:=(by have:=nA.size;omega);clear bA cA p0 p1 p2 p3;obtain⟨⟨p0,p1⟩,⟨p2,p3⟩⟩:=HB.out.zRX nA;go_wp2_with fail;refine(zB1 _ _ 0 w5.heap.size (yG p aA s) _ lB.out (by have:=zJg p aA s;have:=Hn.out;omega)).mono ?_;rintro e w6 ⟨s0,s1,rfl,vA,sA⟩;obtain⟨a6,c6,a7,c7,rfl,rfl⟩:=vA.form;have bB:=zT (bC.out.zRX sA);have pB:=zT vA;have cC:=zA pA sA;clear vA sA p0 p1 p2 p3;obtain⟨⟨u0,u1⟩,⟨u2,u3⟩⟩:=bB.out;go_wp2;have kB:=bB.out.put (.slice a6 (yG p aA s).n c6) (.slice a7 (yG p aA s).hn c7);have iB:=zOs (R:=w.heap.size+1+1) pB.out (by omega) (by omega) (Nat.le_refl _) cC;exact bodyPost_ret (v:=.agg #[.slice a6 (yG p aA s).n c6,.slice a7 (yG p aA s).hn c7]) (by simp[results,Tryz.results160,go_sem,kB.1.1,kB.2.1]) rfl ⟨_,_,rfl,iB.1,iB.2⟩
theorem zQB(w:World)(a0 a1 x0 x1 x2:Value)(t1 t2 t3:TypeId) :
  zc (((w.alloc (.cells #[a0,a1] t1)).alloc (.cells #[x0,x1,x2] t2)).alloc (.cells #[.slice none 0 0,.slice none 0 0,.int .i64 0,.int .i64 0,.int .i64 0] t3)) w.heap.size a0 a1/\
  yR (((w.alloc (.cells #[a0,a1] t1)).alloc (.cells #[x0,x1,x2] t2)).alloc (.cells #[.slice none 0 0,.slice none 0 0,.int .i64 0,.int .i64 0,.int .i64 0] t3)) (w.heap.size+1) x0 x1 x2/\
  zDk (((w.alloc (.cells #[a0,a1] t1)).alloc (.cells #[x0,x1,x2] t2)).alloc (.cells #[.slice none 0 0,.slice none 0 0,.int .i64 0,.int .i64 0,.int .i64 0] t3)) (w.heap.size+1+1) (.slice none 0 0) (.slice none 0 0) (.int .i64 0) (.int .i64 0) (.int .i64 0)/\
  Below w.heap.size w (((w.alloc (.cells #[a0,a1] t1)).alloc (.cells #[x0,x1,x2] t2)).alloc (.cells #[.slice none 0 0,.slice none 0 0,.int .i64 0,.int .i64 0,.int .i64 0] t3))/\
  (((w.alloc (.cells #[a0,a1] t1)).alloc (.cells #[x0,x1,x2] t2)).alloc (.cells #[.slice none 0 0,.slice none 0 0,.int .i64 0,.int .i64 0,.int .i64 0] t3)).heap.size=w.heap.size+3:=by
 refine⟨((zc.zRZ w a0 a1 t1).zRX (zC _ _)).zRX (zC _ _),?_,?_,zA (zA (zC _ _) (zC _ _)) (zC _ _),by simp⟩
 ·have:=(yR.zRZ (w.alloc (.cells #[a0,a1] t1)) x0 x1 x2 t2).zRX (zC _ (.cells #[.slice none 0 0,.slice none 0 0,.int .i64 0,.int .i64 0,.int .i64 0] t3));rw[World.size_alloc]at this;exact this
 ·have:=zDk.zRZ ((w.alloc (.cells #[a0,a1] t1)).alloc (.cells #[x0,x1,x2] t2)) (.slice none 0 0) (.slice none 0 0) (.int .i64 0) (.int .i64 0) (.int .i64 0) t3;rw[World.size_alloc,World.size_alloc]at this;exact this
theorem zDT(v0 v1 kv:Value)(lo hi lo' hi':Nat)(p:zI)(s:zL)(w:World)(h1:zu w lo hi v0 v1 p)(h2:qG w lo' hi' (.int .i64 s.zRi) kv (.string s.data) s)(hn:qC p+zAO s<=1048576) :
  Calls Tryz.prog 100 #[.agg #[v0,v1],.agg #[.int .i64 s.zRi,kv,.string s.data]] w (zMy (qw p s) w):=by
 have Hp:=zT h1;have Hs:=zT h2;have Hn:=zT hn;obtain⟨a,c,a',c',rfl,rfl⟩:=h1.form;obtain⟨ka,kc,rfl⟩:=h2.form;have aC:s.kn<=1048576:=by unfold zAO at hn;omega
 have cC:p.n<=1048576:=by unfold qC at hn;omega
 have mB:=zQB w (.slice a p.n c) (.slice a' p.hn c') (.int .i64 s.zRi) (.slice ka s.kn kc) (.string s.data) 33 127 151;clear h1 h2 hn;go_enter Tryz.func100,Tryz.ntmps100;go_wp2_with fail;generalize ((w.alloc (.cells #[.slice a p.n c,.slice a' p.hn c'] 33)).alloc (.cells #[.int .i64 s.zRi,.slice ka s.kn kc,.string s.data] 127)).alloc (.cells #[.slice none 0 0,.slice none 0 0,.int .i64 0,.int .i64 0,.int .i64 0] 151)=W at mB ⊢;obtain⟨hB,hX,hR,dB,hz⟩:=mB;refine(yw _ _ lo hi p _ (Hp.out.zRX dB)).mono ?_;rintro e w1 ⟨⟨t,rfl,ht⟩,gA⟩;have gB:=zT (hB.zRX gA);have fB:=zT (hX.zRX gA);have rA:=zT (hR.zRX gA);have tA:=zA dB gA;have oB:w.heap.size+3<=w1.heap.size:=by have:=gA.size;omega
 clear hB hX hR dB gA hz;by_cases eA:zx p
 ·have pA:=zT eA;obtain rfl:t=true:=ht.2 eA;clear ht eA;obtain⟨⟨y0,y1⟩,⟨y2,y3⟩,⟨y4,y5⟩⟩:=fB.out;go_wp2_with fail;refine(zBv _ _ _ lo' hi' s _ (Hs.out.zRX tA)).mono ?_;rintro e w2 ⟨⟨t,rfl,ht⟩,iA⟩;have eB:=zT (gB.out.zRX iA);have cB:=zT (fB.out.zRX iA);have sA:=zT (rA.out.zRX iA);have mA:=zA tA iA;have tB:w.heap.size+3<=w2.heap.size:=(by have:=iA.size;omega);clear iA tA gB fB rA oB y0 y1 y2 y3 y4 y5;by_cases hF:qE s
  ·have HF:=zT hF;obtain rfl:t=true:=ht.2 hF;clear ht hF;obtain⟨⟨u0,u1⟩,⟨u2,u3⟩,⟨u4,u5⟩,⟨u6,u7⟩,⟨u8,u9⟩⟩:=sA.out;go_wp2;have aA:=sA.out.put (.slice none 0 0) (.slice none 0 0) (.int .i64 0) (.int .i64 0) (.int .i64 1);have bA:=zCh (R:=w.heap.size+1+1) (u2:=.int .i64 0) (u3:=.int .i64 0) (u4:=.int .i64 1) (by omega) mA;rw[zGf (fun h=>h.2.1 HF.out)];exact bodyPost_ret (v:=.agg #[.slice none 0 0,.slice none 0 0,.int .i64 0,.int .i64 0,.int .i64 1]) (by simp[results,Tryz.results100,go_sem,aA.1.1,aA.2.1.1,aA.2.2.1.1,aA.2.2.2.1.1,aA.2.2.2.2.1]) rfl ⟨_,_,rfl,bA.1,bA.2⟩
  ·have HF:=zT hF;obtain rfl:t=false:=zQ ht hF;clear ht hF;obtain⟨⟨x0,x1⟩,⟨x2,x3⟩⟩:=eB.out;obtain⟨⟨y0,y1⟩,⟨y2,y3⟩,⟨y4,y5⟩⟩:=cB.out;go_wp2_with fail;refine(zFL _ _ _ _ p.n lo hi lo' hi' p.s s _ (Hp.out.1.zRX mA) (Hs.out.zRX mA)).mono ?_;rintro e w3 ⟨⟨t,rfl,ht⟩,lA⟩;rw[zJC pA.out HF.out]at ht;have vA:=zT (eB.out.zRX lA);have aB:=zT (cB.out.zRX lA);have fA:=zT (sA.out.zRX lA);have jA:=zA mA lA;have sB:w.heap.size+3<=w3.heap.size:=(by have:=lA.size;omega);clear lA mA eB cB sA tB x0 x1 x2 x3 y0 y1 y2 y3 y4 y5;by_cases hT:zAg p s
   ·have HT:=zT (And.intro pA.out (And.intro HF.out hT));obtain rfl:t=true:=ht.2 hT;clear ht hT;obtain⟨⟨x0,x1⟩,⟨x2,x3⟩⟩:=vA.out;go_wp2_with fail;refine(zI5 _ p.n lo hi p.s _ (Hp.out.1.zRX jA)).mono ?_;rintro e w4 ⟨⟨i,lB,rfl⟩ | ⟨nB,rfl⟩,dA⟩
    ·have kB:=zT (vA.out.zRX dA);have iB:=zT (aB.out.zRX dA);have kA:=zT (fA.out.zRX dA);have oA:=zA jA dA;have dC:w.heap.size+3<=w4.heap.size:=(by have:=dA.size;omega);have Hi:=zT lB;have bC:¬(i:Int)<0:=(by omega);clear dA vA aB fA jA x0 x1 x2 x3 sB lB;obtain⟨⟨x0,x1⟩,⟨x2,x3⟩⟩:=kB.out;obtain⟨⟨y0,y1⟩,⟨y2,y3⟩,⟨y4,y5⟩⟩:=iB.out;obtain⟨⟨u0,u1⟩,⟨u2,u3⟩,⟨u4,u5⟩,⟨u6,u7⟩,⟨u8,u9⟩⟩:=kA.out;have n0:w.heap.size+1+1≠w.heap.size:=(by omega);have n1:w.heap.size+1+1≠w.heap.size+1:=(by omega);go_wp2_with fail;go_region_held3 (fun w'=>w'.cell? ⟨w.heap.size,0,none⟩=some (.slice a p.n c)/\w'.cell? ⟨w.heap.size,1,none⟩=some (.slice a' p.hn c')/\w'.cell? ⟨w.heap.size+1,0,none⟩=some (.int .i64 s.zRi)/\w'.cell? ⟨w.heap.size+1,1,none⟩=some (.slice ka s.kn kc)/\w'.cell? ⟨w.heap.size+1,2,none⟩=some (.string s.data)) (go_keep)
      (first
       | (go_at_call 160;refine(zKP _ _ _ lo hi lo' hi' i p s _ ?_ ?_ Hi.out.1 Hn.out).mono ?_;(exact Hp.out.zRX oA.drew);(exact Hs.out.zRX oA.drew);rintro e w5 ⟨s0,s1,rfl,bB,jB⟩;obtain⟨a5,c5,a6,c6,rfl,rfl⟩:=bB.form;have cA:=zK jB;obtain⟨⟨p0,p1⟩,⟨p2,p3⟩⟩:=kB.out.zRX cA;obtain⟨⟨p4,p5⟩,⟨p6,p7⟩,⟨p8,p9⟩⟩:=iB.out.zRX cA;obtain⟨⟨r0,r1⟩,⟨r2,r3⟩,⟨r4,r5⟩,⟨r6,r7⟩,⟨r8,r9⟩⟩:=kA.out.zRX cA))
     have pB:Hid (zy w5 w4.heap.size w5.heap.size (.slice a5 (yG p i s).n c5) (.slice a6 (yG p i s).hn c6) (yG p i s)):=bB;have rB:=zT (kA.out.zRX cA);have vB:=zA oA cA;clear bB jB cA;go_wp2;have nA:=rB.out.put (.slice a5 (yG p i s).n c5) (.slice a6 (yG p i s).hn c6) (.int .i64 (i:Int)) (.int .i64 s.zRi) (.int .i64 0);have bA:=zHV (R:=w.heap.size+1+1) (u2:=.int .i64 (i:Int)) (u3:=.int .i64 s.zRi) (u4:=.int .i64 0) pB.out (by omega) (by omega) (Nat.le_refl _) vB;rw[zHU HT.out Hi.out];exact bodyPost_ret (v:=.agg #[.slice a5 (yG p i s).n c5,.slice a6 (yG p i s).hn c6,.int .i64 (i:Int),.int .i64 s.zRi,.int .i64 0]) (by simp[results,Tryz.results100,go_sem,nA.1.1,nA.2.1.1,nA.2.2.1.1,nA.2.2.2.1.1,nA.2.2.2.2.1]) rfl ⟨_,_,rfl,bA.1,bA.2⟩
    ·have kA:=zT (fA.out.zRX dA);have oA:=zA jA dA;clear dA vA aB fA jA x0 x1 x2 x3;obtain⟨⟨u0,u1⟩,⟨u2,u3⟩,⟨u4,u5⟩,⟨u6,u7⟩,⟨u8,u9⟩⟩:=kA.out;go_wp2;have aA:=kA.out.put (.slice none 0 0) (.slice none 0 0) (.int .i64 0) (.int .i64 0) (.int .i64 6);have bA:=zCh (R:=w.heap.size+1+1) (u2:=.int .i64 0) (u3:=.int .i64 0) (u4:=.int .i64 6) (by omega) oA;rw[zEu HT.out nB];exact bodyPost_ret (v:=.agg #[.slice none 0 0,.slice none 0 0,.int .i64 0,.int .i64 0,.int .i64 6]) (by simp[results,Tryz.results100,go_sem,aA.1.1,aA.2.1.1,aA.2.2.1.1,aA.2.2.2.1.1,aA.2.2.2.2.1]) rfl ⟨_,_,rfl,bA.1,bA.2⟩
   ·have HT:=zT hT;obtain rfl:t=false:=zQ ht hT;clear ht hT;obtain⟨⟨u0,u1⟩,⟨u2,u3⟩,⟨u4,u5⟩,⟨u6,u7⟩,⟨u8,u9⟩⟩:=fA.out;go_wp2;have aA:=fA.out.put (.slice none 0 0) (.slice none 0 0) (.int .i64 0) (.int .i64 0) (.int .i64 1);have bA:=zCh (R:=w.heap.size+1+1) (u2:=.int .i64 0) (u3:=.int .i64 0) (u4:=.int .i64 1) (by omega) jA;rw[zGf (fun h=>HT.out h.2.2)];exact bodyPost_ret (v:=.agg #[.slice none 0 0,.slice none 0 0,.int .i64 0,.int .i64 0,.int .i64 1]) (by simp[results,Tryz.results100,go_sem,aA.1.1,aA.2.1.1,aA.2.2.1.1,aA.2.2.2.1.1,aA.2.2.2.2.1]) rfl ⟨_,_,rfl,bA.1,bA.2⟩
 ·have pA:=zT eA;obtain rfl:t=false:=zQ ht eA;clear ht eA;obtain⟨⟨u0,u1⟩,⟨u2,u3⟩,⟨u4,u5⟩,⟨u6,u7⟩,⟨u8,u9⟩⟩:=rA.out;go_wp2;have aA:=rA.out.put (.slice none 0 0) (.slice none 0 0) (.int .i64 0) (.int .i64 0) (.int .i64 1);have bA:=zCh (R:=w.heap.size+1+1) (u2:=.int .i64 0) (u3:=.int .i64 0) (u4:=.int .i64 1) (by omega) tA;rw[zGf (fun h=>pA.out h.1)];exact bodyPost_ret (v:=.agg #[.slice none 0 0,.slice none 0 0,.int .i64 0,.int .i64 0,.int .i64 1]) (by simp[results,Tryz.results100,go_sem,aA.1.1,aA.2.1.1,aA.2.2.1.1,aA.2.2.2.1.1,aA.2.2.2.2.1]) rfl ⟨_,_,rfl,bA.1,bA.2⟩
def mix(f g:Nat->Int)(j:Nat):Int:=if j % 2=0 then f (j / 2)else g (j / 2)
theorem zGo(f g:Nat->Int)(i:Nat):mix f g (i*2)=f i/\mix f g (i*2+1)=g i:=by
 unfold mix;rw[if_pos (by omega),if_neg (by omega),show i*2 / 2=i by omega,show(i*2+1) / 2=i by omega];exact⟨rfl,rfl⟩
def zEL(f g:Nat->Int):Prop:=∀i,i<8->Nil (f i) (g i)
theorem zMM(f g:Nat->Int):zGR (mix f g) (fun _=>0)=true↔zEL f g:=by
 rw[zH3];constructor
 ·intro h i hi;have:=h i hi;rw[(zGo f g i).1,(zGo f g i).2]at this;exact this
 ·intro h i hi;rw[(zGo f g i).1,(zGo f g i).2];exact h i hi
def zAh(f g:Nat->Int)(b:Int):zL:={zRi:=b,kn:=8,ks:=f,kb:=g,data:=⟨#[]⟩}
open Classical in
noncomputable def zFF(p:zI)(f g:Nat->Int)(b:Int):zDr:=if zEL f g then⟨p,0,0,0⟩else qw p (zAh f g b)
theorem zQL(w:World)(a0 a1:Value)(cs:Array Value)(t1 t2 t3:TypeId) :
  zc (((w.alloc (.cells #[a0,a1] t1)).alloc (.cells cs t2)).alloc (.cells #[.slice none 0 0,.slice none 0 0,.int .i64 0,.int .i64 0,.int .i64 0] t3)) w.heap.size a0 a1/\
  (((w.alloc (.cells #[a0,a1] t1)).alloc (.cells cs t2)).alloc (.cells #[.slice none 0 0,.slice none 0 0,.int .i64 0,.int .i64 0,.int .i64 0] t3)).heap[w.heap.size+1]?=some (.cells cs t2 (0,0))/\
  zDk (((w.alloc (.cells #[a0,a1] t1)).alloc (.cells cs t2)).alloc (.cells #[.slice none 0 0,.slice none 0 0,.int .i64 0,.int .i64 0,.int .i64 0] t3)) (w.heap.size+1+1) (.slice none 0 0) (.slice none 0 0) (.int .i64 0) (.int .i64 0) (.int .i64 0)/\
  Below w.heap.size w (((w.alloc (.cells #[a0,a1] t1)).alloc (.cells cs t2)).alloc (.cells #[.slice none 0 0,.slice none 0 0,.int .i64 0,.int .i64 0,.int .i64 0] t3))/\
  (((w.alloc (.cells #[a0,a1] t1)).alloc (.cells cs t2)).alloc (.cells #[.slice none 0 0,.slice none 0 0,.int .i64 0,.int .i64 0,.int .i64 0] t3)).heap.size=w.heap.size+3:=by
 refine⟨((zc.zRZ w a0 a1 t1).zRX (zC _ _)).zRX (zC _ _),?_,?_,zA (zA (zC _ _) (zC _ _)) (zC _ _),by simp⟩
 ·exact(zHB w (.cells #[a0,a1] t1) (.cells cs t2) _).1
 ·have:=zDk.zRZ ((w.alloc (.cells #[a0,a1] t1)).alloc (.cells cs t2)) (.slice none 0 0) (.slice none 0 0) (.int .i64 0) (.int .i64 0) (.int .i64 0) t3;rw[World.size_alloc,World.size_alloc]at this;exact this
theorem zKV(v0 v1:Value)(lo hi:Nat)(p:zI)(f g:Nat->Int)(b:Int)(w:World)(h1:zu w lo hi v0 v1 p)(hn:qC p+8<=1048576) :
  Calls Tryz.prog 161 #[.agg #[v0,v1],.agg (zp (mix f g)),.int .i64 b] w (zMy (zFF p f g b) w):=by
 have Hp:=zE h1;obtain⟨a,c,a',c',rfl,rfl⟩:=h1.form;have Hn:=zE hn;clear h1 hn;have cB:=zQL w (.slice a p.n c) (.slice a' p.hn c') (zp (mix f g)) 33 155 151;have eA:Hid ((Tryz.prog.info? 155).map (·.size)=some (zp (mix f g)).size):=by
  show _=_;rw[qB];exact zB4
 have jB:∀w,(binOp .eql 155 (.agg (zp (mix f g))) (.agg #[Value.int .i64 0,Value.int .i64 0,Value.int .i64 0,Value.int .i64 0,Value.int .i64 0,Value.int .i64 0,Value.int .i64 0,Value.int .i64 0,Value.int .i64 0,Value.int .i64 0,Value.int .i64 0,Value.int .i64 0,Value.int .i64 0,Value.int .i64 0,Value.int .i64 0,Value.int .i64 0])).run Tryz.prog w = .ok (.bool (zGR (mix f g) (fun _=>0))) w:=fun w=>zKU (mix f g) (fun _=>0) w
 go_enter Tryz.func161,Tryz.ntmps161;go_upto_region 1 with fail;generalize ((w.alloc (.cells #[.slice a p.n c,.slice a' p.hn c'] 33)).alloc (.cells (zp (mix f g)) 155)).alloc (.cells #[.slice none 0 0,.slice none 0 0,.int .i64 0,.int .i64 0,.int .i64 0] 151)=W at cB ⊢;obtain⟨hB,hA,hR,fA,hz⟩:=cB;have HA:=zE hA;have HB:=zE hB;have HR:=zE hR;clear hA hR;obtain⟨⟨x0,x1⟩,⟨x2,x3⟩⟩:=HB.out;by_cases hN:zEL f g
 ·have HN:=zE hN;have kB:=(zMM f g).2 hN;clear hN;go_wp2_with (first
   | (refine wpList_load_row rfl 155 (.tmp 4) rfl (w.heap.size+1) rfl 155 (zp (mix f g)) (0,0) _ HA.out zHQ rfl eA.out ?_)
   | fail)
  refine(zB1 _ _ lo hi p W (Hp.out.zRX fA) (by have:=Hn.out;omega)).mono ?_;rintro e w1 ⟨s0,s1,rfl,kA,jA⟩;obtain⟨a1,c1,a2,c2,rfl,rfl⟩:=kA.form;have eB:=zE kA;have mA:=zE (HR.out.zRX jA);have fB:=zA fA jA;have mB:=jA.size;clear kA jA fA x0 x1 x2 x3 hB;obtain⟨⟨u0,u1⟩,⟨u2,u3⟩,⟨u4,u5⟩,⟨u6,u7⟩,⟨u8,u9⟩⟩:=mA.out;go_wp2;have aA:=mA.out.put (.slice a1 p.n c1) (.slice a2 p.hn c2) (.int .i64 0) (.int .i64 0) (.int .i64 0);have gA:=zHV (R:=w.heap.size+1+1) (u2:=.int .i64 0) (u3:=.int .i64 0) (u4:=.int .i64 0) eB.out (by omega) (by omega) (Nat.le_refl _) fB;rw[show zFF p f g b=⟨p,0,0,0⟩from if_pos HN.out];exact bodyPost_ret (v:=.agg #[.slice a1 p.n c1,.slice a2 p.hn c2,.int .i64 0,.int .i64 0,.int .i64 0]) (by simp[results,Tryz.results161,go_sem,aA.1.1,aA.2.1.1,aA.2.2.1.1,aA.2.2.2.1.1,aA.2.2.2.2.1]) rfl ⟨_,_,rfl,gA.1,gA.2⟩
 ·have HN:=zE hN;have kB:zGR (mix f g) (fun _=>0)=false:=Bool.eq_false_iff.2 (fun h=>hN ((zMM f g).1 h));clear hN;have aB:=zA7 62 61 (.agg #[.int .i64 0,.int .i64 0]) 2 16 (by kernel_rfl) zJ1 rfl 8 (by omega) (by omega);have dB:∀w,(Instr.makeSlice 62 (.int .i64 8) (.int .i64 8)).run Tryz.prog w = .ok (.slice (some ⟨w.heap.size,0,none⟩) 8 8) (w.alloc (.cells (zA3 #[.int .i64 0,.int .i64 0] 8) 61)):=aB;clear aB;have nA:=zC W (.cells (zA3 #[.int .i64 0,.int .i64 0] 8) 61);have pA:=zC W (.cells (zp (mix f g)) 61);have iA:=zE pA;have sA:(W.alloc (.cells (zA3 #[.int .i64 0,.int .i64 0] 8) 61)).heap[w.heap.size+1]?=some (.cells (zp (mix f g)) 155 (0,0)):=(nA.block _ (by omega)).trans HA.out;have cA:Hid (∀ty,(Builtin.copy_ #[62,62] ty #[.slice (some ⟨W.heap.size,0,none⟩) 8 8,.slice (some ⟨w.heap.size+1,0,none⟩) 8 8]).run Tryz.prog (W.alloc (.cells (zA3 #[.int .i64 0,.int .i64 0] 8) 61)) = .ok (goInt 8) (W.alloc (.cells (zp (mix f g)) 61))):=by
   intro ty;have rA:(zA3 #[.int .i64 0,.int .i64 0] 8).size=16:=(by kernel_rfl);have hr:=zEl (P:=Tryz.prog) (W.alloc (.cells (zA3 #[.int .i64 0,.int .i64 0] 8) 61)) 62 62 ty 61 2 W.heap.size 0 8 8 ⟨w.heap.size+1,0,none⟩ 8 8 (zA3 #[.int .i64 0,.int .i64 0] 8) 61 (zp (mix f g)).toList (by kernel_rfl) zEZ (heap_alloc_last _ _) (by simp[zp]) (fun j v hj=>by
     have dA:j<16:=by
      have:=(List.getElem?_eq_some_iff.1 hj).1;simpa[qB]using this
     have e:(zp (mix f g)).toList[j]?=some (.int .i64 (mix f g j)):=(by rw[Array.getElem?_toList];exact yM (mix f g) dA);rw[e]at hj;simp only[Option.some.injEq]at hj;subst hj;rw[add_lit,Nat.zero_add];exact(zJ sA (yM (mix f g) dA)).1) (by rw[rA];simp[zp]) (fun v hv=>(Array.all_eq_true_iff_forall_mem.1 (zAt _)) v (by simpa using hv))
   have e0:((zA3 #[.int .i64 0,.int .i64 0] 8).toList.drop 16) = []:=List.drop_eq_nil_of_le (by simp[rA]);have e1:((zA3 #[.int .i64 0,.int .i64 0] 8).toList.take 0 ++ (zp (mix f g)).toList ++ (zA3 #[.int .i64 0,.int .i64 0] 8).toList.drop (0+(zp (mix f g)).toList.length)).toArray=zp (mix f g):=by
    have hl:(zp (mix f g)).toList.length=16:=(by simp[zp]);rw[hl,Nat.zero_add,e0];simp
   rw[e1,World.setRow_alloc_new]at hr;exact hr
  have Hz:=zE hz;clear pA sA nA hz;have gB:=cA.out 3;obtain⟨⟨x4,x5⟩,⟨x6,x7⟩⟩:=HB.out.zRX iA.out;go_wp2_with (first
   | (refine wpList_load_row rfl 155 (.tmp 4) rfl (w.heap.size+1) rfl 155 (zp (mix f g)) (0,0) _ HA.out zHQ rfl eA.out ?_)
   | fail)
  have HS:Hid (qG (W.alloc (.cells (zp (mix f g)) 61)) 0 (W.alloc (.cells (zp (mix f g)) 61)).heap.size (.int .i64 (zAh f g b).zRi) (.slice (some ⟨W.heap.size,0,none⟩) 8 8) (.string (zAh f g b).data) (zAh f g b)):=by
   refine⟨rfl,⟨by show 8<=maxLen;unfold maxLen;omega,_,8,rfl,Nat.le_refl _,fun _=>⟨W.heap.size,0,rfl,Nat.zero_le _,by simp,fun i hi=>?_⟩⟩,rfl,by show 0<=maxLen;omega⟩;have lB:i<8:=hi;have tA:(W.alloc (.cells (zp (mix f g)) 61)).heap[W.heap.size]?=some (.cells (zp (mix f g)) 61):=heap_alloc_last _ _;have g1:=(zJ tA (yM (mix f g) (show i*2<16 by omega))).1;have g2:=(zJ tA (yM (mix f g) (show i*2+1<16 by omega))).1;rw[(zGo f g i).1]at g1;rw[(zGo f g i).2]at g2;rw[Nat.zero_add];exact⟨g1,g2⟩
  refine(zDT _ _ _ lo hi 0 _ p (zAh f g b) _ (Hp.out.zRX (zA fA iA.out)) HS.out (by show qC p+(8+0)<=_;exact Hn.out)).mono ?_;rintro e w3 ⟨s0,s1,rfl,vA,bB⟩;have bA:=zA iA.out bB;have hz:=Hz.out;have oA:=zE (HR.out.zRX bA);have iB:=zA fA bA;have nB:=bA.size;have He:Hid (zFF p f g b=qw p (zAh f g b)):=if_neg HN.out;have lA:Hid (zy w3 W.heap.size w3.heap.size s0 s1 (qw p (zAh f g b)).zRd):=vA.zRc iA.out.size (Nat.le_refl _);generalize qw p (zAh f g b)=o at lA He ⊢;obtain⟨a1,c1,a2,c2,rfl,rfl⟩:=lA.out.form;clear vA bB bA x0 x1 x2 x3 x4 x5 x6 x7 hB HS cA gB;obtain⟨⟨u0,u1⟩,⟨u2,u3⟩,⟨u4,u5⟩,⟨u6,u7⟩,⟨u8,u9⟩⟩:=oA.out;go_wp2;have aA:=oA.out.put (.slice a1 o.zRd.n c1) (.slice a2 o.zRd.hn c2) (.int .i64 o.ps) (.int .i64 o.pb) (.int .i64 o.code);have gA:=zHV (R:=w.heap.size+1+1) (u2:=.int .i64 o.ps) (u3:=.int .i64 o.pb) (u4:=.int .i64 o.code) lA.out (by omega) (by omega) (Nat.le_refl _) iB;rw[He.out];exact bodyPost_ret (v:=.agg #[.slice a1 o.zRd.n c1,.slice a2 o.zRd.hn c2,.int .i64 o.ps,.int .i64 o.pb,.int .i64 o.code]) (by simp[results,Tryz.results161,go_sem,aA.1.1,aA.2.1.1,aA.2.2.1.1,aA.2.2.2.1.1,aA.2.2.2.2.1]) rfl ⟨_,_,rfl,gA.1,gA.2⟩
def zBF(f g:Nat->Int)(n:Nat):List (Int×Int):=(List.range n).map fun i=>(f i,g i)
theorem yE(f g:Nat->Int)(n:Nat):(zBF f g n).length=n:=by simp[zBF]
theorem zOV(f g:Nat->Int)(n:Nat):zBF f g (n+1)=zBF f g n ++ [(f n,g n)]:=by simp[zBF,List.range_succ]
theorem zKn(f g:Nat->Int){n i:Nat}(h:i<n):zf (zBF f g n) i=f i/\zh (zBF f g n) i=g i:=by
 have:(zBF f g n).getD i (0,0)=(f i,g i):=by
  rw[List.getD_eq_getElem?_getD,List.getElem?_eq_getElem (by rw[yE];exact h),Option.getD_some];simp[zBF]
 unfold zf zh;rw[this];exact⟨rfl,rfl⟩
theorem zHw{f g f' g':Nat->Int}{n:Nat}(h:∀i,i<n->f i=f' i/\g i=g' i):zBF f g n=zBF f' g' n:=by
 unfold zBF;apply List.map_congr_left;intro i hi;rw[List.mem_range]at hi;rw[(h i hi).1,(h i hi).2]
theorem zJI{w:World}{b off:Nat}{f g:Nat->Int}:∀{n:Nat},(∀i,i<n->w.cell? ⟨b,off+i*2,none⟩=some (.int .i64 (f i))/\w.cell? ⟨b,off+i*2+1,none⟩=some (.int .i64 (g i)))->∀j u,(pcl (zBF f g n))[j]?=some u->w.cell? ⟨b,off+j,none⟩=some u
 | 0,_,j,u,hj=>by simp[zBF,pcl]at hj
 | n+1,h,j,u,hj=>by
  rw[zOV,zBD]at hj;by_cases aA:j<n*2
  ·rw[List.getElem?_append_left (by rw[zA5,yE];exact aA)]at hj;exact zJI (fun i hi=>h i (by omega)) j u hj
  ·rw[List.getElem?_append_right (by rw[zA5,yE];omega),zA5,yE]at hj;obtain⟨h1,h2⟩:=h n (Nat.lt_succ_self n);have bA:j - n*2<2:=by
    have:=(List.getElem?_eq_some_iff.1 hj).1;simpa[pcl]using this
   by_cases e:j=n*2
   ·subst e;rw[h1];simpa[pcl]using hj
   ·obtain rfl:j=n*2+1:=(by omega);rw[show n*2+1 - n*2=1 by omega]at hj;rw[<-Nat.add_assoc,h2];simpa[pcl]using hj
def yp(p:zI)(xs xb:Int)(i:Nat):Int:=if Nil xs xb then 0 else zb (p.s xs.toNat) i
def zAI(p:zI)(xs xb:Int)(i:Nat):Int:=if Nil xs xb then 0 else zt (p.s xs.toNat) i
theorem zO4:pcl (zBF (fun _=>0) (fun _=>0) 8)=(zA3 #[.int .i64 0,.int .i64 0] 8).toList:=by kernel_rfl
theorem zDB(v0 v1:Value)(lo hi:Nat)(p:zI)(xs xb:Int)(w:World)(h1:zu w lo hi v0 v1 p)(hP:Nil xs xb\/(zr p xs xb/\(p.s xs.toNat).kn=8)) :
  Calls Tryz.prog 85 #[.agg #[v0,v1],.agg #[.int .i64 xs,.int .i64 xb]] w fun e w'=>∃b cp,e = .returned (.slice (some ⟨b,0,none⟩) 8 cp)/\zw w' w.heap.size (.slice (some ⟨b,0,none⟩) 8 cp) (zBF (yp p xs xb) (zAI p xs xb) 8)/\Below w.heap.size w w':=by
 have Hp:=zE h1;have HP:=zE hP;obtain⟨a,c,a',c',rfl,rfl⟩:∃a c a' c',v0 = .slice a p.n c/\v1 = .slice a' p.hn c':=by
  obtain⟨⟨_,a,c,h1,_⟩,⟨_,a',c',h3,_⟩⟩:=h1;exact⟨a,c,a',c',h1,h3⟩
 clear h1 hP;have aB:=zB2 w (.slice a p.n c) (.slice a' p.hn c') (.int .i64 xs) (.int .i64 xb) 33 61;obtain⟨i0,pA,lA⟩:=Option.map_eq_some_iff.1 zA1;simp only[Prod.mk.injEq]at lA;have HI:=zE (And.intro pA lA);clear pA lA;go_enter Tryz.func85,Tryz.ntmps85;go_wp2_with fail;generalize (w.alloc (.cells #[.slice a p.n c,.slice a' p.hn c'] 33)).alloc (.cells #[.int .i64 xs,.int .i64 xb] 61)=W at aB ⊢;obtain⟨hB,hX,tA,hz⟩:=aB;refine(zAD xs xb W).mono ?_;rintro e w1 ⟨⟨t,rfl,ht⟩,dA⟩;have nA:=zE (hB.zRX dA);have vA:=zE (hX.zRX dA);have oA:=zA tA dA;have lB:w.heap.size+2<=w1.heap.size:=by have:=dA.size;omega
 clear hB hX tA dA hz;by_cases hn:Nil xs xb
 ·have HN:=zE hn;obtain rfl:t=true:=ht.2 hn;clear ht hn;have sA:=zA7 62 61 (.agg #[.int .i64 0,.int .i64 0]) 2 16 (by kernel_rfl) zJ1 rfl 8 (by omega) (by omega);have bB:∀w,(Instr.makeSlice 62 (.int .i64 8) (.int .i64 8)).run Tryz.prog w = .ok (.slice (some ⟨w.heap.size,0,none⟩) 8 8) (w.alloc (.cells (zA3 #[.int .i64 0,.int .i64 0] 8) 61)):=sA;clear sA;have eA:=World.ownsRow_lit (e:=61) (size:=2) (base:=w.heap.size) w1 (zA3 #[.int .i64 0,.int .i64 0] 8) 8 (by omega) (by unfold maxLen;omega) (by decide +kernel);have cB:=zA oA (zC w1 (.cells (zA3 #[.int .i64 0,.int .i64 0] 8) 61));have cA:=zE eA;clear eA;go_wp2;go_ret;refine⟨_,_,rfl,?_,cB⟩;have e0:zBF (yp p xs xb) (zAI p xs xb) 8=zBF (fun _=>0) (fun _=>0) 8:=zHw (fun i _=>⟨if_pos HN.out,if_pos HN.out⟩);unfold zw;rw[e0,zO4,yE];exact cA.out
 ·have HN:=zE hn;obtain rfl:t=false:=zQ ht hn;clear ht hn;obtain⟨mA,h8⟩:=HP.out.resolve_left HN.out;have fA:Hid (zBF (yp p xs xb) (zAI p xs xb) 8=zBF (p.s xs.toNat).ks (p.s xs.toNat).kb 8):=zHw (fun i hi=>⟨(if_neg HN.out).trans (zC7 h8 hi),(if_neg HN.out).trans (zEp h8 hi)⟩);obtain⟨k,rfl⟩:=Int.eq_ofNat_of_zero_le mA.2.1;have hk:k<p.n:=(by have:=mA.2.2.1;omega);have kB:(k:Int)<(p.n:Int):=(by omega);rw[Int.toNat_natCast]at h8 fA;clear mA HP;obtain⟨b,off,ka,kc,rfl,kA⟩:=Hp.out.1.cells hk;have rA:Hid (zU w lo hi (.slice ka 8 kc) 8 (p.s k).ks (p.s k).kb):=(by have:=kA.slot.2.1;rw[h8]at this;exact this);have gA:=zC w1 (.cells #[] 61);have iA:=zA oA gA;obtain⟨q0,q1,q2,_⟩:=kA.zRX iA;rw[h8]at q1;have fB:=zE (nA.out.zRX gA);have iB:=zE (vA.out.zRX gA);have cA:=zE (World.ownsRow_lit (e:=61) (size:=2) (base:=w.heap.size) w1 #[] 0 (by omega) (by unfold maxLen;omega) rfl);have mB:(w1.alloc (.cells #[] 61)).heap.size=w1.heap.size+1:=World.size_alloc _ _;obtain⟨⟨x0,x1⟩,⟨x2,x3⟩⟩:=fB.out;obtain⟨⟨y0,y1⟩,⟨y2,y3⟩⟩:=iB.out;have dB:=zE (rA.out.zRX iA);clear gA kA nA vA h8 rA;go_wp2_with (first
   | (at_builtin;refine qJ rfl _ _ 62 rfl w.heap.size 61 i0 (.agg #[.int .i64 0,.int .i64 0]) 2 16 (by kernel_rfl) HI.out.1 HI.out.2.1 HI.out.2.2.1 HI.out.2.2.2 rfl (by decide) (.slice (some ⟨w1.heap.size,0,none⟩) 0 0) 0 [] rfl ?c0 ka 8 kc (pcl (zBF (p.s k).ks (p.s k).kb 8)) rfl (by rw[zA5,yE]) (zFo _) ?c1 ?c3 ?c4 ?c5 ?_)
   | fail)
  case c0=>exact cA.out
  case c1=>
   intro h0;obtain⟨_,a2,c2,hv,_,hx⟩:=dB.out;simp only[Value.slice.injEq,true_and]at hv;obtain⟨rfl,rfl⟩:=hv;obtain⟨kb,jA,ha,_,_,h3⟩:=hx (by omega);exact⟨kb,jA,ha,zJI h3⟩
  case c3=>unfold maxLen;omega
  case c4=>omega
  case c5=>omega
  intro v3 w3 aA bA;obtain⟨g3,jB,rfl,_⟩:=World.ownsRow.form aA (by omega);have gB:Hid (zw w3 w.heap.size (.slice (some ⟨g3,0,none⟩) 8 jB) (zBF (yp p k xb) (zAI p k xb) 8)):=by
   unfold zw;rw[fA.out,yE];exact aA
  have eB:=iA.grown bA iA.size (fun q hq=>by simp only[Value.ownBlock,Option.some.injEq]at hq;omega);clear aA bA;go_wp2;go_ret;exact⟨_,_,rfl,gB.out,eB⟩
def zKB(p:zI)(xs xb:Int):Prop:=Nil xs xb\/(zr p xs xb/\(p.s xs.toNat).kn=8)
theorem zKa{p:zI}{xs xb:Int}(h:qp p xs xb):zKB p xs xb:=by
 rcases h.2 with h2 | h2
 ·exact Or.inl h2
 ·right;refine⟨h2.1.1,?_⟩;rcases zDb h.1 h2.1.1 with h3 | h3
  ·have:=h2.1.2.1;omega
  ·exact h3
theorem zKu{p:zI}{xs xb:Int}(h:qp p xs xb){j:Nat}(hj:j<8):zKB p (yp p xs xb j) (zAI p xs xb j):=by
 by_cases hz:Nil xs xb
 ·left;unfold yp zAI;rw[if_pos hz,if_pos hz];exact⟨rfl,rfl⟩
 ·unfold yp zAI;rw[if_neg hz,if_neg hz];rcases(h.2.resolve_left hz).2.1.1 j hj with h2 | h2
  ·exact Or.inl h2
  ·right;refine⟨h2.1.1,?_⟩;rcases zDb h.1 h2.1.1 with h3 | h3
   ·have:=h2.1.2.1;omega
   ·exact h3
def yO(p:zI)(xs xb:Int)(n:Nat):Int:=yp p xs xb (n / 8)
def yj(p:zI)(xs xb:Int)(n:Nat):Int:=zAI p xs xb (n / 8)
def zAB(p:zI)(xs xb:Int)(n:Nat):Int:=yp p (yO p xs xb n) (yj p xs xb n) (n % 8)
def yx(p:zI)(xs xb:Int)(n:Nat):Int:=zAI p (yO p xs xb n) (yj p xs xb n) (n % 8)
theorem zNV{p:zI}{xs xb:Int}(h:qp p xs xb){n:Nat}(hn:n<64):Nil (zAB p xs xb n) (yx p xs xb n)\/zBj p (zAB p xs xb n) (yx p xs xb n):=by
 by_cases hz:Nil xs xb
 ·left;have e:Nil (yO p xs xb n) (yj p xs xb n):=(by unfold yO yj yp zAI;rw[if_pos hz,if_pos hz];exact⟨rfl,rfl⟩);unfold zAB yx yp zAI;rw[if_pos e,if_pos e];exact⟨rfl,rfl⟩
 ·have e1:yO p xs xb n=zb (p.s xs.toNat) (n / 8):=if_neg hz;have e2:yj p xs xb n=zt (p.s xs.toNat) (n / 8):=if_neg hz;by_cases aA:Nil (yO p xs xb n) (yj p xs xb n)
  ·left;unfold zAB yx yp zAI;rw[if_pos aA,if_pos aA];exact⟨rfl,rfl⟩
  ·have e3:zAB p xs xb n=zb (p.s (yO p xs xb n).toNat) (n % 8):=if_neg aA;have e4:yx p xs xb n=zt (p.s (yO p xs xb n).toNat) (n % 8):=if_neg aA;rw[e3,e4];rcases(h.2.resolve_left hz).2.1.1 (n / 8) (by omega)with h2 | h2
   ·rw[<-e1,<-e2]at h2;exact absurd h2 aA
   ·have:=h2.2.1 (n % 8) (by omega);rw[<-e1]at this;exact this
theorem zQ8(w:World)(a0 a1 x0 x1:Value)(t1 t2:TypeId) :
  zc ((((w.alloc (.cells #[a0,a1] t1)).alloc (.cells #[x0,x1] t2)).alloc (.cells #[.int .i64 0,.int .i64 0] t2)).alloc (.cells #[.int .i64 0,.int .i64 0] t2)) w.heap.size a0 a1/\
  zc ((((w.alloc (.cells #[a0,a1] t1)).alloc (.cells #[x0,x1] t2)).alloc (.cells #[.int .i64 0,.int .i64 0] t2)).alloc (.cells #[.int .i64 0,.int .i64 0] t2)) (w.heap.size+1) x0 x1/\
  zc ((((w.alloc (.cells #[a0,a1] t1)).alloc (.cells #[x0,x1] t2)).alloc (.cells #[.int .i64 0,.int .i64 0] t2)).alloc (.cells #[.int .i64 0,.int .i64 0] t2)) (w.heap.size+2) (.int .i64 0) (.int .i64 0)/\
  zc ((((w.alloc (.cells #[a0,a1] t1)).alloc (.cells #[x0,x1] t2)).alloc (.cells #[.int .i64 0,.int .i64 0] t2)).alloc (.cells #[.int .i64 0,.int .i64 0] t2)) (w.heap.size+2+1) (.int .i64 0) (.int .i64 0)/\
  Below w.heap.size w ((((w.alloc (.cells #[a0,a1] t1)).alloc (.cells #[x0,x1] t2)).alloc (.cells #[.int .i64 0,.int .i64 0] t2)).alloc (.cells #[.int .i64 0,.int .i64 0] t2))/\
  ((((w.alloc (.cells #[a0,a1] t1)).alloc (.cells #[x0,x1] t2)).alloc (.cells #[.int .i64 0,.int .i64 0] t2)).alloc (.cells #[.int .i64 0,.int .i64 0] t2)).heap.size=w.heap.size+4:=by
 obtain⟨h1,h2,h3,h4⟩:=zB2 w a0 a1 x0 x1 t1 t2;generalize (w.alloc (.cells #[a0,a1] t1)).alloc (.cells #[x0,x1] t2)=W at h1 h2 h3 h4 ⊢;have b1:=zC W (.cells #[.int .i64 0,.int .i64 0] t2);have b2:=zC (W.alloc (.cells #[.int .i64 0,.int .i64 0] t2)) (.cells #[.int .i64 0,.int .i64 0] t2);have n1:=(zc.zRZ W (.int .i64 0) (.int .i64 0) t2).zRX b2;have n2:=zc.zRZ (W.alloc (.cells #[.int .i64 0,.int .i64 0] t2)) (.int .i64 0) (.int .i64 0) t2;rw[h4]at n1;rw[World.size_alloc,h4]at n2;exact⟨(h1.zRX b1).zRX b2,(h2.zRX b1).zRX b2,n1,n2,zA (zA h3 b1) b2,by rw[World.size_alloc,World.size_alloc,h4]⟩
theorem yQ(w:World)(b:Nat)(u v:Value):zF (fun k=>k=b) w ((w.setCell ⟨b,0,none⟩ u).setCell ⟨b,1,none⟩ v):=((zF.refl (fun k=>k=b) w).setCell (p:=⟨b,0,none⟩) rfl u).setCell (p:=⟨b,1,none⟩) rfl v
theorem zPA{w:World}{base g cp:Nat}{f h:Nat->Int}(hr:zw w base (.slice (some ⟨g,0,none⟩) 8 cp) (zBF f h 8)){i:Nat}(hi:i<8):w.cell? ⟨g,i*2,none⟩=some (.int .i64 (f i))/\w.cell? ⟨g,i*2+1,none⟩=some (.int .i64 (h i)):=by
 obtain⟨b,bA,e,_,_,_,aA⟩:=qY hr (by rw[yE];omega);simp only[Value.slice.injEq,Option.some.injEq,Addr.mk.injEq,and_true]at e;obtain⟨rfl,_⟩:=e;have h1:=(aA _ _ (zBT (zBF f h 8) i (by rw[yE];exact hi)).1).1;have h2:=(aA _ _ (zBT (zBF f h 8) i (by rw[yE];exact hi)).2).1;have:=zKn f h hi;unfold zf zh at this;rw[this.1]at h1;rw[this.2]at h2;exact⟨h1,h2⟩
theorem zL3(v0 v1:Value)(lo hi:Nat)(p:zI)(xs xb:Int)(n:Nat)(w:World)(h1:zu w lo hi v0 v1 p)(hT:qp p xs xb)(hn:n<64) :
  Calls Tryz.prog 83 #[.agg #[v0,v1],.agg #[.int .i64 xs,.int .i64 xb],.int .i64 (n:Int)] w fun e w'=>e = .returned (.tuple #[.agg #[.int .i64 (zAB p xs xb n),.int .i64 (yx p xs xb n)],.agg #[.int .i64 (yO p xs xb n),.int .i64 (yj p xs xb n)]])/\Below w.heap.size w w':=by
 have Hp:=zE h1;have HT:=zE hT;obtain⟨a,c,a',c',rfl,rfl⟩:∃a c a' c',v0 = .slice a p.n c/\v1 = .slice a' p.hn c':=by
  obtain⟨⟨_,a,c,h1,_⟩,⟨_,a',c',h3,_⟩⟩:=h1;exact⟨a,c,a',c',h1,h3⟩
 clear h1 hT;have pA:=zQ8 w (.slice a p.n c) (.slice a' p.hn c') (.int .i64 xs) (.int .i64 xb) 33 61;have hq:(n:Int).tdiv 8=((n / 8:Nat):Int):=(Int.ofNat_tdiv n 8).symm;have hr:(n:Int).tmod 8=((n % 8:Nat):Int):=(Int.ofNat_tmod n 8).symm;have bB:((n / 8:Nat):Int)<8:=by omega
 have eB:((n % 8:Nat):Int)<8:=by omega
 have cB:(n:Int)<64:=by omega
 have vA:0<=(n:Int) % 8:=by omega
 have dB:(n:Int) % 8<8:=by omega
 have aB:((n:Int) % 8).toNat=n % 8:=by omega
 go_enter Tryz.func83,Tryz.ntmps83;go_wp2_with fail;generalize ((((w.alloc (.cells #[.slice a p.n c,.slice a' p.hn c'] 33)).alloc (.cells #[.int .i64 xs,.int .i64 xb] 61)).alloc (.cells #[.int .i64 0,.int .i64 0] 61)).alloc (.cells #[.int .i64 0,.int .i64 0] 61))=W0 at pA ⊢;obtain⟨hB,hX,oA,nA,dA,hz⟩:=pA;refine(zDB _ _ lo hi p xs xb W0 (Hp.out.zRX dA) (zKa HT.out)).mono ?_;rintro e w1 ⟨g,cp,rfl,fA,iA⟩;obtain⟨q0,q1⟩:=zPA fA (show n / 8<8 by omega);have mA:=zC w1 (.cells #[.int .i64 (yp p xs xb (n / 8)),.int .i64 (zAI p xs xb (n / 8))] 61);have hC:=zA iA mA;have cA:=zE (hB.zRX hC);have kA:=zE (oA.zRX hC);have lA:=zE (nA.zRX hC);have bA:=zE (show zc (w1.alloc (.cells #[.int .i64 (yp p xs xb (n / 8)),.int .i64 (zAI p xs xb (n / 8))] 61)) w1.heap.size (.int .i64 (yO p xs xb n)) (.int .i64 (yj p xs xb n))from zc.zRZ w1 _ _ _);have gA:=zA dA hC;have rA:=zE (show zKB p (yO p xs xb n) (yj p xs xb n)from zKu HT.out (by omega));have sA:w.heap.size+4<=w1.heap.size:=by have:=iA.size;omega
 clear fA iA mA hC hB hX oA nA dA hz;have jA:w1.heap.size<(w1.alloc (.cells #[.int .i64 (yp p xs xb (n / 8)),.int .i64 (zAI p xs xb (n / 8))] 61)).heap.size:=by rw[World.size_alloc];omega
 go_wp2_with fail;generalize w1.alloc (.cells #[.int .i64 (yp p xs xb (n / 8)),.int .i64 (zAI p xs xb (n / 8))] 61)=W at cA kA lA bA gA jA ⊢;clear q0 q1;generalize w1.heap.size=X at bA sA jA ⊢;obtain⟨⟨x0,x1⟩,⟨x2,x3⟩⟩:=cA.out;obtain⟨⟨y0,y1⟩,⟨y2,y3⟩⟩:=bA.out;refine wp_region_held_drew (S:=(fun w'=>w'.cell? ⟨w.heap.size,0,none⟩=some (.slice a p.n c)/\w'.cell? ⟨w.heap.size,1,none⟩=some (.slice a' p.hn c')/\w'.cell? ⟨X,0,none⟩=some (.int .i64 (yO p xs xb n))/\w'.cell? ⟨X,1,none⟩=some (.int .i64 (yj p xs xb n)))) (by kernel_rfl) ?_ (fun hHeld=>?_)
 ·(try dsimp only)
  go_keep
 refine tk 0 (h:=tk 1 (h:=tk 3 (h:=tk 4 (h:=tk 7 (h:=?_)))));refine rd [2] (rc (fun K hK=>?_) .nil);go_simp;go_at_call 85;refine(zDB _ _ lo hi p (yO p xs xb n) (yj p xs xb n) _ ?_ rA.out).mono ?_
 ·first | exact Hp.out.zRX gA | exact Hp.out.zRX gA.drew
 rintro e wa ⟨g2,fB,rfl,eA,dA⟩;have aA:Below W.heap.size W wa:=(by first | exact dA | exact zK dA);obtain⟨⟨k0,_⟩,⟨k1,_⟩⟩:=cA.out.zRX aA;obtain⟨⟨k2,_⟩,⟨k3,_⟩⟩:=bA.out.zRX aA;obtain⟨r0,r1⟩:=zPA eA (show n % 8<8 by omega);obtain⟨⟨l0,l1⟩,⟨l2,l3⟩⟩:zc wa (w.heap.size+1+1) (.int .i64 0) (.int .i64 0):=kA.out.zRX aA;obtain⟨⟨m0,m1⟩,⟨m2,m3⟩⟩:zc wa (w.heap.size+1+1+1) (.int .i64 0) (.int .i64 0):=lA.out.zRX aA
 (try go_wp2_with fail)
 refine hK.out _ _ (by(try dsimp only);go_keep) ?_;clear hK K hHeld;intro hHeld
 try simp only[Act.put,s1,s2,s3]
 refine tk 5 (h:=?_);refine rd [6] (rc (fun K hK=>?_) .nil);go_simp
 (try go_wp2_with fail)
 refine hK.out _ _ (by(try dsimp only);go_keep) ?_;clear hK K hHeld;intro hHeld
 try simp only[Act.put,s1,s2,s3]
 refine rd [8] (rc (fun K hK=>?_) .nil);go_simp
 (try go_wp2_with fail)
 refine hK.out _ _ (by(try dsimp only);exact⟨((cA.out.zRX aA).zRf (yQ _ _ _ _) (by omega)).1.1,((cA.out.zRX aA).zRf (yQ _ _ _ _) (by omega)).2.1,((bA.out.zRX aA).zRf (yQ _ _ _ _) (by omega)).1.1,((bA.out.zRX aA).zRf (yQ _ _ _ _) (by omega)).2.1⟩) ?_;clear hK K hHeld;intro hHeld
 try simp only[Act.put,s1,s2,s3]
 refine rd [9] (rc (fun K hK=>?_) .nil);go_simp
 (try go_wp2_with fail)
 refine hK.out _ _ (by(try dsimp only);exact⟨(((cA.out.zRX aA).zRf (yQ _ _ _ _) (by omega)).zRf (yQ _ _ _ _) (by omega)).1.1,(((cA.out.zRX aA).zRf (yQ _ _ _ _) (by omega)).zRf (yQ _ _ _ _) (by omega)).2.1,(((bA.out.zRX aA).zRf (yQ _ _ _ _) (by omega)).zRf (yQ _ _ _ _) (by omega)).1.1,(((bA.out.zRX aA).zRf (yQ _ _ _ _) (by omega)).zRf (yQ _ _ _ _) (by omega)).2.1⟩) ?_;clear hK K hHeld;intro hHeld
 try simp only[Act.put,s1,s2,s3]
 refine wpAnyH_done (by kernel_rfl) ?_ _;have tA:Below w.heap.size w wa:=zA gA aA;go_wp2;refine bodyPost_ret (v:=.tuple #[.agg #[.int .i64 (zAB p xs xb n),.int .i64 (yx p xs xb n)],.agg #[.int .i64 (yO p xs xb n),.int .i64 (yj p xs xb n)]]) (by simp[results,Tryz.results83,go_sem,l0,l2,m0,m2,zAB,yx]) rfl ⟨rfl,?_⟩;exact(((tA.setCell (by show w.heap.size<=w.heap.size+1+1;omega) _).setCell (by show w.heap.size<=w.heap.size+1+1;omega) _).setCell (by show w.heap.size<=w.heap.size+1+1+1;omega) _).setCell (by show w.heap.size<=w.heap.size+1+1+1;omega) _
def hop(J:Nat->Act->World->Prop)(Q:Exit->Act->World->Prop):Exit->Act->World->Prop
 | .goto l,a,w=>J l a w
 | e,a,w=>Q e a w
def JU(P:Program)(c:Code)(Q:Exit->Act->World->Prop):Nat->Nat->Act->World->Prop
 | 0,_,_,_=>False
 | n+1,l,a,w=>∃rest,findLabel c l=some rest/\rest.wp P (hop (JU P c Q n) Q) a w
theorem zIw{P:Program}{a:Act}{w:World}{Q:Exit->Act->World->Prop}{c:Code}(n:Nat)(first:c.wp P (hop (JU P c Q n) Q) a w):(Code.scope c).wp P Q a w:=by
 intro b k cs;have key:∀n l cA a w,findLabel c l=some cA->cA.wp P (hop (JU P c Q n) Q) a w->∃e a' w',Q e a' w'/\Arrives P (lone (b.at a (.code cA :: .inScope c :: k)) cs w) b k cs e a' w':=by
  intro n
  induction n with
  | zero=>
   intro l cA a w hf hw;obtain⟨e,a₁,w₁,hq,aA⟩:=hw b (.inScope c :: k) cs;cases e with
   | normal=>exact⟨.normal,a₁,w₁,hq,Steps.trans aA (.one step_inScope)⟩
   | exit id=>exact⟨.exit id,a₁,w₁,hq,fun k' hk=>aA k' (by simp[exitTo,hk])⟩
   | goto l'=>exact False.elim hq
   | ret=>exact⟨_,a₁,w₁,hq,aA⟩
   | panic ch=>exact⟨_,a₁,w₁,hq,aA⟩
   | outgrown=>exact⟨_,a₁,w₁,hq,aA⟩
  | succ n ih=>
   intro l cA a w hf hw;obtain⟨e,a₁,w₁,hq,aA⟩:=hw b (.inScope c :: k) cs;cases e with
   | normal=>exact⟨.normal,a₁,w₁,hq,Steps.trans aA (.one step_inScope)⟩
   | exit id=>exact⟨.exit id,a₁,w₁,hq,fun k' hk=>aA k' (by simp[exitTo,hk])⟩
   | goto l'=>
    obtain⟨bA,eA,gA⟩:=hq;obtain⟨e₂,a₂,w₂,fA,dA⟩:=ih l' bA a₁ w₁ eA gA;have hg:gotoIn l' (.inScope c :: k)=some (.code bA :: .inScope c :: k):=(by simp[gotoIn,eA]);exact⟨e₂,a₂,w₂,fA,.of_steps (aA _ hg) dA⟩
   | ret=>exact⟨_,a₁,w₁,hq,aA⟩
   | panic ch=>exact⟨_,a₁,w₁,hq,aA⟩
   | outgrown=>exact⟨_,a₁,w₁,hq,aA⟩
 obtain⟨e,a₁,w₁,hq,aA⟩:=first b (.inScope c :: k) cs
 cases e with
 | normal=>exact⟨.normal,a₁,w₁,hq,.head step_scope (Steps.trans aA (.one step_inScope))⟩
 | exit id=>exact⟨.exit id,a₁,w₁,hq,fun k' hk=>.head step_scope (aA k' (by simp[exitTo,hk]))⟩
 | goto l'=>
  match n,hq with
  | n+1,hq=>
   obtain⟨bA,eA,gA⟩:=hq;obtain⟨e₂,a₂,w₂,fA,dA⟩:=key n l' bA a₁ w₁ eA gA;have hg:gotoIn l' (.inScope c :: k)=some (.code bA :: .inScope c :: k):=(by simp[gotoIn,eA]);exact⟨e₂,a₂,w₂,fA,.of_steps (.head step_scope (aA _ hg)) dA⟩
 | ret=>exact⟨_,a₁,w₁,hq,.of_steps (.one step_scope) aA⟩
 | panic ch=>exact⟨_,a₁,w₁,hq,.of_steps (.one step_scope) aA⟩
 | outgrown=>exact⟨_,a₁,w₁,hq,.of_steps (.one step_scope) aA⟩
def zPR:Array Value:=#[.int .i64 0,.int .i64 0,.int .i64 0,.int .i64 0,.int .i64 0,.int .i64 0,.int .i64 0,.int .i64 0,.int .i64 0,.int .i64 0,.int .i64 0,.int .i64 0,.int .i64 0,.int .i64 0,.int .i64 0,.int .i64 0,.int .i64 0,.int .i64 0,.int .i64 0,.int .i64 0,.int .i64 0,.int .i64 0,.int .i64 0,.int .i64 0,.int .i64 0,.int .i64 0,.int .i64 0,.int .i64 0,.int .i64 0,.int .i64 0,.int .i64 0,.int .i64 0,.int .i64 0,.int .i64 0,.int .i64 0,.int .i64 0,.int .i64 0,.int .i64 0,.int .i64 0,.int .i64 0,.slice none 0 0]
def zHi(n:Nat):Array Value:=#[.int .i64 ((n:Int) / 8),.int .i64 ((n:Int) % 8),.int .i64 0,.int .i64 0,.int .i64 0,.int .i64 0,.int .i64 0,.int .i64 0,.int .i64 0,.int .i64 0,.int .i64 0,.int .i64 0,.int .i64 0,.int .i64 0,.int .i64 0,.int .i64 0,.int .i64 0,.int .i64 0,.int .i64 0,.int .i64 0,.int .i64 0,.int .i64 0,.int .i64 0,.int .i64 0,.int .i64 0,.int .i64 0,.int .i64 0,.int .i64 0,.int .i64 0,.int .i64 0,.int .i64 0,.int .i64 0,.int .i64 0,.int .i64 0,.int .i64 0,.int .i64 0,.int .i64 0,.int .i64 0,.int .i64 0,.int .i64 0,.slice none 0 0]
theorem zKy:(Tryz.prog.info? 159).map (·.size)=some 41:=by kernel_rfl
theorem zO8(n:Nat):(Tryz.prog.info? 159).map (·.size)=some (zHi n).size:=zKy
theorem zP1(n:Nat):(zHi n).all (·.oneCell')=true:=by simp[zHi,Value.oneCell']
def yL(w:World)(B:Nat)(f:Nat->Value):Prop:=∀i,i<41->zW w B i (f i)
theorem yL.zRX{w w':World}{B:Nat}{f:Nat->Value}(h:yL w B f)(t:Below w.heap.size w w'):yL w' B f:=fun i hi=>(h i hi).zRX t
theorem yL.zRf{S:Nat->Prop}{w w':World}{B:Nat}{f:Nat->Value}(h:yL w B f)(t:zF S w w')(hs:¬S B):yL w' B f:=fun i hi=>(h i hi).zRf t hs
theorem yL.congr{w:World}{B:Nat}{f g:Nat->Value}(h:yL w B f)(e:∀i,i<41->f i=g i):yL w B g:=fun i hi=>e i hi▸h i hi
theorem yL.put{w:World}{B:Nat}{f:Nat->Value}(h:yL w B f)(o:Nat)(v:Value):yL (w.setCell ⟨B,o,none⟩ v) B (fun i=>if i=o then v else f i):=fun i hi=>by
 show zW _ B i (if i=o then v else f i);by_cases e:i=o
 ·subst e;rw[if_pos rfl];exact(h i hi).set v
 ·rw[if_neg e];exact(h i hi).zRY v (Or.inr (fun h=>e h.symm))
theorem yL.there{w:World}{B:Nat}{f:Nat->Value}(h:yL w B f){o n:Nat}(hn:o+n<=41):w.there B o n:=fun j hj=>⟨by rw[(h (o+j) (by omega)).1];rfl,(h (o+j) (by omega)).2⟩
theorem yL.range{w:World}{B:Nat}{f:Nat->Value}(h:yL w B f):w.rangeAt B 0 ((List.range 41).map f):=fun j v hv=>by
 have hj:j<41:=by have:=(List.getElem?_eq_some_iff.1 hv).1;simpa using this
 rw[Nat.zero_add,(h j hj).1];simpa[hj]using hv
theorem yL.puts{w:World}{B:Nat}{f:Nat->Value}(h:yL w B f)(o:Nat)(vs:List Value)(hv:o+vs.length<=41):yL (w.setCells B o vs) B (fun i=>if o<=i/\i<o+vs.length then vs.getD (i - o) undef else f i):=fun i hi=>by
 refine⟨?_,?_⟩
 ·show _=some (if o<=i/\i<o+vs.length then vs.getD (i - o) undef else f i);by_cases e:o<=i/\i<o+vs.length
  ·rw[if_pos e];have:=World.cell?_setCells_in B vs o w (fun j hj=>by rw[(h (o+j) (by omega)).1];rfl) (i - o) (by omega);rw[show o+(i - o)=i by omega]at this;rw[this,List.getD_eq_getElem?_getD,List.getElem?_eq_getElem (by omega),Option.getD_some]
  ·rw[if_neg e,World.cell?_setCells_out B vs o w ⟨B,i,none⟩ (fun _ _=>by show i<o\/o+vs.length<=i;omega)];exact(h i hi).1
 ·rw[World.frozen?_setCells];exact(h i hi).2
def zBR(f:Nat->Value):Array Value:=((List.range 41).map f).toArray
theorem zGc(f:Nat->Value):(zBR f).size=41:=by simp[zBR]
theorem zGH(f:Nat->Value):(Tryz.prog.info? 159).map (·.size)=some (zBR f).size:=by rw[zGc];exact zKy
theorem zQx:(Tryz.prog.underlying 159).map (fun d=>d.isRow)=some true:=by kernel_rfl
def zQV(n:Nat)(i:Nat):Value:=if i=0 then .int .i64 ((n:Int) / 8)else if i=1 then .int .i64 ((n:Int) % 8)else if i=40 then .slice none 0 0 else .int .i64 0
theorem zQG(W:World)(n:Nat):yL (W.alloc (.cells (zHi n) 159)) W.heap.size (zQV n):=fun i hi=>by
 refine zJ (i:=i) (heap_alloc_new W (.cells (zHi n) 159)) ?_;have:zHi n=zBR (zQV n):=by rfl
 rw[this];simp[zBR,hi]
theorem zME{J J':Nat->Act->World->Prop}{Q:Exit->Act->World->Prop}(h:∀l a w,J l a w->J' l a w):∀{e:Exit} {a:Act} {w:World},hop J Q e a w->hop J' Q e a w
 | .goto l,a,w,he=>h l a w he
 | .normal,_,_,he=>he
 | .exit _,_,_,he=>he
 | .ret,_,_,he=>he
 | .panic _,_,_,he=>he
 | .outgrown,_,_,he=>he
theorem zKG{P:Program}{a:Act}{w:World}{Q:Exit->Act->World->Prop}{c:Code}(R:Nat->Nat->Act->World->Prop)(n:Nat)(zero:∀l a w,¬R 0 l a w)
  (step:∀n l a w,R (n+1) l a w->∃aA,findLabel c l=some (Code.skip.seq aA)/\aA.wp P (hop (R n) Q) a w)
  (first:(∀l a w aA,findLabel c l=some (Code.skip.seq aA)->R (n+1) l a w->aA.wp P (hop (R n) Q) a w)->c.wp P (hop (R n) Q) a w):(Code.scope c).wp P Q a w:=by
 have key:∀n l a w,R n l a w->JU P c Q n l a w:=by
  intro n
  induction n with
  | zero=>intro l a w h;exact absurd h (zero l a w)
  | succ n ih=>
   intro l a w h;obtain⟨aA,hf,hw⟩:=step n l a w h;exact⟨_,hf,Code.wp_mono (fun e a w he=>zME ih he) (wp_seq (wp_skip hw))⟩
 refine zIw n (Code.wp_mono (fun e a w he=>zME (key n) he) (first ?_));intro l a w aA hf hR;obtain⟨cA,bA,hw⟩:=step n l a w hR;rw[hf]at bA;simp only[Option.some.injEq,Code.seq.injEq,true_and]at bA;rw[bA];exact hw
def qy(p:zI)(xs xb:Int)(n L:Nat):Int:=if L=0 then xs else if L=1 then yO p xs xb n else zAB p xs xb n
def yk(p:zI)(xs xb:Int)(n L:Nat):Int:=if L=0 then xb else if L=1 then yj p xs xb n else yx p xs xb n
def plc(n L:Nat):Nat:=if L=0 then n / 8 else n % 8
def zCG(p:zI)(xs xb:Int)(n L j:Nat):Int:=if Nil (qy p xs xb n L) (yk p xs xb n L)then 0 else zj (p.s (qy p xs xb n L).toNat) j
theorem zDe(p:zI)(xs xb:Int)(n:Nat){L:Nat}(h:L<2):qy p xs xb n (L+1)=zCG p xs xb n L (plc n L*2)/\yk p xs xb n (L+1)=zCG p xs xb n L (plc n L*2+1):=by
 rcases L with _ | _ | L
 ·exact⟨rfl,rfl⟩
 ·exact⟨rfl,rfl⟩
 ·omega
theorem zKT{n L:Nat}(h:n<64):plc n L<8:=by unfold plc;split<;>omega
theorem zEy{p:zI}{xs xb:Int}{n L:Nat}(h:Nil (qy p xs xb n L) (yk p xs xb n L))(hL:L<2):Nil (qy p xs xb n (L+1)) (yk p xs xb n (L+1)):=by
 rw[(zDe p xs xb n hL).1,(zDe p xs xb n hL).2];unfold zCG;rw[if_pos h,if_pos h];exact⟨rfl,rfl⟩
theorem zQr{p:zI}{xs xb:Int}{n L:Nat}(h:qp p xs xb)(hn:n<64)(hL:L<2):zKB p (qy p xs xb n L) (yk p xs xb n L):=by
 rcases L with _ | _ | L
 ·exact zKa h
 ·exact zKu h (by omega)
 ·omega
def yr(p:zI)(xs xb:Int)(n K M:Nat)(o:Value)(i:Nat):Value:=
 if i<2 then .int .i64 (plc n i:Nat)
 else if i<34 then .int .i64 (if (i - 2) / 16<K then zCG p xs xb n ((i - 2) / 16) ((i - 2) % 16)else 0)
 else if i<40 then .int .i64 (if (i - 34) / 2<M then(if (i - 34) % 2=0 then qy p xs xb n ((i - 34) / 2)else yk p xs xb n ((i - 34) / 2))else 0)
 else o
theorem zPa(p:zI)(xs xb:Int)(n:Nat){i:Nat}(hi:i<41):zQV n i=yr p xs xb n 0 0 (.slice none 0 0) i:=by
 unfold zQV yr;by_cases h0:i=0
 ·subst h0;rfl
 by_cases h1:i=1
 ·subst h1;rfl
 rw[if_neg h0,if_neg h1,if_neg (show ¬i<2 by omega)];by_cases h2:i=40
 ·subst h2;rfl
 rw[if_neg h2];by_cases h3:i<34
 ·rw[if_pos h3,if_neg (Nat.not_lt_zero _)]
 ·rw[if_neg h3,if_pos (by omega),if_neg (Nat.not_lt_zero _)]
theorem zQR{p:zI}{xs xb:Int}{n K L:Nat}{o:Value}{w:World}{B:Nat}(hL:L<3)(h:yL w B (yr p xs xb n K L o)) :
  yL ((w.setCell ⟨B,34+L*2,none⟩ (.int .i64 (qy p xs xb n L))).setCell ⟨B,34+L*2+1,none⟩ (.int .i64 (yk p xs xb n L))) B (yr p xs xb n K (L+1) o):=by
 refine((h.put _ _).put _ _).congr fun i hi=>?_
 show(if i=34+L*2+1 then _ else if i=34+L*2 then _ else _)=_;by_cases h1:i=34+L*2+1
 ·subst h1;rw[if_pos rfl];unfold yr;rw[if_neg (by omega),if_neg (by omega),if_pos (by omega),show(34+L*2+1 - 34) / 2=L by omega,show(34+L*2+1 - 34) % 2=1 by omega,if_pos (by omega),if_neg (by omega)]
 rw[if_neg h1];by_cases h2:i=34+L*2
 ·subst h2;rw[if_pos rfl];unfold yr;rw[if_neg (by omega),if_neg (by omega),if_pos (by omega),show(34+L*2 - 34) / 2=L by omega,show(34+L*2 - 34) % 2=0 by omega,if_pos (by omega),if_pos rfl]
 rw[if_neg h2];unfold yr;by_cases h3:i<2
 ·rw[if_pos h3,if_pos h3]
 by_cases h4:i<34
 ·rw[if_neg h3,if_neg h3,if_pos h4,if_pos h4]
 rw[if_neg h3,if_neg h3,if_neg h4,if_neg h4];by_cases h5:i<40
 ·rw[if_pos h5,if_pos h5];by_cases h6:(i - 34) / 2<L
  ·rw[if_pos h6,if_pos (show(i - 34) / 2<L+1 by omega)]
  ·rw[if_neg h6,if_neg (by omega)]
 ·rw[if_neg h5,if_neg h5]
theorem zPm{p:zI}{xs xb:Int}{n L M:Nat}{o:Value}{w:World}{B:Nat}(hL:L<2)(h:yL w B (yr p xs xb n L M o))(hN:¬Nil (qy p xs xb n L) (yk p xs xb n L)) :
  yL (w.setCells B (2+L*16) (qF (p.s (qy p xs xb n L).toNat)).toList) B (yr p xs xb n (L+1) M o):=by
 have aA:(qF (p.s (qy p xs xb n L).toNat)).toList.length=16:=by simp[qF,qB]
 refine(h.puts (2+L*16) _ (by omega)).congr fun i hi=>?_
 show(if 2+L*16<=i/\i<2+L*16+_ then _ else _)=_;rw[aA];by_cases h1:2+L*16<=i/\i<2+L*16+16
 ·rw[if_pos h1];have hj:i - (2+L*16)<16:=(by omega);have e:(qF (p.s (qy p xs xb n L).toNat)).toList.getD (i - (2+L*16)) undef = .int .i64 (zj (p.s (qy p xs xb n L).toNat) (i - (2+L*16))):=by
   rw[List.getD_eq_getElem?_getD,Array.getElem?_toList];have:=yM (zj (p.s (qy p xs xb n L).toNat)) hj;rw[show qF (p.s (qy p xs xb n L).toNat)=zp (zj (p.s (qy p xs xb n L).toNat))from rfl,this];rfl
  rw[e];unfold yr zCG;rw[if_neg (by omega),if_pos (by omega),show(i - 2) / 16=L by omega,if_pos (by omega),if_neg hN,show(i - 2) % 16=i - (2+L*16)by omega]
 ·rw[if_neg h1];unfold yr;by_cases h3:i<2
  ·rw[if_pos h3,if_pos h3]
  rw[if_neg h3,if_neg h3];by_cases h4:i<34
  ·rw[if_pos h4,if_pos h4];by_cases h6:(i - 2) / 16<L
   ·rw[if_pos h6,if_pos (by omega)]
   ·rw[if_neg h6,if_neg (by omega)]
  ·rw[if_neg h4,if_neg h4]
theorem zNa{p:zI}{xs xb:Int}{n L:Nat}{o:Value}{w:World}{B:Nat}(hL:L<3)(h:yL w B (yr p xs xb n L (L+1) o))(hN:L<2->Nil (qy p xs xb n L) (yk p xs xb n L)):yL w B (yr p xs xb n 2 3 o):=by
 refine h.congr fun i hi=>?_
 have hz:∀K,L<=K->K<3->L<2->Nil (qy p xs xb n K) (yk p xs xb n K):=fun K h1 h2 h3=>by
  have n0:=hN h3;by_cases e:K=L
  ·subst e;exact n0
  have n1:=zEy n0 h3;by_cases e1:K=L+1
  ·subst e1;exact n1
  have n2:=zEy n1 (by omega);rw[show K=L+1+1 by omega];exact n2
 unfold yr;by_cases h3:i<2
 ·rw[if_pos h3,if_pos h3]
 rw[if_neg h3,if_neg h3];by_cases h4:i<34
 ·rw[if_pos h4,if_pos h4];by_cases h6:(i - 2) / 16<L
  ·rw[if_pos h6,if_pos (by omega)]
  ·rw[if_neg h6,if_pos (by omega)];unfold zCG;rw[if_pos (hz _ (by omega) (by omega) (by omega))]
 ·rw[if_neg h4,if_neg h4];by_cases h5:i<40
  ·rw[if_pos h5,if_pos h5];by_cases h6:(i - 34) / 2<L+1
   ·rw[if_pos h6,if_pos (show(i - 34) / 2<3 by omega)]
   ·rw[if_neg h6,if_pos (show(i - 34) / 2<3 by omega)];have:=hz ((i - 34) / 2) (by omega) (by omega) (by omega);split
    ·rw[this.1]
    ·rw[this.2]
  ·rw[if_neg h5,if_neg h5]
theorem zP9{p:zI}{xs xb:Int}{n K M:Nat}{o:Value}{w:World}{B:Nat}(o':Value)(h:yL w B (yr p xs xb n K M o)):yL (w.setCell ⟨B,40,none⟩ o') B (yr p xs xb n K M o'):=by
 refine(h.put _ _).congr fun i hi=>?_
 show(if i=40 then _ else _)=_;by_cases e:i=40
 ·subst e;rfl
 ·rw[if_neg e];unfold yr;by_cases h3:i<2
  ·rw[if_pos h3,if_pos h3]
  rw[if_neg h3,if_neg h3];by_cases h4:i<34
  ·rw[if_pos h4,if_pos h4]
  ·rw[if_neg h4,if_neg h4,if_pos (show i<40 by omega),if_pos (show i<40 by omega)]
def yg(p:zI)(xs xb:Int)(n k:Nat):List (Int×Int):=kidsUp (fun i=>qy p xs xb n (2 - i)) (fun i=>yk p xs xb n (2 - i)) k
theorem zOG{fA:Array Oper}{o:Oper}{a:Act}{w:World}{K:Act->World->Prop}{Q:Exit->Act->World->Prop}{E:Prop}(mA:o.guard=none)(s x:Operand)
  (ho:o.op = .call {callee:=.builtin .append,args:=#[s,x],argTypes:=#[62,62]}) (base cA:Nat) (v:Value) (l:List (Int×Int)) (hs:a.eval s=v) (aA:zw w base v l)
  (ao:Option Addr) (m c:Nat) (l2:List (Int×Int)) (hx:a.eval x = .slice ao m c) (hm:m=l2.length) (h2:zw w cA (.slice ao m c) l2) (kA:l.length+l2.length<=1000) (bA:base<=w.heap.size)
  (h:∀v' w',zw w' base v' (l ++ l2)->w.grownBy w' v.ownBlock->K (a.put o.dst v') w'):if Region.wanted o (yielded fA a.tmps)=true then Oper.wp Tryz.prog o a w K Q else E:=by
 have hw:Region.wanted o (yielded fA a.tmps)=true:=by simp[Region.wanted,mA]
 rw[if_pos hw];obtain⟨i0,eA,lA,iA,nA⟩:∃i,Tryz.prog.info? 61=some i/\i.zero=some (.agg #[.int .i64 0,.int .i64 0])/\i.size=2/\i.bytes=16:=by
  obtain⟨i0,eA,gA⟩:=Option.map_eq_some_iff.1 zA1;simp only[Prod.mk.injEq]at gA;exact⟨i0,eA,gA⟩
 have ht:Tryz.prog.underlying 62=some (.slice 61):=by kernel_rfl
 by_cases h0:0<l2.length
 ·obtain⟨b,oA,e,_,_,_,dA⟩:=qY h2 h0;simp only[Value.slice.injEq]at e;obtain⟨rfl,_,_⟩:=e;obtain⟨v',w',hr,r1,r2,_⟩:=run_append_own (P:=Tryz.prog) w base 62 o.type 61 i0 (.agg #[.int .i64 0,.int .i64 0]) 2 16 ht eA lA iA nA rfl (by decide) v l.length (pcl l) aA ⟨b,0,none⟩ m c (pcl l2) (by rw[zA5,hm]) (fun j u hj=>by rw[add_lit,Nat.zero_add];exact(dA j u hj).1) (zFo l2) (by rw[hm];unfold maxLen;omega) (by rw[hm];omega) bA;unfold Oper.wp;simp[execOp,ho,resolve,invoke,builtin,hs,hx,hr,Result.andThen];refine h v' w' ?_ r2;unfold zw;rw[zBD,List.length_append,<-hm];exact r1
 ·have e0:l2 = []:=List.eq_nil_of_length_eq_zero (by omega);subst e0;have jA:m=0:=hm;subst jA;have hr:=zA6 (P:=Tryz.prog) (w:=w) base 62 o.type 61 i0 2 c ao ht eA v l.length (pcl l) aA;unfold Oper.wp;simp[execOp,ho,resolve,invoke,builtin,hs,hx,hr,Result.andThen];exact h v w (by rw[List.append_nil];exact aA) ⟨rfl,rfl,rfl,Nat.le_refl _,fun _ _ _=>rfl⟩
end Go.Proofs.YtmgeglgboadfiaaGreatDoor

/- A part of the proof. -/
import Derived.Test.YtddigaohmfpepaaGreatDoorF3
set_option linter.unusedVariables false
set_option maxRecDepth 20000
set_option maxHeartbeats 4000000
namespace Go.Proofs.YtddigaohmfpepaaGreatDoor
open Go.RowKit
theorem Bs.ok_le{s:Bs}{fl:Fl}{e e':Nat}(h:s.ok fl e)(a:e'<=e):s.ok fl e':=by
 cases s with
 | fz r=>exact h.imp_right fun h l e=>Nat.le_trans a (h l e)
 | ow o lim=>exact Nat.le_trans a h
theorem Addr.add_zero(a:Addr):a.add 0=a:=rfl
variable{P:Program}{E:En}{ob:List (Nat×Ob)}{l:List Av}
theorem zAe{t:Nat}{d de:TyD}(h:BA P t d)(r:d.el≠0)(G:BA P d.el de){w:World}(T:AU w E ob){a:Act}{x:Operand}{lo hi:Option Operand}{q:Prop×Cv}(g:evSlice ob de.k lo hi l=some q)(H:q.1)(s:AR (fun x V=>AvR w E (dom ob) V (a.eval x)) (x :: (lo.toList ++ hi.toList)) l) :
 ∃z,(Instr.sliceAt t (a.eval x) (lo.map a.eval) (hi.map a.eval) none).run P w = .ok z w/\CvR w E (dom ob) q.2 z:=by
 unfold evSlice at g;split at g
 ·rename_i fl U n f K ix
  split at g
  ·rename_i O
   subst O;split at g
   ·rename_i y
    cases g;simp only[Option.toList_none,Option.toList_some,List.nil_append]at s;obtain⟨R,S,e,A,B⟩:=G6 s;cases e;obtain⟨p,c,v,hn,m⟩:=vl1 A;have ei:=(vl1 B).1;obtain⟨c0,c1⟩:=H;refine⟨.slice p ix.toNat c,?_,p,c,rfl,by omega,fun J=>?_⟩
    ·rw[v];unfold Instr.sliceAt;rw[Sem.run_bind,run_underlying (h.slice r)];have Q:ix<=(c:Int):=(by omega);cases p<;>simp[Instr.slice,run_underlying (h.slice r),ei,Instr.sliceBounds,Instr.sliceBound,asIntOf,c0,Q,G.run_size,Addr.add_zero]
    ·obtain⟨b,o,I,L,D,C⟩:=m (by omega);exact⟨b,o,I,L,Bs.ok_le D (Nat.add_le_add_left (Nat.mul_le_mul_right _ (by omega)) _),fun i j hi N=>C i j (by omega) N⟩
   ·rename_i y
    cases g;simp only[Option.toList_none,Option.toList_some,List.append_nil]at s;obtain⟨R,S,e,A,B⟩:=G6 s;cases e;obtain⟨p,c,v,hn,m⟩:=vl1 A;have ei:=(vl1 B).1;obtain⟨c0,c1⟩:=H;refine⟨.slice (if c=ix.toNat then p else p.map (·.add (ix.toNat*de.k))) (n - ix.toNat) (c - ix.toNat),?_,_,_,rfl,by omega,fun J=>?_⟩
    ·rw[v];unfold Instr.sliceAt;rw[Sem.run_bind,run_underlying (h.slice r)];simp[Instr.slice,run_underlying (h.slice r),ei,Instr.sliceBounds,Instr.sliceBound,asIntOf,c0,c1,G.run_size]
    ·obtain⟨b,o,I,L,D,C⟩:=m (by omega);refine⟨b,o+ix.toNat*de.k,?_,L,Bs.ok_le D ?_,fun i j hi N=>?_⟩
     ·rw[if_neg (by omega),I];simp[Gc]
     ·rw[Nat.add_assoc,<-Nat.add_mul];exact Nat.add_le_add_left (Nat.mul_le_mul_right _ (by omega)) _
     ·obtain⟨u,W,hs⟩:=C (ix.toNat+i) j (by omega) N;refine⟨u,?_,hs⟩;rw[<-W,Nat.add_mul];congr 2;omega
   ·cases g
  ·cases g
 ·rename_i i K ix
  split at g
  ·rename_i U n hsh
   have hi':∃f,get ob i=some (.row U n f):=by
    unfold shp at hsh;split at hsh
    ·rename_i X n2 f2 hg
     cases hsh;exact⟨f2,hg⟩
    ·cases hsh
   obtain⟨f,hi'⟩:=hi';split at g
   ·rename_i O
    subst O;split at g
    ·rename_i y
     cases g;simp only[Option.toList_none,Option.toList_some,List.nil_append]at s;obtain⟨R,S,e,A,B⟩:=G6 s;cases e;obtain⟨M,F,-⟩:=vl1 A;obtain⟨p,c,v,hn,m⟩:=T _ _ hi';have ei:=(vl1 B).1;obtain⟨c0,c1⟩:=H;refine⟨.slice p ix.toNat c,?_,M,p,c,rfl,fun J=>by rw[(m (by omega)).1,Nat.zero_mul]⟩;rw[F,v];unfold Instr.sliceAt;rw[Sem.run_bind,run_underlying (h.slice r)];have Q:ix<=(c:Int):=(by omega);cases p<;>simp[Instr.slice,run_underlying (h.slice r),ei,Instr.sliceBounds,Instr.sliceBound,asIntOf,c0,Q,G.run_size,Addr.add_zero]
    ·rename_i y
     cases g;simp only[Option.toList_none,Option.toList_some,List.append_nil]at s;obtain⟨R,S,e,A,B⟩:=G6 s;cases e;obtain⟨M,F,-⟩:=vl1 A;obtain⟨p,c,v,hn,m⟩:=T _ _ hi';have ei:=(vl1 B).1;obtain⟨c0,c1⟩:=H;refine⟨.slice (if c=ix.toNat then p else p.map (·.add (ix.toNat*de.k))) (n - ix.toNat) (c - ix.toNat),?_,M,_,_,rfl,fun J=>?_⟩
     ·rw[F,v];unfold Instr.sliceAt;rw[Sem.run_bind,run_underlying (h.slice r)];simp[Instr.slice,run_underlying (h.slice r),ei,Instr.sliceBounds,Instr.sliceBound,asIntOf,c0,c1,G.run_size]
     ·rw[if_neg (by omega),(m (by omega)).1];simp[Gc]
    ·cases g
   ·cases g
  ·cases g
 ·cases g
variable{Γ:List (Nat×AL)}{i:Nat}{r:List Av}
theorem zHj{w:World}(hΓ : Bi P Γ w){f:Nat}(s:AU w E ob){D:Dl}(b:evC Γ f i ob r=some D)(m:D.c){ys:List Value}(g:AR (AvR w E (dom ob)) r ys) :
 Do P f/\Calls P f ys.toArray w (fun e w'=>∃v t,e = .returned v/\AX (dom ob) w E w' t/\(∀j,dom ob j->dom D.ob j)/\AU w' t D.ob/\∃u,D.av=some u/\AvR w' t (dom D.ob) u v):=by
 unfold evC at b;split at b
 ·rename_i q
  split at b
  ·rename_i sp hsp
   obtain⟨hs,l⟩:=hΓ.a _ _ q hsp;exact⟨l,XN hs (d:=i) s b m g⟩
  ·split at b
   ·rename_i sp hsp
    obtain⟨hs,l⟩:=hΓ.k _ _ q hsp;exact⟨l,XN hs (d:=i) s b m g⟩
   ·split at b
    ·rename_i sp hsp
     obtain⟨hs,l⟩:=hΓ.n _ _ q hsp;exact⟨l,zAa hs (d:=i) s b m g⟩
    ·split at b
     ·rename_i sp hsp
      obtain⟨hs,l⟩:=hΓ.o _ _ q hsp;exact⟨l,zAc hs (d:=i) s b m g⟩
     ·split at b
      ·rename_i j r'
       cases g with
       | cons hx hr=>
        split at b
        ·rename_i sp hsp
         obtain⟨hs,l⟩:=hΓ.p _ _ q hsp;exact⟨l,Y3 hs (d:=i) s b m hx hr⟩
        ·split at b
         ·rename_i sp hsp
          obtain⟨hs,l⟩:=hΓ.pk _ _ q hsp;exact⟨l,Y3 hs (d:=i) s b m hx hr⟩
         ·cases b
      ·cases b
 ·cases b
theorem zI7{w:World}{E':En}{D D':Nat->Prop}{g:Bool}{c:List Cv}{y:Value}(h:VlR w E D g c y)(a:CsR w E' D' (frz c ob).1 y.cells.toList):VlR w E' D' g (frz c ob).1 y:=by
 cases g with
 | true=>obtain⟨cs,rfl,_⟩:=h;exact⟨cs,rfl,by simpa[Value.cells]using a⟩
 | false=>
  obtain⟨x,rfl,d⟩:=h;have b:=d.one;have e:y.cells=#[y]:=by cases y<;>first | rfl | (simp[Value.oneCell']at b)
  rw[e]at a;cases a with
  | cons k1 k2=>exact⟨_,rfl,k1⟩
variable{T:Tb}{D:Dl}
theorem zGk(H:DY P T){w:World}(hΓ : Bi P Γ w){o:Oper}{a:Act}{Q:Exit->Act->World->Prop}(I:AU w E ob)
 (V:AR (fun x R=>AvR w E (dom ob) R (a.eval x)) o.op.operands.toList l) (B:BB T Γ o.dst ob o.op l=some D) (S:D.c):o.wp P a w (Ri E w ob o a D) Q:=by
 obtain⟨dst,op,type,pos,cA,guard⟩:=o;cases op with
 | move x=>
  obtain⟨y,rfl,C⟩:=Fi V;cases B;exact Cu (s:=pure (a.eval x)) rfl rfl (Same.after I C)
 | assign x=>
  obtain⟨y,rfl,C⟩:=Fi V;cases B;exact Cu (s:=pure (a.eval x)) rfl rfl (Same.after I C)
 | nilCheck x=>
  obtain⟨y,rfl,C⟩:=Fi V;simp only[BB,coreU]at B;split at B
  ·rename_i i oo e
   cases e;cases B;have F:=(vl1 C).2;refine Cu (s:=pure (a.eval x)) ?_ rfl (Same.after I C);simp only[execOp,F];rfl
  ·cases B
 | unOp u t x=>
  obtain⟨y,rfl,C⟩:=Fi V;cases u<;>simp only[BB,coreU]at B<;>try (cases B;done)
  split at B
  ·rename_i b e
   cases e;cases B;have F:=(vl1 C).1;refine Cu (s:=Op.unary .not (a.eval x)) rfl (z:=.bool !b) ?_ (Same.after I (av1 ⟨rfl,rfl⟩));rw[F];rfl
  ·cases B
 | binOp op t x y yt=>
  obtain⟨p,q,rfl,C,F⟩:=G6 V;simp only[BB,coreU]at B;split at B
  ·rename_i r hr
   cases B;obtain⟨O,X⟩:=zHe H hr S C F x y;exact Cu rfl O (Same.after I (av1 ⟨rfl,X⟩))
  ·cases B
 | alloc t=>
  have:=V5 V;subst this;simp only[BB,coreU]at B;split at B
  ·rename_i d i e hd
   split at B
   ·rename_i ob' hob
    cases B;obtain⟨z,w',U,C,F,O,X,h5⟩:=zAX (H.ok _ _ hd) I hob;exact Cu rfl C ⟨z,U,rfl,F,O,X,fun R e=>by cases e;exact h5⟩
   ·cases B
  ·cases B
 | box t x=>
  obtain⟨y,rfl,C⟩:=Fi V;simp only[BB,coreU]at B;split at B
  ·rename_i g c i e
   cases e;split at B
   ·rename_i ob' hob
    cases B;obtain⟨z,w',U,g1,g2,g3,g4,g5⟩:=zEh (P:=P) (t:=t) I hob C;exact Cu rfl g1 ⟨z,U,rfl,g2,g3,g4,fun R e=>by cases e;exact g5⟩
   ·cases B
  ·cases B
 | load t x=>
  obtain⟨y,rfl,C⟩:=Fi V;simp only[BB,coreU]at B;split at B
  ·rename_i x' d e hd
   cases e;unfold evLd at B;split at B
   ·rename_i q G
    cases B;rw[Option.bind_eq_some_iff]at G;obtain⟨i,hi,G⟩:=G;split at hi
    ·rename_i ht
     subst hi;obtain⟨-,sB,tB⟩:=ht;obtain⟨z,U,F,O,X,h5,h6⟩:=zd (H.ok _ _ hd) sB tB I G S (vl1 C);exact Cu rfl F ⟨z,U,rfl,O,X,h5,fun R e=>by cases e;exact h6⟩
    ·cases hi
   ·split at B
    ·rename_i q G
     cases B;obtain⟨z,F,O⟩:=XO (H.ok _ _ hd) I G S (vl1 C);exact Cu rfl F (Same.after I O)
    ·cases B
  ·cases B
 | store t x y=>
  obtain⟨p,q,rfl,C,F⟩:=G6 V;simp only[BB,coreU]at B;split at B
  ·rename_i x' g c d e hd
   cases e;split at B
   ·rename_i q G
    cases B;unfold evSt at G;split at G
    ·rename_i r i k a' j
     obtain⟨w',U,g1,g2,g3,g4⟩:=zBh (H.ok _ _ hd) I G S (vl1 C) F;exact PN rfl g1 ⟨undef,U,rfl,g2,g3,g4,fun R e=>by cases e⟩
    ·rename_i i k a' j _
     obtain⟨E1,x1,o1,c1,d1⟩:=LQ I (VlR.cells F);obtain⟨w',g1,g2,g3,g4⟩:=Y4 (H.ok _ _ hd) o1 G S (CvR.ext x1 (fun j hj=>(d1 j).1 hj) (vl1 C)) (zI7 F c1);exact PN rfl g1 ⟨undef,E1,rfl,x1.trans g2 (fun j hj=>(d1 j).1 hj),fun j hj=>g3 j ((d1 j).1 hj),g4,fun R e=>by cases e⟩
    ·obtain⟨w',g1,g2,g3,g4⟩:=Y4 (H.ok _ _ hd) I G S (vl1 C) F;exact PN rfl g1 ⟨undef,E,rfl,g2,g3,g4,fun R e=>by cases e⟩
   ·cases B
  ·cases B
 | fieldAddr t x f=>
  obtain⟨y,rfl,C⟩:=Fi V;simp only[BB,coreU]at B;split at B
  ·rename_i x' d e hd
   cases e;have F:=vl1 C;split at B
   ·rename_i q i oo G
    cases B;obtain⟨O,X⟩:=F;refine Cu rfl (z:=.pointer (some ⟨E.bl i,oo+q.1,none⟩)) ?_ (Same.after I (av1 ⟨O,rfl⟩));rw[X];exact(H.ok _ _ hd).run_field G w _ _
   ·rename_i q i k a' j G
    cases B;obtain⟨O,X⟩:=F;refine Cu rfl (z:=.pointer (some ⟨E.bl i,a'*k+(j+q.1),none⟩)) ?_ (Same.after I (av1 ⟨O,rfl⟩));rw[X,<-Nat.add_assoc];exact(H.ok _ _ hd).run_field G w _ _
   ·rename_i q fl k n g a' j G
    cases B;obtain⟨O,b,oo,X,h5⟩:=F;refine Cu rfl (z:=.pointer (some ⟨b,oo+(a'*k+(j+q.1)),none⟩)) ?_ (Same.after I (av1 ⟨O,b,oo,rfl,h5⟩));rw[X,<-Nat.add_assoc,<-Nat.add_assoc,<-Nat.add_assoc];exact(H.ok _ _ hd).run_field G w _ _
   ·cases B
  ·cases B
 | indexAddr t x ix=>
  obtain⟨p,q,rfl,C,F⟩:=G6 V;simp only[BB,coreU]at B;split at B
  ·rename_i x' K ixx d e hd
   cases e;have O:=vl1 C;have X:=(vl1 F).1;split at B
   ·rename_i de fl k n g hde
    split at B
    ·rename_i hk
     cases B;obtain⟨rfl,J⟩:=hk;obtain⟨aa,c,e,hn,oA⟩:=O;obtain⟨b,oo,rfl,hb,pB,aA⟩:=oA (by have:=S.1;have:=S.2;omega);refine Cu rfl (z:=.pointer (some ⟨b,oo+(ixx.toNat*de.k+0),none⟩)) ?_ (Same.after I (av1 ⟨by have:=S.1;have:=S.2;omega,b,oo,rfl,some ⟨b,oo,none⟩,n,rfl,Nat.le_refl _,fun _=>⟨b,oo,rfl,hb,pB,aA⟩⟩));rw[X,e,Nat.add_zero];exact(H.ok _ _ hd).run_index J (H.ok _ _ hde) S.1 S.2
    ·cases B
   ·rename_i de i hde
    split at B
    ·rename_i k n g hi
     split at B
     ·rename_i hk
      cases B;obtain⟨rfl,J⟩:=hk;obtain⟨aa,cap,hv,hn,tA⟩:=I _ _ hi;obtain⟨lB,_⟩:=tA (by have:=S.1;have:=S.2;omega);refine Cu rfl (z:=.pointer (some ⟨E.bl i,ixx.toNat*de.k+0,none⟩)) ?_ (Same.after I (av1 ⟨O.1,rfl⟩));rw[X,O.2.1,hv,lB,Nat.add_zero];have:=(H.ok _ _ hd).run_index J (H.ok _ _ hde) S.1 S.2 (w:=w) (b:=E.bl i) (o:=0) (c:=cap) (K:=K);rw[Nat.zero_add]at this;exact this
     ·cases B
    ·cases B
   ·cases B
  ·cases B
 | index t x ix=>
  obtain⟨p,q,rfl,C,F⟩:=G6 V;simp only[BB,coreU]at B;split at B
  ·rename_i s K ixx e
   cases e;split at B
   ·rename_i ht
    subst ht;cases B;have O:=(vl1 C).1;have X:=(vl1 F).1;refine Cu rfl (z:=.int .u8 ((s[ixx.toNat]?).getD 0).toNat) ?_ (Same.after I (av1 ⟨rfl,rfl⟩));rw[O,X];obtain⟨c0,c1⟩:=S;have jA:ixx.toNat<s.size:=(by omega);unfold Instr.index;simp[asIntOf,run_underlying H.hs,c0,jA]
   ·cases B
  ·cases B
 | extract x ix=>
  obtain⟨y,rfl,C⟩:=Fi V;simp only[BB,coreU]at B;split at B
  ·rename_i q e
   cases e;split at B
   ·rename_i r hr
    cases B;obtain⟨vs,e,F⟩:=C;obtain⟨u,hu,O⟩:=F.at hr;refine Cu rfl (z:=u) ?_ (Same.after I O);rw[e];simp[Instr.extract,hu]
   ·cases B
  ·cases B
 | build t ps=>
  simp only[BB,coreU]at B;split at B
  ·rename_i d q hd G
   split at B
   ·rename_i c oA
    split at B
    ·cases B
    ·rename_i oB
     cases B;have M:AR (fun x R=>AvR w E (dom ob) R (a.eval x)) (ps.toList.map (·.2)) l:=(by simpa[Op.operands]using V);obtain⟨z,C,F⟩:=zAY (H.ok _ _ hd) (fun e=>oB (by rw[e];rfl)) (RI G M) oA;refine Cu rfl (z:=z) ?_ (Same.after I F);have e:(ps.map fun (i,x)=>(i,a.eval x))=(ps.toList.map fun p=>(p.1,a.eval p.2)).toArray:=by
      apply Array.ext';simp
     rw[e];exact C
   ·cases B
  ·cases B
 | buildSlice t n ps=>
  simp only[BB,coreU]at B;split at B
  ·rename_i d q i hd G
   split at B
   ·rename_i de hde
    split at B
    ·rename_i ob' hob
     split at B
     ·cases B
     ·rename_i J
      cases B;have M:AR (fun x R=>AvR w E (dom ob) R (a.eval x)) (ps.toList.map (·.2)) l:=(by simpa[Op.operands]using V);obtain⟨z,w',U,C,F,O,X,h5⟩:=zCv (H.ok _ _ hd) J (H.ok _ _ hde) I (RI G M) hob;refine Cu rfl (z:=z) ?_ ⟨z,U,rfl,F,O,X,fun R e=>by cases e;exact h5⟩;have e:(ps.map fun (i,x)=>(i,a.eval x))=(ps.toList.map fun p=>(p.1,a.eval p.2)).toArray:=by
       apply Array.ext';simp
      rw[e];exact C
    ·cases B
   ·cases B
  ·cases B
 | slice t x lo hi mx=>
  cases mx with
  | some _=>simp only[BB,coreU]at B;cases B
  | none=>
   simp only[BB,coreU]at B;split at B
   ·rename_i d hd
    split at B
    ·rename_i de hde
     split at B
     ·rename_i q G
      split at B
      ·cases B
      ·rename_i J
       cases B;obtain⟨z,C,F⟩:=zAe (H.ok _ _ hd) J (H.ok _ _ hde) I (x:=x) G S (by simpa[Op.operands]using V);exact Cu rfl C (Same.after I (av1 F))
     ·cases B
    ·cases B
   ·cases B
 | makeSlice t x y=>
  obtain⟨p,q,rfl,C,F⟩:=G6 V;simp only[BB,coreU]at B;split at B
  ·rename_i K1 x' K2 y' d i e hd
   cases e;split at B
   ·rename_i de hde
    split at B
    ·rename_i ob' hob
     split at B
     ·cases B
     ·rename_i J
      cases B;obtain⟨rfl,c0,c1⟩:=S;obtain⟨z,w',U,g1,g2,g3,g4,g5⟩:=zD1 (H.ok _ _ hd) J (H.ok _ _ hde) I (kl:=K1) (kc:=K2) c0 c1 hob;refine Cu rfl (z:=z) ?_ ⟨z,U,rfl,g2,g3,g4,fun R e=>by cases e;exact g5⟩;rw[(vl1 C).1,(vl1 F).1];exact g1
    ·cases B
   ·cases B
  ·cases B
 | call c=>
  obtain⟨callee,args,W⟩:=c;cases callee with
  | invoke r m=>simp only[BB,coreU]at B;cases B
  | value f=>
   cases f with
   | func f=>
    simp only[BB,coreU]at B;split at B
    ·rename_i x r i
     have M:AR (fun x R=>AvR w E (dom ob) R (a.eval x)) (.func f :: args.toList) (x :: r):=(by simpa[Op.operands,Call.operands]using V);cases M with
     | cons _ t=>
      have L:AR (AvR w E (dom ob)) r (args.toList.map a.eval):=by
       clear V B S;generalize args.toList=ags at t
       induction t with
       | nil=>exact .nil
       | cons C _ ih=>exact .cons C ih
      have jB:Do P f->Calls P f (args.toList.map a.eval).toArray w (fun e w'=>∃v U,e = .returned v/\AX (dom ob) w E w' U/\(∀j,dom ob j->dom D.ob j)/\AU w' U D.ob/\∃R,D.av=some R/\AvR w' U (dom D.ob) R v)->Oper.wp P ⟨some i,.call ⟨.value (.func f),args,W⟩,type,pos,cA,guard⟩ a w (Ri E w ob ⟨some i,.call ⟨.value (.func f),args,W⟩,type,pos,cA,guard⟩ a D) Q:=by
       intro hE Z;have N:(execOp a.eval ⟨some i,.call ⟨.value (.func f),args,W⟩,type,pos,cA,guard⟩).run P w = .ok (.enter f (args.toList.map a.eval).toArray) w:=by
        have e:args.map a.eval=(args.toList.map a.eval).toArray:=(by apply Array.ext';simp);simp only[execOp,resolve,Act.eval,Deferred.ofValue,Sem.run_bind,Sem.run_pure,Result.andThen_ok,invoke];rw[show(#[]:Array Value) ++ args.map a.eval ++ #[]=(args.toList.map a.eval).toArray by rw[<-e];simp];exact hE _ _
       unfold Oper.wp;rw[N];refine Z.mono ?_;rintro e w' ⟨v,U,rfl,C,F,O,R,e1,X⟩;exact⟨v,U,rfl,C,F,O,fun jC e=>by rw[e1]at e;cases e;exact X⟩
      obtain⟨hE,Z⟩:=zHj hΓ I B S L;exact jB hE Z
    ·cases B
   | _=>simp only[BB,coreU]at B;cases B
  | builtin b=>
   cases b<;>simp only[BB,coreU]at B<;>try (cases B;done)
   case len=>
    have N:∀(s:Sem Value),Builtin.len_ W type (args.map a.eval)=s->execOp a.eval ⟨dst,.call ⟨.builtin .len,args,W⟩,type,pos,cA,guard⟩=(do pure (.value (<-s))):=fun s hs=>by rw[<-hs];rfl
    have M:AR (fun x R=>AvR w E (dom ob) R (a.eval x)) args.toList l:=(by simpa[Op.operands,Call.operands]using V);split at B
    ·rename_i s
     split at B
     ·rename_i ht
      cases B;have L:∃x,args.toList = [x]/\AvR w E (dom ob) (.m false [.v (.string s)]) (a.eval x):=by
       generalize args.toList=ags at M;cases M with
       | cons C t=>cases t;exact⟨_,rfl,C⟩
      obtain⟨x,hx,C⟩:=L;refine Cu (N _ rfl) (z:=.int .i64 s.size) ?_ (Same.after I (av1 ⟨rfl,rfl⟩));have e1:args=#[x]:=(by apply Array.ext';simpa using hx);have e2:W=#[T.sx]:=(by apply Array.ext';simpa using ht);rw[e1,e2];simp[Builtin.len_,(vl1 C).1,run_underlying H.hs,goInt]
     ·cases B
    ·rename_i x' _
     split at B
     ·rename_i t ht
      split at B
      ·rename_i d n hd hn
       split at B
       ·cases B
       ·rename_i J
        cases B;have L:∃x,args.toList = [x]/\AvR w E (dom ob) (.m false [x']) (a.eval x):=by
         generalize args.toList=ags at M;cases M with
         | cons C t=>cases t;exact⟨_,rfl,C⟩
        obtain⟨x,hx,C⟩:=L;refine Cu (N _ rfl) (z:=.int .i64 n) ?_ (Same.after I (av1 ⟨rfl,rfl⟩));have e1:args=#[x]:=(by apply Array.ext';simpa using hx);have e2:W=#[t]:=(by apply Array.ext';simpa using ht);rw[e1,e2];simpa using zEi (H.ok _ _ hd) J I hn (vl1 C) type
      ·cases B
     ·cases B
    ·cases B
   case append=>
    have N:∀(s:Sem Value),Builtin.append_ W type (args.map a.eval)=s->execOp a.eval ⟨dst,.call ⟨.builtin .append,args,W⟩,type,pos,cA,guard⟩=(do pure (.value (<-s))):=fun s hs=>by rw[<-hs];rfl
    have M:AR (fun x R=>AvR w E (dom ob) R (a.eval x)) args.toList l:=(by simpa[Op.operands,Call.operands]using V);split at B
    ·rename_i x' y' t t' i ht
     split at B
     ·rename_i d hd
      split at B
      ·rename_i de hde
       split at B
       ·rename_i q G
        split at B
        ·rename_i J
         cases B;obtain⟨rfl,J⟩:=J;have L:∃x y,args.toList = [x,y]/\AvR w E (dom ob) (.m false [x']) (a.eval x)/\AvR w E (dom ob) (.m false [y']) (a.eval y):=by
          generalize args.toList=ags at M;cases M with
          | cons C t=>cases t with | cons F t=>cases t;exact⟨_,_,rfl,C,F⟩
         obtain⟨x,y,hx,C,F⟩:=L;have sA:∃z w' U,(Builtin.append_ #[t',t'] type #[a.eval x,a.eval y]).run P w = .ok z w'/\AX (dom ob) w E w' U/\(∀j,dom ob j->dom q.2 j)/\AU w' U q.2/\AvR w' U (dom q.2) (.m false [.h (rid i 0)]) z:=by
          unfold JJ at G;split at G
          ·rename_i q' hq'
           cases G;split at hq'
           ·exact zCB (H.ok _ _ hd) J (H.ok _ _ hde) I hq' S (vl1 C) (vl1 F) type
           ·cases hq'
          ·split at G
           ·rename_i q' hq'
            cases G;exact zCC (H.ok _ _ hd) J (H.ok _ _ hde) I hq' S (vl1 C) (vl1 F) type
           ·exact zC1 (H.ok _ _ hd) J (H.ok _ _ hde) I G S (vl1 C) (vl1 F) type
         obtain⟨z,w',U,g1,g2,g3,g4,g5⟩:=sA;refine Cu (N _ rfl) (z:=z) ?_ ⟨z,U,rfl,g2,g3,g4,fun R e=>by cases e;exact g5⟩;have e1:args=#[x,y]:=(by apply Array.ext';simpa using hx);have e2:W=#[t',t']:=(by apply Array.ext';simpa using ht);rw[e1,e2];simpa using g1
        ·cases B
       ·cases B
      ·cases B
     ·cases B
    ·cases B
 | field t x f=>
  obtain⟨y,rfl,C⟩:=Fi V;simp only[BB,coreU]at B;split at B
  ·rename_i c d e hd
   cases e;split at B
   ·rename_i R hav
    cases B;unfold evField at hav;split at hav
    ·rename_i q G
     split at hav
     ·rename_i pC
      cases hav;obtain⟨cs,ey,aB⟩:=C;have bC:=aB.length;have N:=(H.ok _ _ hd).run_part G w (cs:=cs) (by omega);rw[<-ey]at N;refine Cu rfl N (Same.after I ?_);have Y:=(aB.drop q.1).take q.2;by_cases F:q.2=1
      ·rw[if_pos F,show(q.2 != 1)=false by simp[F]];obtain⟨v,hv⟩:∃v,cs[q.1]?=some v:=⟨cs[q.1]'(by omega),List.getElem?_eq_getElem (by omega)⟩;have O:(cs.drop q.1).take q.2 = [v]:=by
        have jA:q.1<cs.length:=(by omega);rw[F,List.drop_eq_getElem_cons jA,List.take_succ_cons,List.take_zero];rw[List.getElem?_eq_getElem jA]at hv;cases hv;rfl
       rw[O]at Y;rw[List.getD_eq_getElem?_getD,hv];obtain⟨x',aC⟩:∃x',(c.drop q.1).take q.2 = [x']:=by
        have:=Y.length
        match hm:(c.drop q.1).take q.2,this with
        | [x'],_=>exact⟨x',rfl⟩
       rw[aC]at Y ⊢;cases Y with
       | cons k1 _=>exact⟨x',rfl,k1⟩
      ·rw[if_neg F,show(q.2 != 1)=true by simp[F]];exact⟨_,rfl,Y⟩
     ·cases hav
    ·cases hav
   ·cases B
  ·cases B
 | convert src t x=>
  obtain⟨y,rfl,C⟩:=Fi V;simp only[BB,coreU]at B;split at B
  ·rename_i x' e
   cases e;split at B
   ·rename_i q G
    cases B;have F:=vl1 C;unfold evConv at G;split at G
    ·rename_i K n
     split at G
     ·rename_i k1 k2 hk1 hk2
      cases G;refine Cu (s:=convert src t (a.eval x)) rfl (z:=.int k2 (k2.wrap n)) ?_ (Same.after I (av1 ⟨rfl,rfl⟩));rw[F.1];unfold convert;simp[run_underlying (H.hik _ _ hk1),run_underlying (H.hik _ _ hk2),Conv.intToInt]
     ·cases G
    ·rename_i i
     split at G
     ·rename_i k n f hi
      split at G
      ·rename_i vA
       obtain⟨rfl,rfl,rfl⟩:=vA;cases G;obtain⟨-,aa,cap,vB,hn,aA⟩:=Kd I hi;refine Cu (s:=convert T.by' T.sx (a.eval x)) rfl (z:=.string (Md n f)) ?_ (Same.after I (av1 ⟨rfl,rfl⟩));rw[F.2.1,vB];have lA:n=0->Md n f=ByteArray.empty:=fun e=>by subst e;rfl
       rcases Nat.eq_zero_or_pos cap with e0 | e0
       ·have en:n=0:=(by omega);cases aa with
        | none=>rw[lA en];exact run_convert_bytes_nil w _ _ H.hby H.hu8 _ _ _ H.hs
        | some A=>
         rw[run_convert_bytes_string w _ _ _ _ _ _ H.hby H.hu8 H.hs,lA en];subst en;simp[Conv.bytesToString,loadCells,loadCellsFrom]
       ·obtain⟨ha,-,cs,TT,hh,M,mB⟩:=aA e0;subst ha;refine run_convert_bytes_arg w _ _ H.hby H.hu8 _ 0 _ _ _ (by simp) (fun p hp=>?_) _ H.hs;obtain⟨u,hu,hs⟩:=mB p 0 hp (by omega);obtain⟨v,hv⟩:=S p hp;rw[hv]at hs;obtain⟨rfl,-⟩:=hs;rw[cell_of_row w _ _ _ TT _ hh];simp only[Nat.mul_one,Nat.add_zero,Nat.zero_add]at hu ⊢;simp only[List.getElem?_toArray,hu,List.getD_eq_getElem?_getD,List.getElem?_map,List.getElem?_range hp,Option.map_some,Option.getD_some,hv,yR]
      ·cases G
     ·cases G
    ·cases G
   ·cases B
  ·cases B
 | _=>simp only[BB,coreU]at B;cases B
def Cv.ids:Cv->List Nat
 | .h i=>[i]
 | .p i _=>[i]
 | .e i _ _ _=>[i]
 | .hs i _ _ _=>[i]
 | _=>[]
def Av.ids:Av->List Nat
 | .m _ l=>l.flatMap Cv.ids
 | .t l=>l.flatMap fun q=>q.2.flatMap Cv.ids
def deep(ob:List (Nat×Ob)):List Av->List Nat
 | .m false [.p j 0] :: _=>match get ob j with
  | some (.var cl)=>cl.flatMap Cv.ids
  | _=>[]
 | _=>[]
def Mg(Γ : List (Nat×AL))(f:Nat):Bool:=(get Γ f).isSome
def CP(d:Nat):List Nat:=d :: (List.range 40).map (rid d)
def K5:Cv->List Nat
 | .e i _ _ _=>[i]
 | _=>[]
def hdC:List Av->Cv
 | .m false [x] :: _=>x
 | _=>.v (.bool false)
def SQ:List Av->Cv
 | _ :: .m false [x] :: _=>x
 | _=>.v (.bool false)
structure Tk where
 tc:List Nat
 sh:List Nat
 wr:List Nat
 sw:List Nat
def tks(T:Tb)(Γ : List (Nat×AL))(ob:List (Nat×Ob))(op:Op)(dst:Option Nat)(l:List Av):Tk:=
 match op,dst with
 | .alloc _,some d=>⟨[d],[],[d],[]⟩
 | .box _ _,some d=>⟨[d],[],[d],[]⟩
 | .buildSlice _ _ _,some d=>⟨l.flatMap Av.ids ++ [rid d 0],[],l.flatMap Av.ids ++ [rid d 0],[]⟩
 | .makeSlice _ _ _,some d=>⟨[rid d 0],[],[rid d 0],[]⟩
 | .load t _,some d=>if t=T.tk then⟨l.flatMap Av.ids ++ [rid d 0],[],[rid d 0],K5 (hdC l)⟩else⟨l.flatMap Av.ids,[],[],[]⟩
 | .store _ _ _,_=>⟨l.flatMap Av.ids,[],l.flatMap Av.ids,[]⟩
 | .slice _ _ _ _ _,_=>⟨[],l.flatMap Av.ids,[],[]⟩
 | .call ⟨.builtin .append,_,tys⟩,some d=>⟨(hdC l).ids ++ (SQ l).ids ++ [rid d 0],[],(hdC l).ids ++ [rid d 0],if tys.toList = [T.mv,T.mv] then(SQ l).ids else []⟩
 | .call ⟨.value (.func f),_,_⟩,some d=>if Mg Γ f then⟨(l.drop 1).flatMap Av.ids ++ CP d,[],CP d,[]⟩else⟨(l.drop 1).flatMap Av.ids ++ deep ob (l.drop 1) ++ CP d,[],(l.drop 1).flatMap Av.ids ++ deep ob (l.drop 1) ++ CP d,[]⟩
 | .move _,_ | .nilCheck _,_ | .fieldAddr _ _ _,_=>⟨[],[],[],[]⟩
 | _,_=>⟨l.flatMap Av.ids,[],[],[]⟩
def puts(ob:List (Nat×Ob))(us:List (Nat×Ob)):List (Nat×Ob):=us.foldl (fun o q=>put o q.1 q.2) ob
def Agr(L:List Nat)(ob ob':List (Nat×Ob)):Prop:=∀j,j∈L->get ob' j=get ob j
variable{L:List Nat}{ob':List (Nat×Ob)}
theorem Agr.put(h:Agr L ob ob')(i:Nat)(x:Ob):Agr L (put ob i x) (put ob' i x):=fun j a=>by
 rw[BD,BD,h j a]
theorem Agr.sub{L':List Nat}(h:Agr L ob ob')(hs:∀j,j∈L'->j∈L):Agr L' ob ob':=fun j a=>h j (hs j a)
def Ot(L H:List Nat)(ob ob':List (Nat×Ob)):Prop:=Agr L ob ob'/\∀j,j∈H->shp (get ob' j)=shp (get ob j)
variable{x:Cv}
theorem zCD{d:TyD}(h:Agr x.ids ob ob'):evLoad d ob' x=evLoad d ob x:=by
 cases x<;>simp only[evLoad]<;>first | rfl | (rw[h _ (by simp[Cv.ids])])
theorem J3(h:get ob' i=get ob i):rowE ob' i=rowE ob i:=by unfold rowE;rw[h]
theorem zBg(h:Agr x.ids ob ob'):evLen ob' x=evLen ob x:=by
 cases x with
 | h i=>simp only[evLen];rw[J3 (h i (by simp[Cv.ids]))]
 | v x=>
  cases x with
  | slice a n c=>cases a with
   | none=>cases n<;>cases c<;>rfl
   | some _=>rfl
  | _=>rfl
 | _=>rfl
variable{k:Nat}
theorem Yb(h:Agr x.ids ob ob'):srcOf k ob' x=srcOf k ob x:=by
 cases x with
 | h i=>simp only[srcOf];rw[J3 (h i (by simp[Cv.ids]))]
 | hs i k lo n=>simp only[srcOf];rw[J3 (h i (by simp[Cv.ids]))]
 | v x=>
  cases x with
  | slice a n c=>cases a with
   | none=>cases n<;>cases c<;>rfl
   | some _=>rfl
  | _=>rfl
 | _=>rfl
theorem zAP(h:Agr x.ids ob ob'):mvOf k ob' x=mvOf k ob x:=by
 cases x with
 | h i=>simp only[mvOf];rw[h i (by simp[Cv.ids])]
 | hs i k lo n=>simp only[mvOf];rw[h i (by simp[Cv.ids])]
 | _=>rfl
theorem zAE(h:Agr x.ids ob ob'):tlOf k ob' x=tlOf k ob x:=by
 cases x with
 | h i=>simp only[tlOf];rw[h i (by simp[Cv.ids])]
 | _=>rfl
theorem Yg(h:Agr x.ids ob ob'):dstOf k ob' x=dstOf k ob x:=by
 cases x with
 | h i=>simp only[dstOf];rw[h i (by simp[Cv.ids])]
 | v x=>
  cases x with
  | slice a n c=>cases a with
   | none=>cases n<;>cases c<;>rfl
   | some _=>rfl
  | _=>rfl
 | _=>rfl
theorem zBz(h:Agr x.ids ob ob'):argOf ob' x=argOf ob x:=by
 cases x with
 | h i=>simp only[argOf];rw[J3 (h i (by simp[Cv.ids]))]
 | _=>rfl
theorem YP{ob ob':List (Nat×Ob)}:∀{l:List Cv},Agr (l.flatMap Cv.ids) ob ob'->argL (argOf ob') l=argL (argOf ob) l
 | [],_=>rfl
 | x :: r,h=>by
  simp only[argL];rw[zBz (h.sub fun j a=>by simp[a]),YP (h.sub fun j a=>by simp at a ⊢;exact .inr a)]
theorem Ye{ob ob':List (Nat×Ob)}:∀{l:List Av},Agr (l.flatMap Av.ids) ob ob'->argsF (argOf ob') l=argsF (argOf ob) l
 | [],_=>rfl
 | .m g c :: r,h=>by
  simp only[argsF];rw[YP (h.sub fun j a=>by simp[Av.ids]at a ⊢;exact .inl a),Ye (h.sub fun j a=>by simp at a ⊢;exact .inr a)]
 | .t l :: r,h=>rfl
variable{keep:Bool}
theorem OY(h:Agr (l.flatMap Av.ids) ob ob'):IW keep ob' l=IW keep ob l:=by
 cases keep with
 | true=>rfl
 | false=>exact Ye h
theorem zGL(h:Agr x.ids ob ob'):vT ob' x=vT ob x:=by
 cases x with
 | h i=>simp only[vT];rw[h i (by simp[Cv.ids])]
 | s fl k n f=>cases fl<;>rfl
 | _=>rfl
theorem RN{ob ob':List (Nat×Ob)}:∀{l:List Cv},Agr (l.flatMap Cv.ids) ob ob'->varT ob' l=varT ob l
 | [],_=>rfl
 | x :: r,h=>by
  simp only[varT];rw[zGL (h.sub fun j a=>by simp[a]),RN (h.sub fun j a=>by simp at a ⊢;exact .inr a)]
def qY(f:List (Nat×Ob)->Option (List (Nat×Ob)))(L W:List Nat):Prop:=∀ob ob',f ob=some ob'->∃us,ob'=puts ob us/\(∀q∈us,q.1∈W)/\∀ob2,Agr L ob ob2->f ob2=some (puts ob2 us)
theorem Yp(d:Nat):∀(l:List Tr) (n:Nat),qY (fun ob=>outOb d n ob l) ((List.range' n l.length).map (rid d)) ((List.range' n l.length).map (rid d))
 | [],n=>fun ob ob' h=>by cases h;exact⟨[],rfl,by simp,fun ob2 _=>rfl⟩
 | T :: r,n=>fun ob ob' h=>by
  simp only[outOb]at h;split at h
  ·rename_i i h1
   obtain⟨us,e,w,t⟩:=Yp d r (n+1) i ob' h;by_cases u:∃k m f,T = .s .o k m f
   ·obtain⟨k,m,f,rfl⟩:=u;simp only[obO]at h1;split at h1
    ·rename_i hn
     cases h1;refine⟨(rid d n,.row k m f) :: us,e,fun q g=>?_,fun ob2 a=>?_⟩
     ·cases g with
      | head=>simp[List.range'_succ]
      | tail _ hm=>have:=w q hm;simp only[List.length_cons,List.range'_succ,List.map_cons,List.mem_cons];exact .inr this
     ·simp only[outOb,obO];rw[a (rid d n) (by simp[List.range'_succ]),hn];exact t _ (Agr.put (a.sub fun j c=>by simp only[List.length_cons,List.range'_succ,List.map_cons,List.mem_cons];exact .inr c) _ _)
    ·cases h1
   ·have p:∀ob,obO ob (rid d n) T=some ob:=fun ob=>by
     cases T with
     | v x=>rfl
     | s fl k m f=>
      cases fl with
      | b=>rfl
      | z=>rfl
      | o=>exact absurd ⟨k,m,f,rfl⟩ u
    rw[p]at h1;cases h1;refine⟨us,e,fun q g=>?_,fun ob2 a=>?_⟩
    ·have:=w q g;simp only[List.length_cons,List.range'_succ,List.map_cons,List.mem_cons];exact .inr this
    ·simp only[outOb,p];exact t _ (a.sub fun j c=>by simp only[List.length_cons,List.range'_succ,List.map_cons,List.mem_cons];exact .inr c)
  ·cases h
theorem D3(ob us vs:List (Nat×Ob)):puts ob (us ++ vs)=puts (puts ob us) vs:=by simp[puts]
theorem Agr.puts(h:Agr L ob ob'):∀us,Agr L (puts ob us) (puts ob' us):=by
 intro us
 induction us generalizing ob ob' with
 | nil=>exact h
 | cons q r ih=>exact ih (h.put _ _)
theorem MQ(d:Nat):∀(l:List (Bool×List Tr)) (n:Nat),qY (fun ob=>Ea d n ob l) ((List.range' n (tot l)).map (rid d)) ((List.range' n (tot l)).map (rid d))
 | [],n=>fun ob ob' h=>by cases h;exact⟨[],rfl,by simp,fun ob2 _=>rfl⟩
 | q :: r,n=>fun ob ob' h=>by
  simp only[Ea]at h;split at h
  ·rename_i f h1
   obtain⟨us,e,s,p⟩:=Yp d q.2 n ob f h1;obtain⟨vs,o,k,i⟩:=MQ d r (n+q.2.length) f ob' h;have a:List.range' n (tot (q :: r))=List.range' n q.2.length ++ List.range' (n+q.2.length) (tot r):=by
    simp only[tot];rw[List.range'_append_1]
   refine⟨us ++ vs,by rw[D3,<-e];exact o,fun x c=>?_,fun ob2 m=>?_⟩
   ·rw[a,List.map_append,List.mem_append];rcases List.mem_append.1 c with c | c
    ·exact .inl (s x c)
    ·exact .inr (k x c)
   ·have b:=p ob2 (m.sub fun j g=>by rw[a,List.map_append,List.mem_append];exact .inl g);simp only at b;simp only[Ea];rw[b,D3];refine i _ ?_;rw[e];exact Agr.puts (m.sub fun j g=>by rw[a,List.map_append,List.mem_append];exact .inr g) us
  ·cases h
theorem Xf{d:Nat}:∀{l:List Tr} {n:Nat} {ob ob':List (Nat×Ob)},l.any Tr.own=false->outOb d n ob l=some ob'->ob'=ob
 | [],n,ob,ob',_,h=>by cases h;rfl
 | T :: r,n,ob,ob',ha,h=>by
  simp only[List.any_cons,Bool.or_eq_false_iff]at ha;have a:obO ob (rid d n) T=some ob:=by
   cases T with
   | v x=>rfl
   | s fl k m f=>
    cases fl with
    | b=>rfl
    | z=>rfl
    | o=>cases ha.1
  simp only[outOb,a]at h;exact Xf ha.2 h
theorem Yq{d:Nat}:∀{l:List (Bool×List Tr)} {n:Nat} {ob ob':List (Nat×Ob)},(l.any fun q=>q.2.any Tr.own)=false->Ea d n ob l=some ob'->ob'=ob
 | [],n,ob,ob',_,h=>by cases h;rfl
 | q :: r,n,ob,ob',ha,h=>by
  simp only[List.any_cons,Bool.or_eq_false_iff]at ha;simp only[Ea]at h;split at h
  ·rename_i a h1
   rw[Xf ha.1 h1]at h;exact Yq ha.2 h
  ·cases h
variable{sp:AL}
theorem zC2(h:evCall keep sp i ob r=some D)(hn:D.nw=false):D.ob=ob:=by
 unfold evCall at h;split at h
 ·split at h
  ·split at h
   ·split at h
    ·cases h;simp only[Bool.or_eq_false_iff]at hn;obtain⟨rfl,hn⟩:=hn;exact Yq hn (by assumption)
    ·cases h
   ·cases h
  ·cases h
 ·cases h
theorem zAZ(h:evCallN sp i ob r=some D):D.nw=true:=by
 unfold evCallN at h;split at h
 ·split at h
  ·split at h
   ·split at h
    ·split at h
     ·cases h;rfl
     ·cases h
    ·cases h
   ·cases h
  ·cases h
 ·cases h
theorem zAd{j:Nat}(h:evCallP keep sp i j ob r=some D):D.nw=true:=by
 unfold evCallP at h;split at h
 ·split at h
  ·split at h
   ·split at h
    ·split at h
     ·split at h
      ·cases h;rfl
      ·cases h
     ·cases h
    ·cases h
   ·cases h
  ·cases h
 ·cases h
theorem zAb(h:evCallO sp i ob r=some D):D.nw=true:=by
 unfold evCallO at h
 repeat' split at h
 all_goals first
  | (cases h;rfl)
  | (cases h;done)
variable{dst:Option Nat}
theorem za{op:Op}(h:BB T Γ dst ob op l=some D)(hn:D.nw=false):D.ob=ob:=by
 unfold BB coreU at h
 repeat' split at h
 all_goals first
  | (cases h;done)
  | (cases h;rfl)
  | (cases h;cases hn;done)
  | skip
 ·unfold evLd at h
  repeat' split at h
  all_goals first
   | (cases h;done)
   | (cases h;rfl)
   | (cases h;cases hn;done)
 ·unfold evC at h
  repeat' split at h
  all_goals first
   | (cases h;done)
   | exact zC2 h hn
   | (rw[zAZ h]at hn;cases hn)
   | (rw[zAd h]at hn;cases hn)
   | (rw[zAb h]at hn;cases hn)
set_option linter.unusedSimpArgs false
theorem zAj(x:Cv)(ob:List (Nat×Ob)):∃b,(frz1 ob x).2=puts ob b/\(∀q∈b,q.1∈x.ids)/\∀ob2,Agr x.ids ob ob2->frz1 ob2 x=((frz1 ob x).1,puts ob2 b):=by
 cases x with
 | h r=>
  simp only[frz1];cases hg:rowE ob r with
  | none=>exact⟨[],rfl,by simp,fun ob2 a=>by rw[J3 (a r (by simp[Cv.ids])),hg];rfl⟩
  | some o=>exact⟨[(r,.dead)],rfl,by simp[Cv.ids],fun ob2 a=>by rw[J3 (a r (by simp[Cv.ids])),hg];rfl⟩
 | _=>exact⟨[],rfl,by simp,fun ob2 a=>rfl⟩
theorem O3:∀(l:List Cv) (ob:List (Nat×Ob)),∃b,(frz l ob).2=puts ob b/\(∀q∈b,q.1∈l.flatMap Cv.ids)/\∀ob2,Agr (l.flatMap Cv.ids) ob ob2->frz l ob2=((frz l ob).1,puts ob2 b)
 | [],ob=>⟨[],rfl,by simp,fun ob2 _=>rfl⟩
 | x :: l,ob=>by
  obtain⟨a,d,f,g⟩:=zAj x ob;obtain⟨n,i,k,m⟩:=O3 l (frz1 ob x).2;refine⟨a ++ n,?_,fun q r=>?_,fun ob2 e=>?_⟩
  ·simp only[frz,i,D3];rw[d]
  ·simp only[List.flatMap_cons,List.mem_append];rcases List.mem_append.1 r with h | h
   ·exact .inl (f q h)
   ·exact .inr (k q h)
  ·have o:=g ob2 (e.sub fun j c=>by simp[c]);have p:=m (puts ob2 a) (d▸(e.sub fun j c=>by simp only[List.flatMap_cons,List.mem_append];exact .inr c).puts a);simp only[frz,o,p,D3]
theorem Y9:∀(l:List (Nat×List Cv)) (ob:List (Nat×Ob)),∃b,(Ek l ob).2=puts ob b/\(∀q∈b,q.1∈l.flatMap fun p=>p.2.flatMap Cv.ids)/\∀ob2,Agr (l.flatMap fun p=>p.2.flatMap Cv.ids) ob ob2->Ek l ob2=((Ek l ob).1,puts ob2 b)
 | [],ob=>⟨[],rfl,by simp,fun ob2 _=>rfl⟩
 | x :: l,ob=>by
  obtain⟨a,d,f,g⟩:=O3 x.2 ob;obtain⟨n,i,k,m⟩:=Y9 l (frz x.2 ob).2;refine⟨a ++ n,?_,fun q s=>?_,fun ob2 e=>?_⟩
  ·simp only[Ek,i,D3];rw[d]
  ·rw[List.flatMap_cons,List.mem_append];rcases List.mem_append.1 s with h | h
   ·exact .inl (f q h)
   ·exact .inr (k q h)
  ·have o:=g ob2 (e.sub fun j c=>by rw[List.flatMap_cons,List.mem_append];exact .inl c);have r:=m (puts ob2 a) (d▸(e.sub fun j c=>by rw[List.flatMap_cons,List.mem_append];exact .inr c).puts a);simp only[Ek,o,r,D3]
theorem Yr:∀{ps:List (Nat×Operand)} {l:List Av} {q:List (Nat×List Cv)},partsOf ps l=some q->∀j∈q.flatMap (fun p=>p.2.flatMap Cv.ids),j∈l.flatMap Av.ids
 | [],l,q,h=>by
  cases l with
  | nil=>cases h;simp
  | cons x r=>first | (cases h;done) | (cases h;simp)
 | (i,o) :: ps,[],q,h=>by cases h
 | (i,o) :: ps,.t c :: s,q,h=>by cases h
 | (i,o) :: ps,.m g c :: s,q,h=>by
  simp only[partsOf]at h;split at h
  ·rename_i b hq'
   cases h;intro j a;rw[List.flatMap_cons,List.mem_append]at a ⊢;rcases a with a | a
   ·exact .inl a
   ·exact .inr (Yr hq' j a)
  ·cases h
def tkP(ob:List (Nat×Ob))(r:Nat):Cv->Option (Prop×List (Nat×Ob))
 | .e i k a j=>match get ob i,get ob r with
  | some (.row k' n F),none=>match oOf (F a j)with
   | some (kk,m,h)=>if k'=k/\j+1<=k then some (a<n,[(i,.row k n (Ae F a j [.s .z kk m h])),(r,.tl kk m h)])else none
   | none=>none
  | _,_=>none
 | _=>none
def stP(d:TyD)(ob:List (Nat×Ob))(l:List Cv):Cv->Option (Prop×List (Nat×Ob))
 | .p i o=>match get ob i with
  | some (.var m)=>if o+d.k<=m.length/\l.length=d.k then some (True,[(i,.var (m.take o ++ l ++ m.drop (o+d.k)))])else none
  | _=>none
 | .e i k a j=>match get ob i,trs l with
  | some (.row k' n f),some ts=>if k'=k/\j+d.k<=k/\l.length=d.k then some (a<n,[(i,.row k n (Ae f a j ts))])else none
  | _,_=>none
 | _=>none
def shP(d:TyD)(ob:List (Nat×Ob))(r:Nat):Cv->Option (Prop×List (Nat×Ob))
 | .e i k a j=>match get ob i,rowE ob r with
  | some (.row k' n f),some (kk,m,h)=>if k'=k/\j+1<=k/\d.k=1/\r≠i then some (a<n,[(r,.dead),(i,.row k n (Ae f a j [.s .o kk m h]))])else none
  | _,_=>none
 | _=>none
def LB:Option Nat->List (Nat×Ob)
 | some i=>[(i,.dead)]
 | none=>[]
def apP(de:TyD)(ob:List (Nat×Ob))(r:Nat)(x y:Cv):Option (Prop×List (Nat×Ob)):=
 match get ob r,dstOf de.k ob x,srcOf de.k ob y with
 | none,some (i,n,f),some (C,m,f')=>some (C/\n+m<=1000000000,LB i ++ [(r,.row de.k (n+m) (Ai f n f'))])
 | _,_,_=>none
def atPE(de:TyD)(ob:List (Nat×Ob))(r:Nat)(x y:Cv):Option (Prop×List (Nat×Ob)):=
 match get ob r,tlOf de.k ob x,srcOf de.k ob y with
 | none,some (i,n,f),some (C,m,f')=>some (C/\n+m<=1000000000,[(i,.dead),(r,.tl de.k (n+m) (Ai f n f'))])
 | _,_,_=>none
def amP(de:TyD)(ob:List (Nat×Ob))(r:Nat)(x y:Cv):Option (Prop×List (Nat×Ob)):=
 match get ob r,dstOf de.k ob x,mvOf de.k ob y with
 | none,some (id,n,f),some (C,i,lo,m,N,F)=>if id≠some i then some (C/\n+m<=1000000000,LB id ++ [(i,.row de.k N (ntR F lo m)),(r,.row de.k (n+m) (Ai f n fun p q=>F (lo+p) q))])else none
 | _,_,_=>none
section
variable {ob ob2 : List (Nat × Ob)} {r : Nat} {x y : Cv} {d de : TyD} {l : List Cv}
theorem RS:evTake ob r x=(tkP ob r x).map fun q=>(q.1,puts ob q.2):=by
 cases x<;>simp only[evTake,tkP]<;>first | rfl | skip
 rename_i i k a j
 cases get ob i with
 | none=>rfl
 | some o=>
  cases o with
  | row k' n F=>
   cases get ob r with
   | none=>
    dsimp only;cases oOf (F a j)with
    | none=>rfl
    | some q=>dsimp only;split<;>rfl
   | some _=>rfl
  | _=>rfl
theorem Od:evStore d ob l x=(stP d ob l x).map fun q=>(q.1,puts ob q.2):=by
 cases x<;>simp only[evStore,stP]<;>first | rfl | skip
 ·rename_i i o
  cases get ob i with
  | none=>rfl
  | some q=>cases q<;>first | rfl | (dsimp only;split<;>rfl)
 ·rename_i i k a j
  cases get ob i with
  | none=>rfl
  | some q=>
   cases q with
   | row k' n f=>
    cases trs l with
    | none=>rfl
    | some ts=>dsimp only;split<;>rfl
   | _=>rfl
theorem ZE:evStoreH d ob r x=(shP d ob r x).map fun q=>(q.1,puts ob q.2):=by
 cases x<;>simp only[evStoreH,shP]<;>first | rfl | skip
 rename_i i k a j
 cases get ob i with
 | none=>rfl
 | some q=>
  cases q with
  | row k' n f=>
   cases rowE ob r with
   | none=>rfl
   | some ts=>dsimp only;split<;>rfl
  | _=>rfl
theorem Vy(i:Option Nat):DQ ob i=puts ob (LB i):=by cases i<;>rfl
theorem ZC:evAppend de ob r x y=(apP de ob r x y).map fun q=>(q.1,puts ob q.2):=by
 unfold evAppend apP;cases get ob r with
 | some _=>rfl
 | none=>
  cases dstOf de.k ob x with
  | none=>rfl
  | some q=>
   cases srcOf de.k ob y with
   | none=>rfl
   | some p=>simp only[Option.map_some,D3,<-Vy];rfl
theorem Om:evAppendT de ob r x y=(atPE de ob r x y).map fun q=>(q.1,puts ob q.2):=by
 unfold evAppendT atPE;cases get ob r with
 | some _=>rfl
 | none=>
  cases tlOf de.k ob x with
  | none=>rfl
  | some q=>
   cases srcOf de.k ob y with
   | none=>rfl
   | some p=>rfl
theorem Rc:evAppendM de ob r x y=(amP de ob r x y).map fun q=>(q.1,puts ob q.2):=by
 unfold evAppendM amP;cases get ob r with
 | some _=>rfl
 | none=>
  cases dstOf de.k ob x with
  | none=>rfl
  | some q=>
   cases mvOf de.k ob y with
   | none=>rfl
   | some p=>
    dsimp only;split
    ·simp only[Option.map_some,D3,<-Vy];rfl
    ·rfl
theorem Vq(h:Agr (x.ids ++ [r]) ob ob2):tkP ob2 r x=tkP ob r x:=by
 cases x<;>simp only[tkP]<;>first | rfl | skip
 rename_i i k a j
 rw[h i (by simp[Cv.ids]),h r (by simp)]
theorem Vl(h:Agr x.ids ob ob2):stP d ob2 l x=stP d ob l x:=by
 cases x<;>simp only[stP]<;>first | rfl | skip
 ·rename_i i o;rw[h i (by simp[Cv.ids])]
 ·rename_i i k a j;rw[h i (by simp[Cv.ids])]
theorem zEC(h:Agr (x.ids ++ [r]) ob ob2):shP d ob2 r x=shP d ob r x:=by
 cases x<;>simp only[shP]<;>first | rfl | skip
 rename_i i k a j
 rw[h i (by simp[Cv.ids]),J3 (h r (by simp))]
theorem zU(h:Agr (x.ids ++ y.ids ++ [r]) ob ob2):apP de ob2 r x y=apP de ob r x y:=by
 unfold apP;rw[h r (by simp),Yg (h.sub fun j a=>by simp[a]),Yb (h.sub fun j a=>by simp[a])]
theorem XB(h:Agr (x.ids ++ y.ids ++ [r]) ob ob2):atPE de ob2 r x y=atPE de ob r x y:=by
 unfold atPE;rw[h r (by simp),zAE (h.sub fun j a=>by simp[a]),Yb (h.sub fun j a=>by simp[a])]
theorem X8(h:Agr (x.ids ++ y.ids ++ [r]) ob ob2):amP de ob2 r x y=amP de ob r x y:=by
 unfold amP;rw[h r (by simp),Yg (h.sub fun j a=>by simp[a]),zAP (h.sub fun j a=>by simp[a])]
end
def Sft(ob:List (Nat×Ob))(W S:List Nat)(us:List (Nat×Ob)):Prop:=∀q∈us,q.1∈W\/(q.1∈S/\shp (some q.2)=shp (get ob q.1))
variable{W S:List Nat}
theorem Sft.nil:Sft ob W S []:=fun q a=>by cases a
theorem Sft.w{us:List (Nat×Ob)}(h:∀q∈us,q.1∈W):Sft ob W S us:=fun q a=>.inl (h q a)
section
variable {ob : List (Nat × Ob)} {r : Nat} {x y : Cv} {d de : TyD} {l : List Cv} {c : Prop} {us : List (Nat × Ob)}
theorem zHV(h:tkP ob r x=some (c,us)):Sft ob [r] (K5 x) us:=by
 cases x<;>simp only[tkP]at h<;>try (cases h;done)
 rename_i i k a j
 split at h
 ·rename_i e n F hi hr
  split at h
  ·split at h
   ·rename_i d
    cases h;obtain⟨rfl,-⟩:=d;intro q b;rcases List.mem_cons.1 b with rfl | b
    ·exact .inr ⟨by simp[K5],by rw[hi];rfl⟩
    ·rcases List.mem_cons.1 b with rfl | b
     ·exact .inl (by simp)
     ·cases b
   ·cases h
  ·cases h
 ·cases h
theorem SU(h:stP d ob l x=some (c,us)):∀q∈us,q.1∈x.ids:=by
 cases x<;>simp only[stP]at h<;>try (cases h;done)
 all_goals repeat' split at h
 all_goals first | (cases h;done) | (cases h;simp[Cv.ids])
theorem zHJ(h:shP d ob r x=some (c,us)):∀q∈us,q.1∈x.ids ++ [r]:=by
 cases x<;>simp only[shP]at h<;>try (cases h;done)
 repeat' split at h
 all_goals first | (cases h;done) | (cases h;simp[Cv.ids])
theorem Tn{id:Option Nat}{n:Nat}{f:Nat->Nat->Tr}(h:dstOf k ob x=some (id,n,f)):∀q∈LB id,q.1∈x.ids:=by
 unfold dstOf at h
 repeat' split at h
 all_goals first | (cases h;done) | (cases h;simp[LB,Cv.ids])
theorem zGb(h:apP de ob r x y=some (c,us)):∀q∈us,q.1∈x.ids ++ [r]:=by
 unfold apP at h;split at h
 ·rename_i i n f C m f' hr hd hs
  cases h;intro q a;rcases List.mem_append.1 a with a | a
  ·exact List.mem_append_left _ (Tn hd q a)
  ·simp at a;simp[a]
 ·cases h
theorem zGd(h:atPE de ob r x y=some (c,us)):∀q∈us,q.1∈x.ids ++ [r]:=by
 unfold atPE at h;split at h
 ·rename_i i n f C m f' hr hd hs
  cases h;have hi:i∈x.ids:=by
   unfold tlOf at hd
   repeat' split at hd
   all_goals first | (cases hd;done) | (cases hd;simp[Cv.ids])
  intro q a;rcases List.mem_cons.1 a with rfl | a
  ·exact List.mem_append_left _ hi
  ·simp at a;simp[a]
 ·cases h
theorem zGa(h:amP de ob r x y=some (c,us)):Sft ob (x.ids ++ [r]) y.ids us:=by
 unfold amP at h;split at h
 ·rename_i id n f C i lo m N F hr hd hs
  split at h
  ·cases h;have hi:i∈y.ids/\shp (get ob i)=some (de.k,N):=by
    unfold mvOf at hs;split at hs
    ·split at hs
     ·rename_i b
      split at hs
      ·rename_i e
       subst e;cases hs;exact⟨by simp[Cv.ids],by rw[b];rfl⟩
      ·cases hs
     ·cases hs
    ·split at hs
     ·rename_i b
      split at hs
      ·rename_i e
       obtain⟨rfl,rfl⟩:=e;cases hs;exact⟨by simp[Cv.ids],by rw[b];rfl⟩
      ·cases hs
     ·cases hs
    ·cases hs
   intro q a;rcases List.mem_append.1 a with a | a
   ·exact .inl (List.mem_append_left _ (Tn hd q a))
   ·rcases List.mem_cons.1 a with rfl | a
    ·exact .inr ⟨hi.1,hi.2.symm⟩
    ·simp at a;exact .inl (by simp[a])
  ·cases h
 ·cases h
end
theorem R6:∀(l:List Av) (ob:List (Nat×Ob)),∃n,(DO l ob).2=puts ob n/\(∀q∈n,q.1∈l.flatMap Av.ids)/\∀ob2,Agr (l.flatMap Av.ids) ob ob2->DO l ob2=((DO l ob).1,puts ob2 n)
 | [],ob=>⟨[],rfl,by simp,fun ob2 _=>rfl⟩
 | .t c :: l,ob=>by
  obtain⟨k,d,e,f⟩:=R6 l ob;exact⟨k,d,fun q o=>by simp only[List.flatMap_cons,List.mem_append];exact .inr (e q o),fun ob2 b=>by simp only[DO,f ob2 (b.sub fun j a=>by simp only[List.flatMap_cons,List.mem_append];exact .inr a)]⟩
 | .m g c :: l,ob=>by
  obtain⟨i,p,r,s⟩:=O3 c ob;obtain⟨k,d,e,f⟩:=R6 l (frz c ob).2;refine⟨i ++ k,?_,fun q o=>?_,fun ob2 b=>?_⟩
  ·simp only[DO,d,D3];rw[p]
  ·simp only[List.flatMap_cons,List.mem_append];rcases List.mem_append.1 o with h | h
   ·exact .inl (r q h)
   ·exact .inr (e q h)
  ·have u:=s ob2 (b.sub fun j a=>by rw[List.flatMap_cons,List.mem_append];exact .inl a);have v:=f (puts ob2 i) (p▸(b.sub fun j a=>by rw[List.flatMap_cons,List.mem_append];exact .inr a).puts i);simp only[DO,u,v,D3]
theorem R7(keep:Bool)(l:List Av)(ob:List (Nat×Ob)):∃a,(CI keep l ob).2=puts ob a/\(∀q∈a,q.1∈l.flatMap Av.ids)/\(keep=false->a = [])/\∀ob2,Agr (l.flatMap Av.ids) ob ob2->CI keep l ob2=((CI keep l ob).1,puts ob2 a):=by
 cases keep with
 | true=>obtain⟨a,b,c,d⟩:=R6 l ob;exact⟨a,b,c,fun h=>(by cases h),d⟩
 | false=>exact⟨[],rfl,by simp,fun _=>rfl,fun ob2 _=>rfl⟩
theorem Tt:∀(c:List Cv) (ob:List (Nat×Ob)),∀j∈(frz c ob).1.flatMap Cv.ids,j∈c.flatMap Cv.ids
 | [],ob,j,a=>a
 | x :: c,ob,j,a=>by
  simp only[frz,List.flatMap_cons,List.mem_append]at a ⊢;rcases a with a | a
  ·refine .inl ?_;cases x<;>simp only[frz1]at a<;>first | exact a | skip
   split at a
   ·cases a
   ·exact a
  ·exact .inr (Tt c _ j a)
theorem QH:∀(l:List Av) (ob:List (Nat×Ob)),∀j∈(DO l ob).1.flatMap Av.ids,j∈l.flatMap Av.ids
 | [],ob,j,a=>a
 | .t c :: l,ob,j,a=>by
  simp only[DO,List.flatMap_cons,List.mem_append]at a ⊢;exact a.imp_right fun h=>QH l _ j h
 | .m g c :: l,ob,j,a=>by
  simp only[DO,List.flatMap_cons,List.mem_append]at a ⊢;rcases a with a | a
  ·exact .inl (Tt c ob j a)
  ·exact .inr (QH l _ j a)
theorem QI(keep:Bool)(l:List Av)(ob:List (Nat×Ob)):∀j∈(CI keep l ob).1.flatMap Av.ids,j∈l.flatMap Av.ids:=by
 cases keep with
 | true=>exact QH l ob
 | false=>exact fun j h=>h
variable{d:Nat}
theorem Iz{n m:Nat}(h:n+m<=40){j:Nat}(a:j∈(List.range' n m).map (rid d)):j∈CP d:=by
 simp only[CP,List.mem_cons,List.mem_map,List.mem_range'_1,List.mem_range]at *;obtain⟨q,b,rfl⟩:=a;exact .inr ⟨q,by omega,rfl⟩
theorem Z2(h:evCall keep sp i ob r=some D) :
 ∃us,D.ob=puts ob us/\(∀q∈us,q.1∈CP i\/(keep=true/\q.1∈r.flatMap Av.ids))/\∀ob2,Agr (r.flatMap Av.ids ++ CP i) ob ob2->evCall keep sp i ob2 r=some ⟨D.c,D.av,puts ob2 us,D.nw⟩:=by
 obtain⟨f,g,o,p,s⟩:=R7 keep r ob;have t:=QI keep r ob;unfold evCall at h;split at h
 ·rename_i n has
  split at h
  ·rename_i c rs hrs
   split at h
   ·rename_i ob' hob
    split at h
    ·rename_i y
     cases h;obtain⟨us,e,z,x⟩:=MQ i rs 0 _ ob' hob;refine⟨f ++ us,by rw[D3,<-g];exact e,fun q a=>?_,fun ob2 m=>?_⟩
     ·rcases List.mem_append.1 a with a | a
      ·cases keep with
       | true=>exact .inr ⟨rfl,o q a⟩
       | false=>rw[p rfl]at a;cases a
      ·exact .inl (Iz (by omega) (z q a))
     ·have u:=s ob2 (m.sub fun j d=>List.mem_append_left _ d);have b:∀L,(∀j∈L,j∈r.flatMap Av.ids ++ CP i)->Agr L (CI keep r ob).2 (puts ob2 f):=fun L w=>by
       rw[g];exact Agr.puts (m.sub w) f
      have v:=OY (keep:=keep) (l:=(CI keep r ob).1) (b _ fun j d=>List.mem_append_left _ (t j d));have k:=x (puts ob2 f) (b _ fun j d=>List.mem_append_right _ (Iz (by omega) d));simp only at k;unfold evCall;simp only[u,v,has,hrs,k,if_pos y,D3]
    ·cases h
   ·cases h
  ·cases h
 ·cases h
theorem zCw(h:evCallN sp i ob r=some D) :
 ∃us,D.ob=puts ob us/\(∀q∈us,q.1∈r.flatMap Av.ids ++ CP i)/\∀ob2,Agr (r.flatMap Av.ids ++ CP i) ob ob2->evCallN sp i ob2 r=some ⟨D.c,D.av,puts ob2 us,D.nw⟩:=by
 obtain⟨f,m,u,C,v⟩:=R7 true r ob;have w:=QI true r ob;unfold evCallN at h;split at h
 ·rename_i t has
  split at h
  ·rename_i c v0 hrs
   split at h
   ·rename_i ob' hob
    split at h
    ·rename_i k
     split at h
     ·rename_i B
      cases h;obtain⟨us,e,s,p⟩:=MQ i [(true,v0)] 1 _ ob' hob;have g:tot [(true,v0)]=v0.length:=(by simp[tot]);rw[g]at s p;refine⟨f ++ us ++ [(i,.var (DB i 1 v0))],by rw[D3,D3,<-m,<-e];rfl,fun q a=>?_,fun ob2 o=>?_⟩
      ·rcases List.mem_append.1 a with a | a
       ·rcases List.mem_append.1 a with a | a
        ·exact List.mem_append_left _ (u q a)
        ·exact List.mem_append_right _ (Iz (by omega) (s q a))
       ·simp at a;simp[a,CP]
      ·have x:=v ob2 (o.sub fun j b=>List.mem_append_left _ b);have d:∀L,(∀j∈L,j∈r.flatMap Av.ids ++ CP i)->Agr L (CI true r ob).2 (puts ob2 f):=fun L A=>by
        rw[m];exact Agr.puts (o.sub A) f
       have y:=OY (keep:=true) (l:=(CI true r ob).1) (d _ fun j b=>List.mem_append_left _ (w j b));have n:=p (puts ob2 f) (d _ fun j b=>List.mem_append_right _ (Iz (by omega) b));simp only at n;have z:get (puts (puts ob2 f) us) i=none:=by
        rw[<-k,e];exact Agr.puts (d [i] fun j b=>by simp at b;simp[b,CP]) us i (by simp)
       unfold evCallN;simp only[x,y,has,hrs,n,z,if_pos B,D3];rfl
     ·cases h
    ·cases h
   ·cases h
  ·cases h
 ·cases h
theorem IC:∀{pm:List (Nat×Nat)} {ob:List (Nat×Ob)},CX ob pm=puts ob (pm.map fun p=>(p.1,.dead))
 | [],ob=>rfl
 | p :: l,ob=>by simp only[CX];rw[IC];rfl
theorem zg:∀(l:List Av) (ob:List (Nat×Ob)) (i:Nat) (a:List Cv),get (DO l ob).2 i=some (.var a)->get ob i=some (.var a):=by
 have b:∀(x:Cv) (ob:List (Nat×Ob)) (i:Nat) (a:List Cv),get (frz1 ob x).2 i=some (.var a)->get ob i=some (.var a):=fun x ob i a h=>by
  cases x<;>simp only[frz1]at h<;>first | exact h | skip
  split at h
  ·rw[BD]at h;split at h
   ·cases h
   ·exact h
  ·exact h
 have d:∀(c:List Cv) (ob:List (Nat×Ob)) (i:Nat) (a:List Cv),get (frz c ob).2 i=some (.var a)->get ob i=some (.var a):=by
  intro c
  induction c with
  | nil=>intro ob i a h;exact h
  | cons x c ih=>intro ob i a h;simp only[frz]at h;exact b x ob i a (ih _ i a h)
 intro l
 induction l with
 | nil=>intro ob i a h;exact h
 | cons x l ih=>
  intro ob i a h;cases x with
  | m g c=>simp only[DO]at h;exact d c ob i a (ih _ i a h)
  | t c=>simp only[DO]at h;exact ih _ i a h
theorem NP:∀{l:List Cv} {n:Nat},∀p∈pmC n l,p.1∈l.flatMap Cv.ids
 | [],n,p,a=>by cases a
 | x :: l,n,p,a=>by
  rw[List.flatMap_cons,List.mem_append];cases x with
  | h r=>
   rcases List.mem_cons.1 a with rfl | a
   ·exact .inl (by simp[Cv.ids])
   ·exact .inr (NP p a)
  | _=>exact .inr (NP p a)
theorem ZD(h:evCallP keep sp d i ob r=some D)(L:List Nat)(v:L=(.m false [.p i 0] :: r).flatMap Av.ids ++ deep ob (.m false [.p i 0] :: r) ++ CP d) :
 ∃us,D.ob=puts ob us/\(∀q∈us,q.1∈L)/\∀ob2,Agr L ob ob2->evCallP keep sp d i ob2 r=some ⟨D.c,D.av,puts ob2 us,D.nw⟩:=by
 obtain⟨s,A,E,Q,F⟩:=R7 keep r ob;have G:=QI keep r ob;have k:i∈L:=by rw[v];simp[Av.ids,Cv.ids]
 have n:∀j∈r.flatMap Av.ids,j∈L:=fun j b=>by
  rw[v,List.mem_append,List.mem_append,List.flatMap_cons,List.mem_append];exact .inl (.inl (.inr b))
 have u:∀j∈CP d,j∈L:=fun j b=>by rw[v];exact List.mem_append_right _ b
 unfold evCallP at h;split at h
 ·rename_i g hi
  have x:get ob i=some (.var g):=by
   cases keep with
   | true=>exact zg r ob i g hi
   | false=>exact hi
  have t:∀j∈g.flatMap Cv.ids,j∈L:=fun j b=>by
   rw[v];refine List.mem_append_left _ (List.mem_append_right _ ?_);simp only[deep,x];exact b
  split at h
  ·rename_i vs ags hvs has
   split at h
   ·rename_i y
    split at h
    ·rename_i c v0 rs hsp
     split at h
     ·rename_i ob' hob
      split at h
      ·rename_i O
       cases h;obtain⟨us,e,P,N⟩:=MQ d ((true,v0) :: rs) 1 _ ob' hob;refine⟨s ++ (((i,0) :: pmC 0 g).map fun p=>(p.1,.dead)) ++ us ++ [(i,.var (DB d 1 v0))],?_,fun q a=>?_,fun ob2 C=>?_⟩
       ·rw[D3,D3,D3,<-A,<-IC,<-e];rfl
       ·rcases List.mem_append.1 a with a | a
        ·rcases List.mem_append.1 a with a | a
         ·rcases List.mem_append.1 a with a | a
          ·exact n _ (E q a)
          ·obtain⟨p,z,rfl⟩:=List.mem_map.1 a;rcases List.mem_cons.1 z with rfl | z
           ·exact k
           ·exact t _ (NP p z)
         ·exact u _ (Iz (by omega) (P q a))
        ·simp at a;rw[a];exact k
       ·have I:=F ob2 (C.sub n);have o:∀M,(∀j∈M,j∈L)->Agr M (CI keep r ob).2 (puts ob2 s):=fun M w=>by
         rw[A];exact Agr.puts (C.sub w) s
        have f:∀M,(∀j∈M,j∈L)->Agr M (CX (CI keep r ob).2 ((i,0) :: pmC 0 g)) (CX (puts ob2 s) ((i,0) :: pmC 0 g)):=fun M w=>by
         rw[IC,IC];exact Agr.puts (o M w) _
        have H:get (puts ob2 s) i=some (.var g):=(by rw[<-hi];exact o [i] (fun j b=>by simp at b;rw[b];exact k) i (by simp));have J:=OY (keep:=keep) (l:=(CI keep r ob).1) (f _ fun j b=>n _ (G j b));have B:=N _ (f _ fun j b=>u _ (Iz (by omega) b));have K:=RN (o _ t);simp only at B;unfold evCallP;simp only[I,H,K,hvs,J,has,if_pos y,hsp,B,if_pos O];simp only[D3,IC];rfl
      ·cases h
     ·cases h
    ·cases h
   ·cases h
  ·cases h
 ·cases h
theorem zCx(h:evCallO sp d ob r=some D) :
 ∃us,D.ob=puts ob us/\(∀q∈us,q.1∈r.flatMap Av.ids ++ CP d)/\∀ob2,Agr (r.flatMap Av.ids ++ CP d) ob ob2->evCallO sp d ob2 r=some ⟨D.c,D.av,puts ob2 us,D.nw⟩:=by
 unfold evCallO at h;split at h
 ·rename_i l k hul
  have s:=Qm hul;have m:∀j∈l.flatMap Av.ids,j∈r.flatMap Av.ids ++ CP d:=fun j b=>by rw[s];simp only[List.flatMap_append,List.mem_append];exact .inl (.inl b)
  have f:∀j∈k.flatMap Cv.ids,j∈r.flatMap Av.ids ++ CP d:=fun j b=>by rw[s];simp only[List.flatMap_append,List.mem_append,List.flatMap_cons,List.flatMap_nil,List.append_nil];exact .inl (.inr b)
  have g:∀j∈CP d,j∈r.flatMap Av.ids ++ CP d:=fun j b=>List.mem_append_right _ b
  generalize r.flatMap Av.ids ++ CP d=L at *;split at h
  ·rename_i vs ags hvs has
   split at h
   ·rename_i n
    split at h
    ·rename_i c rs hsp
     split at h
     ·rename_i ob' hob
      split at h
      ·rename_i z
       cases h;obtain⟨us,e,A,x⟩:=MQ d rs 0 _ ob' hob;refine⟨((pmC 0 k).map fun p=>(p.1,.dead)) ++ us,?_,fun q i=>?_,fun ob2 o=>?_⟩
       ·rw[D3,<-IC,<-e]
       ·rcases List.mem_append.1 i with i | i
        ·obtain⟨p,y,rfl⟩:=List.mem_map.1 i;exact f _ (NP p y)
        ·exact g _ (Iz (by omega) (A q i))
       ·have a:∀M,(∀j∈M,j∈L)->Agr M (CX ob (pmC 0 k)) (CX ob2 (pmC 0 k)):=fun M w=>by
         rw[IC,IC];exact Agr.puts (o.sub w) _
        have t:=OY (keep:=false) (l:=l) (a _ m);have u:=x _ (a _ fun j b=>g _ (Iz (by omega) b));have v:=RN (o.sub f);unfold evCallO;simp only[hul,v,hvs,t,has,if_pos n,hsp,u,if_pos z];simp only[D3,IC]
      ·cases h
     ·cases h
    ·cases h
   ·cases h
  ·cases h
 ·cases h
theorem Y1{op:Op}(h:BB T Γ dst ob op l=some D) :
 ∃us,D.ob=puts ob us/\Sft ob (tks T Γ ob op dst l).wr (tks T Γ ob op dst l).sw us/\∀ob2,Ot (tks T Γ ob op dst l).tc (tks T Γ ob op dst l).sh ob ob2->BB T Γ dst ob2 op l=some ⟨D.c,D.av,puts ob2 us,D.nw⟩:=by
 cases op with
 | move x=>
  simp only[BB,coreU]at h ⊢;split at h
  ·cases h;exact⟨[],rfl,Sft.nil,fun ob2 _=>rfl⟩
  ·cases h
 | assign x=>
  simp only[BB,coreU]at h ⊢;split at h
  ·cases h;exact⟨[],rfl,Sft.nil,fun ob2 _=>rfl⟩
  ·cases h
 | nilCheck x=>
  simp only[BB,coreU]at h ⊢;split at h
  ·cases h;exact⟨[],rfl,Sft.nil,fun ob2 _=>rfl⟩
  ·cases h
 | unOp u t x=>
  cases u<;>simp only[BB,coreU]at h ⊢<;>try (cases h;done)
  split at h
  ·cases h;exact⟨[],rfl,Sft.nil,fun ob2 _=>rfl⟩
  ·cases h
 | binOp o t x y yt=>
  simp only[BB,coreU]at h ⊢;split at h
  ·split at h
   ·rename_i A;cases h;exact⟨[],rfl,Sft.nil,fun ob2 _=>by simp only[A];rfl⟩
   ·cases h
  ·cases h
 | alloc t=>
  simp only[BB,coreU]at h ⊢;split at h
  ·rename_i d i hd
   split at h
   ·rename_i ob' hob
    cases h;unfold evAlloc at hob;split at hob
    ·rename_i hi
     cases hob;refine⟨[(i,.var (d.z.map .v))],rfl,Sft.w (by simp[tks]),fun ob2 s=>?_⟩;have:=s.1 i (by simp[tks]);simp only[hd,evAlloc,this,hi];rfl
    ·cases hob
   ·cases h
  ·cases h
 | box t x=>
  simp only[BB,coreU]at h ⊢;split at h
  ·rename_i g c i
   split at h
   ·rename_i ob' hob
    cases h;unfold KC at hob;split at hob
    ·rename_i hi
     cases hob;refine⟨[(i,.var c)],rfl,Sft.w (by simp[tks]),fun ob2 s=>?_⟩;have:=s.1 i (by simp[tks]);simp only[KC,this,hi];rfl
    ·cases hob
   ·cases h
  ·cases h
 | load t x=>
  simp only[BB,coreU]at h ⊢;split at h
  ·rename_i B d hd
   unfold evLd at h;split at h
   ·rename_i q A
    cases h;rw[Option.bind_eq_some_iff]at A;obtain⟨i,hi,A⟩:=A;split at hi
    ·rename_i M
     subst hi;rw[RS,Option.map_eq_some_iff]at A;obtain⟨p,H,rfl⟩:=A;have e:tks T Γ ob (.load t x) (some i) [.m false [B]]=⟨B.ids ++ [rid i 0],[],[rid i 0],K5 B⟩:=(by simp[tks,M.1,Av.ids,hdC]);rw[e];refine⟨p.2,rfl,zHV H,fun ob2 s=>?_⟩;simp only[hd];unfold evLd;rw[if_pos M];simp only[Option.bind_some,RS,Vq s.1,H,Option.map_some]
    ·cases hi
   ·rename_i A
    split at h
    ·rename_i q E
     cases h;refine⟨[],rfl,Sft.nil,fun ob2 s=>?_⟩;simp only[hd];unfold evLd;have N:Agr B.ids ob ob2:=by
      refine s.1.sub fun j G=>?_
      cases dst with
      | none=>simp[tks,Av.ids,G]
      | some i=>by_cases M:t=T.tk<;>simp[tks,M,Av.ids,G]
     have hn:((if t=T.tk/\d.k=1/\d.g=false then dst else none).bind fun i=>evTake ob2 (rid i 0) B)=none:=by
      by_cases M:t=T.tk/\d.k=1/\d.g=false
      ·rw[if_pos M]at A ⊢;cases dst with
       | none=>rfl
       | some i=>
        simp only[Option.bind_some,RS,Option.map_eq_none_iff]at A ⊢;rw[Vq (ob:=ob) (ob2:=ob2) (s.1.sub fun j G=>by simpa[tks,M.1,Av.ids]using G)];exact A
      ·rw[if_neg M];rfl
     rw[hn];simp only[zCD N,E];rfl
    ·cases h
  ·cases h
 | store t x y=>
  simp only[BB,coreU]at h ⊢;split at h
  ·rename_i B g c d hd
   split at h
   ·rename_i q A
    cases h;have e:tks T Γ ob (.store t x y) none [.m false [B],.m g c]=⟨B.ids ++ c.flatMap Cv.ids,[],B.ids ++ c.flatMap Cv.ids,[]⟩:=(by simp[tks,Av.ids]);rw[e];have cA:∃us,q.2=puts ob us/\(∀p∈us,p.1∈B.ids ++ c.flatMap Cv.ids)/\∀ob2,Agr (B.ids ++ c.flatMap Cv.ids) ob ob2->evSt d ob2 c B=some (q.1,puts ob2 us):=by
     unfold evSt at A ⊢;split at A
     ·rename_i r i k a j
      rw[ZE,Option.map_eq_some_iff]at A;obtain⟨p,H,rfl⟩:=A;exact⟨p.2,rfl,fun z hz=>by simpa[Cv.ids]using zHJ H z hz,fun ob2 s=>by rw[ZE,zEC (s.sub fun j G=>by simpa[Cv.ids]using G),H];rfl⟩
     ·rename_i i k a j Y
      obtain⟨Z,d1,d2,d3⟩:=O3 c ob;rw[Od,Option.map_eq_some_iff]at A;obtain⟨p,H,rfl⟩:=A;refine⟨Z ++ p.2,by rw[D3,<-d1],fun z hz=>(List.mem_append.1 hz).elim (fun h=>List.mem_append_right _ (d2 z h)) fun h=>List.mem_append_left _ (SU H z h),fun ob2 s=>?_⟩;rw[d3 ob2 (s.sub fun j G=>List.mem_append_right _ G),Od,Vl (ob:=(frz c ob).2) (by rw[d1];exact Agr.puts (s.sub fun j G=>List.mem_append_left _ G) Z),H,D3];rfl
     ·rename_i Y hne'
      rw[Od,Option.map_eq_some_iff]at A;obtain⟨p,H,rfl⟩:=A;refine⟨p.2,rfl,fun z hz=>List.mem_append_left _ (SU H z hz),fun ob2 s=>?_⟩;rw[Od,Vl (s.sub fun j G=>List.mem_append_left _ G),H];rfl
    obtain⟨us,F,P,Q⟩:=cA;refine⟨us,F,Sft.w P,fun ob2 s=>?_⟩;simp only[hd,Q ob2 s.1]
   ·cases h
  ·cases h
 | fieldAddr t x f=>
  simp only[BB,coreU]at h ⊢;split at h
  ·rename_i B d hd
   split at h
   ·rename_i q i o A;cases h;exact⟨[],rfl,Sft.nil,fun ob2 _=>by simp only[hd,A];rfl⟩
   ·rename_i q i k a j A;cases h;exact⟨[],rfl,Sft.nil,fun ob2 _=>by simp only[hd,A];rfl⟩
   ·rename_i q fl k n g a j A;cases h;exact⟨[],rfl,Sft.nil,fun ob2 _=>by simp only[hd,A];rfl⟩
   ·cases h
  ·cases h
 | indexAddr t x ix=>
  simp only[BB,coreU]at h ⊢;split at h
  ·rename_i B K ixx d hd
   split at h
   ·rename_i de fl k n g hde
    split at h
    ·rename_i hk;cases h;exact⟨[],rfl,Sft.nil,fun ob2 _=>by simp only[hd,hde,if_pos hk];rfl⟩
    ·cases h
   ·rename_i de i hde
    split at h
    ·rename_i k n g hi
     split at h
     ·rename_i hk
      cases h;refine⟨[],rfl,Sft.nil,fun ob2 s=>?_⟩;have:=s.1 i (by simp[tks,Av.ids,Cv.ids]);simp only[hd,hde,this,hi,if_pos hk];rfl
     ·cases h
    ·cases h
   ·cases h
  ·cases h
 | index t x ix=>
  simp only[BB,coreU]at h ⊢;split at h
  ·split at h
   ·rename_i M;cases h;exact⟨[],rfl,Sft.nil,fun ob2 _=>by simp only[if_pos M];rfl⟩
   ·cases h
  ·cases h
 | extract x ix=>
  simp only[BB,coreU]at h ⊢;split at h
  ·split at h
   ·rename_i hr;cases h;exact⟨[],rfl,Sft.nil,fun ob2 _=>by simp only[hr];rfl⟩
   ·cases h
  ·cases h
 | build t ps=>
  simp only[BB,coreU]at h ⊢;split at h
  ·rename_i d q hd A
   split at h
   ·rename_i c hcc
    split at h
    ·cases h
    ·rename_i Y;cases h;exact⟨[],rfl,Sft.nil,fun ob2 _=>by simp only[hd,A,hcc,if_neg Y];rfl⟩
   ·cases h
  ·cases h
 | buildSlice t n ps=>
  simp only[BB,coreU]at h ⊢;split at h
  ·rename_i d q i hd A
   split at h
   ·rename_i de hde
    split at h
    ·rename_i ob' hob
     split at h
     ·cases h
     ·rename_i C
      cases h;obtain⟨Z,e1,e2,e3⟩:=Y9 q ob;have N:=Yr A;unfold MF evBuildSlice at hob;split at hob
      ·rename_i ts hi hb
       split at hob
       ·rename_i eA
        cases hob;refine⟨Z ++ [(rid i 0,.row de.k n (fun p q=>ts.getD (p*de.k+q) (.v (.bool false))))],by simp only[e1,D3];rfl,Sft.w fun x hx=>?_,fun ob2 s=>?_⟩
        ·rcases List.mem_append.1 hx with F | F
         ·exact List.mem_append_left _ (N _ (e2 _ F))
         ·simp at F;simp[tks,F]
        ·have e4:=e3 ob2 (s.1.sub fun j G=>List.mem_append_left _ (N _ G));have h5:get (puts ob2 Z) (rid i 0)=none:=by
          rw[<-hi,e1];exact(s.1.puts Z) (rid i 0) (by simp[tks])
         simp only[hd,A,hde,MF,evBuildSlice,e4,h5,hb,if_pos eA,if_neg C,D3];rfl
       ·cases hob
      ·cases hob
    ·cases h
   ·cases h
  ·cases h
 | slice t x lo hi mx=>
  cases mx with
  | some _=>simp only[BB,coreU]at h;cases h
  | none=>
   simp only[BB,coreU]at h ⊢;split at h
   ·rename_i d hd
    split at h
    ·rename_i de hde
     split at h
     ·rename_i q A
      split at h
      ·cases h
      ·rename_i C
       cases h;refine⟨[],rfl,Sft.nil,fun ob2 s=>?_⟩;have e:evSlice ob2 de.k lo hi l=evSlice ob de.k lo hi l:=by
        unfold evSlice;split
        ·rfl
        ·rename_i i K ix
         rw[s.2 i (by simp[tks,Av.ids,Cv.ids])]
        ·rfl
       simp only[hd,hde,e,A,if_neg C];rfl
     ·cases h
    ·cases h
   ·cases h
 | makeSlice t x y=>
  simp only[BB,coreU]at h ⊢;split at h
  ·rename_i K1 B K2 y' d i hd
   split at h
   ·rename_i de hde
    split at h
    ·rename_i ob' hob
     split at h
     ·cases h
     ·rename_i C
      cases h;unfold evMakeSlice at hob;split at hob
      ·rename_i hi
       cases hob;refine⟨[(rid i 0,.row de.k B.toNat (fun _ q=>.v (de.z.getD q (.bool false))))],rfl,Sft.w (by simp[tks]),fun ob2 s=>?_⟩;have:=s.1 (rid i 0) (by simp[tks]);simp only[hd,hde,evMakeSlice,this,hi,if_neg C];rfl
      ·cases hob
    ·cases h
   ·cases h
  ·cases h
 | call c=>
  obtain⟨callee,args,W⟩:=c;cases callee with
  | invoke r m=>simp only[BB,coreU]at h;cases h
  | value f=>
   cases f with
   | func f=>
    simp only[BB,coreU]at h ⊢;split at h
    ·rename_i x r i
     unfold evC at h;split at h
     ·rename_i hf
      split at h
      ·rename_i sp J
       have e:tks T Γ ob (.call ⟨.value (.func f),args,W⟩) (some i) (x :: r)=⟨r.flatMap Av.ids ++ CP i,[],CP i,[]⟩:=(by simp[tks,Mg,J]);rw[e];obtain⟨us,F,P,Q⟩:=Z2 h;refine⟨us,F,Sft.w fun q A=>(P q A).elim id (fun h=>by cases h.1),fun ob2 s=>?_⟩;simp only[evC,if_pos hf,J];exact Q ob2 s.1
      ·rename_i J
       have e:tks T Γ ob (.call ⟨.value (.func f),args,W⟩) (some i) (x :: r)=⟨r.flatMap Av.ids ++ deep ob r ++ CP i,[],r.flatMap Av.ids ++ deep ob r ++ CP i,[]⟩:=(by simp[tks,Mg,J]);rw[e];have V:∀ob2,Agr (r.flatMap Av.ids ++ deep ob r ++ CP i) ob ob2->Agr (r.flatMap Av.ids ++ CP i) ob ob2:=fun ob2 s=>s.sub fun j G=>by
        rcases List.mem_append.1 G with h | h
        ·exact List.mem_append_left _ (List.mem_append_left _ h)
        ·exact List.mem_append_right _ h
       have X:∀j,j∈r.flatMap Av.ids ++ CP i->j∈r.flatMap Av.ids ++ deep ob r ++ CP i:=fun j G=>by
        rcases List.mem_append.1 G with h | h
        ·exact List.mem_append_left _ (List.mem_append_left _ h)
        ·exact List.mem_append_right _ h
       split at h
       ·rename_i sp I
        obtain⟨us,F,P,Q⟩:=Z2 h;refine⟨us,F,Sft.w fun q A=>X _ ((P q A).elim (fun h=>List.mem_append_right _ h) (fun h=>List.mem_append_left _ h.2)),fun ob2 s=>?_⟩;simp only[evC,if_pos hf,J,I];exact Q ob2 (V ob2 s.1)
       ·rename_i I
        split at h
        ·rename_i sp L
         obtain⟨us,F,P,Q⟩:=zCw h;refine⟨us,F,Sft.w fun q A=>X _ (P q A),fun ob2 s=>?_⟩;simp only[evC,if_pos hf,J,I,L];exact Q ob2 (V ob2 s.1)
        ·rename_i L
         split at h
         ·rename_i sp O
          obtain⟨us,F,P,Q⟩:=zCx h;refine⟨us,F,Sft.w fun q A=>X _ (P q A),fun ob2 s=>?_⟩;simp only[evC,if_pos hf,J,I,L,O];exact Q ob2 (V ob2 s.1)
         ·rename_i O
          split at h
          ·rename_i j r'
           split at h
           ·rename_i sp U
            obtain⟨us,F,P,Q⟩:=ZD h _ rfl;refine⟨us,F,Sft.w P,fun ob2 s=>?_⟩;simp only[evC,if_pos hf,J,I,L,O,U];exact Q ob2 s.1
           ·rename_i U
            split at h
            ·rename_i sp hsp4
             obtain⟨us,F,P,Q⟩:=ZD h _ rfl;refine⟨us,F,Sft.w P,fun ob2 s=>?_⟩;simp only[evC,if_pos hf,J,I,L,O,U,hsp4];exact Q ob2 s.1
            ·cases h
          ·cases h
     ·cases h
    ·cases h
   | _=>simp only[BB,coreU]at h;cases h
  | builtin b=>
   cases b<;>simp only[BB,coreU]at h ⊢<;>try (cases h;done)
   case len=>
    split at h
    ·split at h
     ·rename_i M;cases h;exact⟨[],rfl,Sft.nil,fun ob2 _=>by simp only[if_pos M];rfl⟩
     ·cases h
    ·rename_i B hx'
     split at h
     ·rename_i t M
      split at h
      ·rename_i d n hd hn
       split at h
       ·cases h
       ·rename_i C
        cases h;refine⟨[],rfl,Sft.nil,fun ob2 s=>?_⟩;have F:=zBg (ob:=ob) (ob':=ob2) (x:=B) (s.1.sub fun j G=>by simp[tks,Av.ids,G]);simp only[hd,F,hn,if_neg C];rfl
      ·cases h
     ·cases h
    ·cases h
   case append=>
    split at h
    ·rename_i B y' t t' i M
     split at h
     ·rename_i d hd
      split at h
      ·rename_i de hde
       split at h
       ·rename_i q A
        split at h
        ·rename_i C
         cases h;have e:tks T Γ ob (.call ⟨.builtin .append,args,W⟩) (some i) [.m false [B],.m false [y']]=⟨B.ids ++ y'.ids ++ [rid i 0],[],B.ids ++ [rid i 0],if W.toList = [T.mv,T.mv] then y'.ids else []⟩:=(by simp[tks,hdC,SQ]);rw[e];unfold JJ at A;split at A
         ·rename_i q' E
          cases A;split at E
          ·rename_i R
           rw[Rc,Option.map_eq_some_iff]at E;obtain⟨p,H,rfl⟩:=E;refine⟨p.2,rfl,?_,fun ob2 s=>?_⟩
           ·have:W.toList = [T.mv,T.mv]:=(by rw[M,C.1,R]);rw[if_pos this];exact zGa H
           ·simp only[hd,hde];unfold JJ;simp only[if_pos R,Rc,X8 s.1,H,Option.map_some];rw[if_pos C]
          ·cases E
         ·rename_i E
          have hn:∀ob2,Agr (B.ids ++ y'.ids ++ [rid i 0]) ob ob2->(if t=T.mv then evAppendM de ob2 (rid i 0) B y' else none)=none:=fun ob2 s=>by
           by_cases R:t=T.mv
           ·rw[if_pos R]at E ⊢;rw[Rc,Option.map_eq_none_iff]at E ⊢;rw[X8 s];exact E
           ·rw[if_neg R]
          split at A
          ·rename_i q' S
           cases A;rw[Om,Option.map_eq_some_iff]at S;obtain⟨p,H,rfl⟩:=S;refine⟨p.2,rfl,Sft.w (zGd H),fun ob2 s=>?_⟩;simp only[hd,hde];unfold JJ;rw[hn ob2 s.1];simp only[Om,XB s.1,H,Option.map_some];rw[if_pos C]
          ·rename_i S
           rw[ZC,Option.map_eq_some_iff]at A;obtain⟨p,H,rfl⟩:=A;refine⟨p.2,rfl,Sft.w (zGb H),fun ob2 s=>?_⟩;simp only[hd,hde];unfold JJ;rw[hn ob2 s.1];rw[Om,Option.map_eq_none_iff]at S;simp only[Om,XB s.1,S,Option.map_none,ZC,zU s.1,H,Option.map_some];rw[if_pos C]
        ·cases h
       ·cases h
      ·cases h
     ·cases h
    ·cases h
 | field t x f=>
  simp only[BB,coreU]at h ⊢;split at h
  ·rename_i c d hd
   split at h
   ·rename_i av hav;cases h;exact⟨[],rfl,Sft.nil,fun ob2 _=>by simp only[hd,hav];rfl⟩
   ·cases h
  ·cases h
 | convert src t x=>
  simp only[BB,coreU]at h ⊢;split at h
  ·rename_i B
   split at h
   ·rename_i q A
    cases h;refine⟨[],rfl,Sft.nil,fun ob2 s=>?_⟩;have e:evConv T src t ob2 B=evConv T src t ob B:=by
     unfold evConv;split
     ·rfl
     ·rename_i i
      rw[J3 (s.1 i (by simp[tks,Av.ids,Cv.ids]))]
     ·rfl
    simp only[e,A];rfl
   ·cases h
  ·cases h
 | _=>simp only[BB,coreU]at h;cases h
theorem Ql{ob2:List (Nat×Ob)}{op:Op}(h:Agr (tks T Γ ob op dst l).tc ob ob2):tks T Γ ob2 op dst l=tks T Γ ob op dst l:=by
 unfold tks at h ⊢;split<;>try rfl
 rename_i f args tys d
 cases hq:Mg Γ f with
 | true=>simp
 | false=>
  simp only[hq]at h ⊢;have a:deep ob2 (l.drop 1)=deep ob (l.drop 1):=by
   cases hl:l.drop 1 with
   | nil=>rfl
   | cons x r=>
    rw[hl]at h;unfold deep;split
    ·rename_i j r' e
     cases e;rw[h j (by simp[Av.ids,Cv.ids])]
    ·rfl
  rw[a]
end Go.Proofs.YtddigaohmfpepaaGreatDoor

/- A part of the proof. -/
import Derived.Test.YtibhefllijahkaaGreatDoorF4
set_option linter.unusedVariables false
set_option maxRecDepth 20000
set_option maxHeartbeats 4000000
namespace Go.Proofs.YtibhefllijahkaaGreatDoor
open Go.RowKit
theorem Bs.ok_le{s:Bs}{fl:Fl}{e e':Nat}(h:s.ok fl e)(a:e'<=e):s.ok fl e':=by
 cases s with
 | fz r=>exact h.imp_right fun h l e=>Nat.le_trans a (h l e)
 | ow o lim=>exact Nat.le_trans a h
theorem Addr.add_zero(a:Addr):a.add 0=a:=rfl
variable{P:Program}{w:World}{E:En}{ob:List (Nat×Ob)}{l:List Av}
theorem zAo{t:Nat}{d de:TyD}(h:B1 P t d)(s:d.el≠0)(H:B1 P d.el de)(U:AR w E ob){a:Act}{x:Operand}{lo hi:Option Operand}{q:Prop×Cv}(g:evSlice ob de.k lo hi l=some q)(I:q.1)(v:AN (fun x W=>AvR w E (dom ob) W (a.eval x)) (x :: (lo.toList ++ hi.toList)) l) :
 ∃z,(Instr.sliceAt t (a.eval x) (lo.map a.eval) (hi.map a.eval) none).run P w = .ok z w/\CvR w E (dom ob) q.2 z:=by
 unfold evSlice at g;split at g
 ·rename_i fl V n f K ix
  split at g
  ·rename_i Q
   subst Q;split at g
   ·rename_i y
    cases g;simp only[Option.toList_none,Option.toList_some,List.nil_append]at v;obtain⟨S,T,e,B,C⟩:=F3 v;cases e;obtain⟨p,c,A,hn,m⟩:=vl1 B;have ei:=(vl1 C).1;obtain⟨c0,c1⟩:=I;refine⟨.slice p ix.toNat c,?_,p,c,rfl,by omega,fun L=>?_⟩
    ·rw[A];unfold Instr.sliceAt;rw[Sem.run_bind,run_underlying (h.slice s)];have R:ix<=(c:Int):=(by omega);cases p<;>simp[Instr.slice,run_underlying (h.slice s),ei,Instr.sliceBounds,Instr.sliceBound,asIntOf,c0,R,H.run_size,Addr.add_zero]
    ·obtain⟨b,o,J,M,F,D⟩:=m (by omega);exact⟨b,o,J,M,Bs.ok_le F (Nat.add_le_add_left (Nat.mul_le_mul_right _ (by omega)) _),fun i j hi O=>D i j (by omega) O⟩
   ·rename_i y
    cases g;simp only[Option.toList_none,Option.toList_some,List.append_nil]at v;obtain⟨S,T,e,B,C⟩:=F3 v;cases e;obtain⟨p,c,A,hn,m⟩:=vl1 B;have ei:=(vl1 C).1;obtain⟨c0,c1⟩:=I;refine⟨.slice (if c=ix.toNat then p else p.map (·.add (ix.toNat*de.k))) (n - ix.toNat) (c - ix.toNat),?_,_,_,rfl,by omega,fun L=>?_⟩
    ·rw[A];unfold Instr.sliceAt;rw[Sem.run_bind,run_underlying (h.slice s)];simp[Instr.slice,run_underlying (h.slice s),ei,Instr.sliceBounds,Instr.sliceBound,asIntOf,c0,c1,H.run_size]
    ·obtain⟨b,o,J,M,F,D⟩:=m (by omega);refine⟨b,o+ix.toNat*de.k,?_,M,Bs.ok_le F ?_,fun i j hi O=>?_⟩
     ·rw[if_neg (by omega),J];simp[Gf]
     ·rw[Nat.add_assoc,<-Nat.add_mul];exact Nat.add_le_add_left (Nat.mul_le_mul_right _ (by omega)) _
     ·obtain⟨u,X,hs⟩:=D (ix.toNat+i) j (by omega) O;refine⟨u,?_,hs⟩;rw[<-X,Nat.add_mul];congr 2;omega
   ·cases g
  ·cases g
 ·rename_i i K ix
  split at g
  ·rename_i V n hsh
   have r:∃f,get ob i=some (.row V n f):=by
    unfold shp at hsh;split at hsh
    ·rename_i Y n2 f2 hg
     cases hsh;exact⟨f2,hg⟩
    ·cases hsh
   obtain⟨f,r⟩:=r;split at g
   ·rename_i Q
    subst Q;split at g
    ·rename_i y
     cases g;simp only[Option.toList_none,Option.toList_some,List.nil_append]at v;obtain⟨S,T,e,B,C⟩:=F3 v;cases e;obtain⟨N,G,-⟩:=vl1 B;obtain⟨p,c,A,hn,m⟩:=U _ _ r;have ei:=(vl1 C).1;obtain⟨c0,c1⟩:=I;refine⟨.slice p ix.toNat c,?_,N,p,c,rfl,fun L=>by rw[(m (by omega)).1,Nat.zero_mul]⟩;rw[G,A];unfold Instr.sliceAt;rw[Sem.run_bind,run_underlying (h.slice s)];have R:ix<=(c:Int):=(by omega);cases p<;>simp[Instr.slice,run_underlying (h.slice s),ei,Instr.sliceBounds,Instr.sliceBound,asIntOf,c0,R,H.run_size,Addr.add_zero]
    ·rename_i y
     cases g;simp only[Option.toList_none,Option.toList_some,List.append_nil]at v;obtain⟨S,T,e,B,C⟩:=F3 v;cases e;obtain⟨N,G,-⟩:=vl1 B;obtain⟨p,c,A,hn,m⟩:=U _ _ r;have ei:=(vl1 C).1;obtain⟨c0,c1⟩:=I;refine⟨.slice (if c=ix.toNat then p else p.map (·.add (ix.toNat*de.k))) (n - ix.toNat) (c - ix.toNat),?_,N,_,_,rfl,fun L=>?_⟩
     ·rw[G,A];unfold Instr.sliceAt;rw[Sem.run_bind,run_underlying (h.slice s)];simp[Instr.slice,run_underlying (h.slice s),ei,Instr.sliceBounds,Instr.sliceBound,asIntOf,c0,c1,H.run_size]
     ·rw[if_neg (by omega),(m (by omega)).1];simp[Gf]
    ·cases g
   ·cases g
  ·cases g
 ·cases g
variable{Γ:List (Nat×AE)}{i:Nat}{r:List Av}
theorem zIR(hΓ : BL P Γ w){f:Nat}(s:AR w E ob){D:Dl}(b:evC Γ f i ob r=some D)(m:D.c){ys:List Value}(g:AN (AvR w E (dom ob)) r ys) :
 DP P f/\Calls P f ys.toArray w (fun e w'=>∃v t,e = .returned v/\AV (dom ob) w E w' t/\(∀j,dom ob j->dom D.ob j)/\AR w' t D.ob/\∃u,D.av=some u/\AvR w' t (dom D.ob) u v):=by
 unfold evC at b;split at b
 ·rename_i q
  split at b
  ·rename_i sp hsp
   obtain⟨hs,l⟩:=hΓ.a _ _ q hsp;exact⟨l,Vk hs (d:=i) s b m g⟩
  ·split at b
   ·rename_i sp hsp
    obtain⟨hs,l⟩:=hΓ.k _ _ q hsp;exact⟨l,Vk hs (d:=i) s b m g⟩
   ·split at b
    ·rename_i sp hsp
     obtain⟨hs,l⟩:=hΓ.n _ _ q hsp;exact⟨l,zAk hs (d:=i) s b m g⟩
    ·split at b
     ·rename_i sp hsp
      obtain⟨hs,l⟩:=hΓ.o _ _ q hsp;exact⟨l,zAm hs (d:=i) s b m g⟩
     ·split at b
      ·rename_i j r'
       cases g with
       | cons hx hr=>
        split at b
        ·rename_i sp hsp
         obtain⟨hs,l⟩:=hΓ.p _ _ q hsp;exact⟨l,YK hs (d:=i) s b m hx hr⟩
        ·split at b
         ·rename_i sp hsp
          obtain⟨hs,l⟩:=hΓ.pk _ _ q hsp;exact⟨l,YK hs (d:=i) s b m hx hr⟩
         ·cases b
      ·cases b
 ·cases b
theorem zIb{E':En}{D D':Nat->Prop}{g:Bool}{c:List Cv}{y:Value}(h:VlR w E D g c y)(a:CsR w E' D' (frz c ob).1 y.cells.toList):VlR w E' D' g (frz c ob).1 y:=by
 cases g with
 | true=>obtain⟨cs,rfl,_⟩:=h;exact⟨cs,rfl,by simpa[Value.cells]using a⟩
 | false=>
  obtain⟨x,rfl,d⟩:=h;have b:=d.one;have e:y.cells=#[y]:=by cases y<;>first | rfl | (simp[Value.oneCell']at b)
  rw[e]at a;cases a with
  | cons k1 k2=>exact⟨_,rfl,k1⟩
variable{D:Dl}
theorem zHK{T:Tb}(H:DI P T)(hΓ : BL P Γ w){o:Oper}{a:Act}{Q:Exit->Act->World->Prop}(I:AR w E ob)
 (V:AN (fun x R=>AvR w E (dom ob) R (a.eval x)) o.op.operands.toList l) (B:B6 T Γ o.dst ob o.op l=some D) (S:D.c):o.wp P a w (S8 E w ob o a D) Q:=by
 obtain⟨dst,op,type,pos,cA,guard⟩:=o;cases op with
 | move x=>
  obtain⟨y,rfl,C⟩:=Fq V;cases B;exact Cc (s:=pure (a.eval x)) rfl rfl (Same.after I C)
 | assign x=>
  obtain⟨y,rfl,C⟩:=Fq V;cases B;exact Cc (s:=pure (a.eval x)) rfl rfl (Same.after I C)
 | nilCheck x=>
  obtain⟨y,rfl,C⟩:=Fq V;simp only[B6,coreU]at B;split at B
  ·rename_i i oo e
   cases e;cases B;have F:=(vl1 C).2;refine Cc (s:=pure (a.eval x)) ?_ rfl (Same.after I C);simp only[execOp,F];rfl
  ·cases B
 | unOp u t x=>
  obtain⟨y,rfl,C⟩:=Fq V;cases u<;>simp only[B6,coreU]at B<;>try (cases B;done)
  split at B
  ·rename_i b e
   cases e;cases B;have F:=(vl1 C).1;refine Cc (s:=Op.unary .not (a.eval x)) rfl (z:=.bool !b) ?_ (Same.after I (av1 ⟨rfl,rfl⟩));rw[F];rfl
  ·cases B
 | binOp op t x y yt=>
  obtain⟨p,q,rfl,C,F⟩:=F3 V;simp only[B6,coreU]at B;split at B
  ·rename_i r hr
   cases B;obtain⟨O,X⟩:=zIM H hr S C F x y;exact Cc rfl O (Same.after I (av1 ⟨rfl,X⟩))
  ·cases B
 | alloc t=>
  have:=VX V;subst this;simp only[B6,coreU]at B;split at B
  ·rename_i d i e hd
   split at B
   ·rename_i ob' hob
    cases B;obtain⟨z,w',U,C,F,O,X,h5⟩:=zAh (H.ok _ _ hd) I hob;exact Cc rfl C ⟨z,U,rfl,F,O,X,fun R e=>by cases e;exact h5⟩
   ·cases B
  ·cases B
 | box t x=>
  obtain⟨y,rfl,C⟩:=Fq V;simp only[B6,coreU]at B;split at B
  ·rename_i g c i e
   cases e;split at B
   ·rename_i ob' hob
    cases B;obtain⟨z,w',U,g1,g2,g3,g4,g5⟩:=zFI (P:=P) (t:=t) I hob C;exact Cc rfl g1 ⟨z,U,rfl,g2,g3,g4,fun R e=>by cases e;exact g5⟩
   ·cases B
  ·cases B
 | load t x=>
  obtain⟨y,rfl,C⟩:=Fq V;simp only[B6,coreU]at B;split at B
  ·rename_i x' d e hd
   cases e;unfold evLd at B;split at B
   ·rename_i q G
    cases B;rw[Option.bind_eq_some_iff]at G;obtain⟨i,hi,G⟩:=G;split at hi
    ·rename_i ht
     subst hi;obtain⟨-,sB,tB⟩:=ht;obtain⟨z,U,F,O,X,h5,h6⟩:=zDc (H.ok _ _ hd) sB tB I G S (vl1 C);exact Cc rfl F ⟨z,U,rfl,O,X,h5,fun R e=>by cases e;exact h6⟩
    ·cases hi
   ·split at B
    ·rename_i q G
     cases B;obtain⟨z,F,O⟩:=Vl (H.ok _ _ hd) I G S (vl1 C);exact Cc rfl F (Same.after I O)
    ·cases B
  ·cases B
 | store t x y=>
  obtain⟨p,q,rfl,C,F⟩:=F3 V;simp only[B6,coreU]at B;split at B
  ·rename_i x' g c d e hd
   cases e;split at B
   ·rename_i q G
    cases B;unfold evSt at G;split at G
    ·rename_i r i k a' j
     obtain⟨w',U,g1,g2,g3,g4⟩:=zBV (H.ok _ _ hd) I G S (vl1 C) F;exact Pf rfl g1 ⟨undef,U,rfl,g2,g3,g4,fun R e=>by cases e⟩
    ·rename_i i k a' j _
     obtain⟨E1,x1,o1,c1,d1⟩:=Li I (VlR.cells F);obtain⟨w',g1,g2,g3,g4⟩:=YL (H.ok _ _ hd) o1 G S (CvR.ext x1 (fun j hj=>(d1 j).1 hj) (vl1 C)) (zIb F c1);exact Pf rfl g1 ⟨undef,E1,rfl,x1.trans g2 (fun j hj=>(d1 j).1 hj),fun j hj=>g3 j ((d1 j).1 hj),g4,fun R e=>by cases e⟩
    ·obtain⟨w',g1,g2,g3,g4⟩:=YL (H.ok _ _ hd) I G S (vl1 C) F;exact Pf rfl g1 ⟨undef,E,rfl,g2,g3,g4,fun R e=>by cases e⟩
   ·cases B
  ·cases B
 | fieldAddr t x f=>
  obtain⟨y,rfl,C⟩:=Fq V;simp only[B6,coreU]at B;split at B
  ·rename_i x' d e hd
   cases e;have F:=vl1 C;split at B
   ·rename_i q i oo G
    cases B;obtain⟨O,X⟩:=F;refine Cc rfl (z:=.pointer (some ⟨E.bl i,oo+q.1,none⟩)) ?_ (Same.after I (av1 ⟨O,rfl⟩));rw[X];exact(H.ok _ _ hd).run_field G w _ _
   ·rename_i q i k a' j G
    cases B;obtain⟨O,X⟩:=F;refine Cc rfl (z:=.pointer (some ⟨E.bl i,a'*k+(j+q.1),none⟩)) ?_ (Same.after I (av1 ⟨O,rfl⟩));rw[X,<-Nat.add_assoc];exact(H.ok _ _ hd).run_field G w _ _
   ·rename_i q fl k n g a' j G
    cases B;obtain⟨O,b,oo,X,h5⟩:=F;refine Cc rfl (z:=.pointer (some ⟨b,oo+(a'*k+(j+q.1)),none⟩)) ?_ (Same.after I (av1 ⟨O,b,oo,rfl,h5⟩));rw[X,<-Nat.add_assoc,<-Nat.add_assoc,<-Nat.add_assoc];exact(H.ok _ _ hd).run_field G w _ _
   ·cases B
  ·cases B
 | indexAddr t x ix=>
  obtain⟨p,q,rfl,C,F⟩:=F3 V;simp only[B6,coreU]at B;split at B
  ·rename_i x' K ixx d e hd
   cases e;have O:=vl1 C;have X:=(vl1 F).1;split at B
   ·rename_i de fl k n g hde
    split at B
    ·rename_i hk
     cases B;obtain⟨rfl,J⟩:=hk;obtain⟨aa,c,e,hn,oA⟩:=O;obtain⟨b,oo,rfl,hb,pB,aA⟩:=oA (by have:=S.1;have:=S.2;omega);refine Cc rfl (z:=.pointer (some ⟨b,oo+(ixx.toNat*de.k+0),none⟩)) ?_ (Same.after I (av1 ⟨by have:=S.1;have:=S.2;omega,b,oo,rfl,some ⟨b,oo,none⟩,n,rfl,Nat.le_refl _,fun _=>⟨b,oo,rfl,hb,pB,aA⟩⟩));rw[X,e,Nat.add_zero];exact(H.ok _ _ hd).run_index J (H.ok _ _ hde) S.1 S.2
    ·cases B
   ·rename_i de i hde
    split at B
    ·rename_i k n g hi
     split at B
     ·rename_i hk
      cases B;obtain⟨rfl,J⟩:=hk;obtain⟨aa,cap,hv,hn,tA⟩:=I _ _ hi;obtain⟨lB,_⟩:=tA (by have:=S.1;have:=S.2;omega);refine Cc rfl (z:=.pointer (some ⟨E.bl i,ixx.toNat*de.k+0,none⟩)) ?_ (Same.after I (av1 ⟨O.1,rfl⟩));rw[X,O.2.1,hv,lB,Nat.add_zero];have:=(H.ok _ _ hd).run_index J (H.ok _ _ hde) S.1 S.2 (w:=w) (b:=E.bl i) (o:=0) (c:=cap) (K:=K);rw[Nat.zero_add]at this;exact this
     ·cases B
    ·cases B
   ·cases B
  ·cases B
 | index t x ix=>
  obtain⟨p,q,rfl,C,F⟩:=F3 V;simp only[B6,coreU]at B;split at B
  ·rename_i s K ixx e
   cases e;split at B
   ·rename_i ht
    subst ht;cases B;have O:=(vl1 C).1;have X:=(vl1 F).1;refine Cc rfl (z:=.int .u8 ((s[ixx.toNat]?).getD 0).toNat) ?_ (Same.after I (av1 ⟨rfl,rfl⟩));rw[O,X];obtain⟨c0,c1⟩:=S;have jA:ixx.toNat<s.size:=(by omega);unfold Instr.index;simp[asIntOf,run_underlying H.hs,c0,jA]
   ·cases B
  ·cases B
 | extract x ix=>
  obtain⟨y,rfl,C⟩:=Fq V;simp only[B6,coreU]at B;split at B
  ·rename_i q e
   cases e;split at B
   ·rename_i r hr
    cases B;obtain⟨vs,e,F⟩:=C;obtain⟨u,hu,O⟩:=F.at hr;refine Cc rfl (z:=u) ?_ (Same.after I O);rw[e];simp[Instr.extract,hu]
   ·cases B
  ·cases B
 | build t ps=>
  simp only[B6,coreU]at B;split at B
  ·rename_i d q hd G
   split at B
   ·rename_i c oA
    split at B
    ·cases B
    ·rename_i oB
     cases B;have M:AN (fun x R=>AvR w E (dom ob) R (a.eval x)) (ps.toList.map (·.2)) l:=(by simpa[Op.operands]using V);obtain⟨z,C,F⟩:=zAi (H.ok _ _ hd) (fun e=>oB (by rw[e];rfl)) (Ra G M) oA;refine Cc rfl (z:=z) ?_ (Same.after I F);have e:(ps.map fun (i,x)=>(i,a.eval x))=(ps.toList.map fun p=>(p.1,a.eval p.2)).toArray:=by
      apply Array.ext';simp
     rw[e];exact C
   ·cases B
  ·cases B
 | buildSlice t n ps=>
  simp only[B6,coreU]at B;split at B
  ·rename_i d q i hd G
   split at B
   ·rename_i de hde
    split at B
    ·rename_i ob' hob
     split at B
     ·cases B
     ·rename_i J
      cases B;have M:AN (fun x R=>AvR w E (dom ob) R (a.eval x)) (ps.toList.map (·.2)) l:=(by simpa[Op.operands]using V);obtain⟨z,w',U,C,F,O,X,h5⟩:=zCW (H.ok _ _ hd) J (H.ok _ _ hde) I (Ra G M) hob;refine Cc rfl (z:=z) ?_ ⟨z,U,rfl,F,O,X,fun R e=>by cases e;exact h5⟩;have e:(ps.map fun (i,x)=>(i,a.eval x))=(ps.toList.map fun p=>(p.1,a.eval p.2)).toArray:=by
       apply Array.ext';simp
      rw[e];exact C
    ·cases B
   ·cases B
  ·cases B
 | slice t x lo hi mx=>
  cases mx with
  | some _=>simp only[B6,coreU]at B;cases B
  | none=>
   simp only[B6,coreU]at B;split at B
   ·rename_i d hd
    split at B
    ·rename_i de hde
     split at B
     ·rename_i q G
      split at B
      ·cases B
      ·rename_i J
       cases B;obtain⟨z,C,F⟩:=zAo (H.ok _ _ hd) J (H.ok _ _ hde) I (x:=x) G S (by simpa[Op.operands]using V);exact Cc rfl C (Same.after I (av1 F))
     ·cases B
    ·cases B
   ·cases B
 | makeSlice t x y=>
  obtain⟨p,q,rfl,C,F⟩:=F3 V;simp only[B6,coreU]at B;split at B
  ·rename_i K1 x' K2 y' d i e hd
   cases e;split at B
   ·rename_i de hde
    split at B
    ·rename_i ob' hob
     split at B
     ·cases B
     ·rename_i J
      cases B;obtain⟨rfl,c0,c1⟩:=S;obtain⟨z,w',U,g1,g2,g3,g4,g5⟩:=zD5 (H.ok _ _ hd) J (H.ok _ _ hde) I (kl:=K1) (kc:=K2) c0 c1 hob;refine Cc rfl (z:=z) ?_ ⟨z,U,rfl,g2,g3,g4,fun R e=>by cases e;exact g5⟩;rw[(vl1 C).1,(vl1 F).1];exact g1
    ·cases B
   ·cases B
  ·cases B
 | call c=>
  obtain⟨callee,args,W⟩:=c;cases callee with
  | invoke r m=>simp only[B6,coreU]at B;cases B
  | value f=>
   cases f with
   | func f=>
    simp only[B6,coreU]at B;split at B
    ·rename_i x r i
     have M:AN (fun x R=>AvR w E (dom ob) R (a.eval x)) (.func f :: args.toList) (x :: r):=(by simpa[Op.operands,Call.operands]using V);cases M with
     | cons _ t=>
      have L:AN (AvR w E (dom ob)) r (args.toList.map a.eval):=by
       clear V B S;generalize args.toList=ags at t
       induction t with
       | nil=>exact .nil
       | cons C _ ih=>exact .cons C ih
      have jB:DP P f->Calls P f (args.toList.map a.eval).toArray w (fun e w'=>∃v U,e = .returned v/\AV (dom ob) w E w' U/\(∀j,dom ob j->dom D.ob j)/\AR w' U D.ob/\∃R,D.av=some R/\AvR w' U (dom D.ob) R v)->Oper.wp P ⟨some i,.call ⟨.value (.func f),args,W⟩,type,pos,cA,guard⟩ a w (S8 E w ob ⟨some i,.call ⟨.value (.func f),args,W⟩,type,pos,cA,guard⟩ a D) Q:=by
       intro hE Z;have N:(execOp a.eval ⟨some i,.call ⟨.value (.func f),args,W⟩,type,pos,cA,guard⟩).run P w = .ok (.enter f (args.toList.map a.eval).toArray) w:=by
        have e:args.map a.eval=(args.toList.map a.eval).toArray:=(by apply Array.ext';simp);simp only[execOp,resolve,Act.eval,Deferred.ofValue,Sem.run_bind,Sem.run_pure,Result.andThen_ok,invoke];rw[show(#[]:Array Value) ++ args.map a.eval ++ #[]=(args.toList.map a.eval).toArray by rw[<-e];simp];exact hE _ _
       unfold Oper.wp;rw[N];refine Z.mono ?_;rintro e w' ⟨v,U,rfl,C,F,O,R,e1,X⟩;exact⟨v,U,rfl,C,F,O,fun jC e=>by rw[e1]at e;cases e;exact X⟩
      obtain⟨hE,Z⟩:=zIR hΓ I B S L;exact jB hE Z
    ·cases B
   | _=>simp only[B6,coreU]at B;cases B
  | builtin b=>
   cases b<;>simp only[B6,coreU]at B<;>try (cases B;done)
   case len=>
    have N:∀(s:Sem Value),Builtin.len_ W type (args.map a.eval)=s->execOp a.eval ⟨dst,.call ⟨.builtin .len,args,W⟩,type,pos,cA,guard⟩=(do pure (.value (<-s))):=fun s hs=>by rw[<-hs];rfl
    have M:AN (fun x R=>AvR w E (dom ob) R (a.eval x)) args.toList l:=(by simpa[Op.operands,Call.operands]using V);split at B
    ·rename_i s
     split at B
     ·rename_i ht
      cases B;have L:∃x,args.toList = [x]/\AvR w E (dom ob) (.m false [.v (.string s)]) (a.eval x):=by
       generalize args.toList=ags at M;cases M with
       | cons C t=>cases t;exact⟨_,rfl,C⟩
      obtain⟨x,hx,C⟩:=L;refine Cc (N _ rfl) (z:=.int .i64 s.size) ?_ (Same.after I (av1 ⟨rfl,rfl⟩));have e1:args=#[x]:=(by apply Array.ext';simpa using hx);have e2:W=#[T.sx]:=(by apply Array.ext';simpa using ht);rw[e1,e2];simp[Builtin.len_,(vl1 C).1,run_underlying H.hs,goInt]
     ·cases B
    ·rename_i x' _
     split at B
     ·rename_i t ht
      split at B
      ·rename_i d n hd hn
       split at B
       ·cases B
       ·rename_i J
        cases B;have L:∃x,args.toList = [x]/\AvR w E (dom ob) (.m false [x']) (a.eval x):=by
         generalize args.toList=ags at M;cases M with
         | cons C t=>cases t;exact⟨_,rfl,C⟩
        obtain⟨x,hx,C⟩:=L;refine Cc (N _ rfl) (z:=.int .i64 n) ?_ (Same.after I (av1 ⟨rfl,rfl⟩));have e1:args=#[x]:=(by apply Array.ext';simpa using hx);have e2:W=#[t]:=(by apply Array.ext';simpa using ht);rw[e1,e2];simpa using zFJ (H.ok _ _ hd) J I hn (vl1 C) type
      ·cases B
     ·cases B
    ·cases B
   case append=>
    have N:∀(s:Sem Value),Builtin.append_ W type (args.map a.eval)=s->execOp a.eval ⟨dst,.call ⟨.builtin .append,args,W⟩,type,pos,cA,guard⟩=(do pure (.value (<-s))):=fun s hs=>by rw[<-hs];rfl
    have M:AN (fun x R=>AvR w E (dom ob) R (a.eval x)) args.toList l:=(by simpa[Op.operands,Call.operands]using V);split at B
    ·rename_i x' y' t t' i ht
     split at B
     ·rename_i d hd
      split at B
      ·rename_i de hde
       split at B
       ·rename_i q G
        split at B
        ·rename_i J
         cases B;obtain⟨rfl,J⟩:=J;have L:∃x y,args.toList = [x,y]/\AvR w E (dom ob) (.m false [x']) (a.eval x)/\AvR w E (dom ob) (.m false [y']) (a.eval y):=by
          generalize args.toList=ags at M;cases M with
          | cons C t=>cases t with | cons F t=>cases t;exact⟨_,_,rfl,C,F⟩
         obtain⟨x,y,hx,C,F⟩:=L;have sA:∃z w' U,(Builtin.append_ #[t',t'] type #[a.eval x,a.eval y]).run P w = .ok z w'/\AV (dom ob) w E w' U/\(∀j,dom ob j->dom q.2 j)/\AR w' U q.2/\AvR w' U (dom q.2) (.m false [.h (rid i 0)]) z:=by
          unfold JO at G;split at G
          ·rename_i q' hq'
           cases G;split at hq'
           ·exact zCD (H.ok _ _ hd) J (H.ok _ _ hde) I hq' S (vl1 C) (vl1 F) type
           ·cases hq'
          ·split at G
           ·rename_i q' hq'
            cases G;exact zCE (H.ok _ _ hd) J (H.ok _ _ hde) I hq' S (vl1 C) (vl1 F) type
           ·exact zBS (H.ok _ _ hd) J (H.ok _ _ hde) I G S (vl1 C) (vl1 F) type
         obtain⟨z,w',U,g1,g2,g3,g4,g5⟩:=sA;refine Cc (N _ rfl) (z:=z) ?_ ⟨z,U,rfl,g2,g3,g4,fun R e=>by cases e;exact g5⟩;have e1:args=#[x,y]:=(by apply Array.ext';simpa using hx);have e2:W=#[t',t']:=(by apply Array.ext';simpa using ht);rw[e1,e2];simpa using g1
        ·cases B
       ·cases B
      ·cases B
     ·cases B
    ·cases B
 | field t x f=>
  obtain⟨y,rfl,C⟩:=Fq V;simp only[B6,coreU]at B;split at B
  ·rename_i c d e hd
   cases e;split at B
   ·rename_i R hav
    cases B;unfold evField at hav;split at hav
    ·rename_i q G
     split at hav
     ·rename_i pC
      cases hav;obtain⟨cs,ey,aB⟩:=C;have bC:=aB.length;have N:=(H.ok _ _ hd).run_part G w (cs:=cs) (by omega);rw[<-ey]at N;refine Cc rfl N (Same.after I ?_);have Y:=(aB.drop q.1).take q.2;by_cases F:q.2=1
      ·rw[if_pos F,show(q.2 != 1)=false by simp[F]];obtain⟨v,hv⟩:∃v,cs[q.1]?=some v:=⟨cs[q.1]'(by omega),List.getElem?_eq_getElem (by omega)⟩;have O:(cs.drop q.1).take q.2 = [v]:=by
        have jA:q.1<cs.length:=(by omega);rw[F,List.drop_eq_getElem_cons jA,List.take_succ_cons,List.take_zero];rw[List.getElem?_eq_getElem jA]at hv;cases hv;rfl
       rw[O]at Y;rw[List.getD_eq_getElem?_getD,hv];obtain⟨x',aC⟩:∃x',(c.drop q.1).take q.2 = [x']:=by
        have:=Y.length
        match hm:(c.drop q.1).take q.2,this with
        | [x'],_=>exact⟨x',rfl⟩
       rw[aC]at Y ⊢;cases Y with
       | cons k1 _=>exact⟨x',rfl,k1⟩
      ·rw[if_neg F,show(q.2 != 1)=true by simp[F]];exact⟨_,rfl,Y⟩
     ·cases hav
    ·cases hav
   ·cases B
  ·cases B
 | convert src t x=>
  obtain⟨y,rfl,C⟩:=Fq V;simp only[B6,coreU]at B;split at B
  ·rename_i x' e
   cases e;split at B
   ·rename_i q G
    cases B;have F:=vl1 C;unfold evConv at G;split at G
    ·rename_i K n
     split at G
     ·rename_i k1 k2 hk1 hk2
      cases G;refine Cc (s:=convert src t (a.eval x)) rfl (z:=.int k2 (k2.wrap n)) ?_ (Same.after I (av1 ⟨rfl,rfl⟩));rw[F.1];unfold convert;simp[run_underlying (H.hik _ _ hk1),run_underlying (H.hik _ _ hk2),Conv.intToInt]
     ·cases G
    ·rename_i i
     split at G
     ·rename_i k n f hi
      split at G
      ·rename_i vA
       obtain⟨rfl,rfl,rfl⟩:=vA;cases G;obtain⟨-,aa,cap,vB,hn,aA⟩:=Ku I hi;refine Cc (s:=convert T.by' T.sx (a.eval x)) rfl (z:=.string (N1 n f)) ?_ (Same.after I (av1 ⟨rfl,rfl⟩));rw[F.2.1,vB];have lA:n=0->N1 n f=ByteArray.empty:=fun e=>by subst e;rfl
       rcases Nat.eq_zero_or_pos cap with e0 | e0
       ·have en:n=0:=(by omega);cases aa with
        | none=>rw[lA en];exact run_convert_bytes_nil w _ _ H.hby H.hu8 _ _ _ H.hs
        | some A=>
         rw[run_convert_bytes_string w _ _ _ _ _ _ H.hby H.hu8 H.hs,lA en];subst en;simp[Conv.bytesToString,loadCells,loadCellsFrom]
       ·obtain⟨ha,-,cs,TT,hh,M,mB⟩:=aA e0;subst ha;refine run_convert_bytes_arg w _ _ H.hby H.hu8 _ 0 _ _ _ (by simp) (fun p hp=>?_) _ H.hs;obtain⟨u,hu,hs⟩:=mB p 0 hp (by omega);obtain⟨v,hv⟩:=S p hp;rw[hv]at hs;obtain⟨rfl,-⟩:=hs;rw[cell_of_row w _ _ _ TT _ hh];simp only[Nat.mul_one,Nat.add_zero,Nat.zero_add]at hu ⊢;simp only[List.getElem?_toArray,hu,List.getD_eq_getElem?_getD,List.getElem?_map,List.getElem?_range hp,Option.map_some,Option.getD_some,hv,yg]
      ·cases G
     ·cases G
    ·cases G
   ·cases B
  ·cases B
 | _=>simp only[B6,coreU]at B;cases B
def Cv.ids:Cv->List Nat
 | .h i=>[i]
 | .p i _=>[i]
 | .e i _ _ _=>[i]
 | .hs i _ _ _=>[i]
 | _=>[]
def Av.ids:Av->List Nat
 | .m _ l=>l.flatMap Cv.ids
 | .t l=>l.flatMap fun q=>q.2.flatMap Cv.ids
def deep(ob:List (Nat×Ob)):List Av->List Nat
 | .m false [.p j 0] :: _=>match get ob j with
  | some (.var cl)=>cl.flatMap Cv.ids
  | _=>[]
 | _=>[]
def N5(Γ : List (Nat×AE))(f:Nat):Bool:=(get Γ f).isSome
def C3(d:Nat):List Nat:=d :: (List.range 40).map (rid d)
def KC:Cv->List Nat
 | .e i _ _ _=>[i]
 | _=>[]
def hdC:List Av->Cv
 | .m false [x] :: _=>x
 | _=>.v (.bool false)
def Sg:List Av->Cv
 | _ :: .m false [x] :: _=>x
 | _=>.v (.bool false)
structure Tk where
 tc:List Nat
 sh:List Nat
 wr:List Nat
 sw:List Nat
def tks(T:Tb)(Γ : List (Nat×AE))(ob:List (Nat×Ob))(op:Op)(dst:Option Nat)(l:List Av):Tk:=
 match op,dst with
 | .alloc _,some d=>⟨[d],[],[d],[]⟩
 | .box _ _,some d=>⟨[d],[],[d],[]⟩
 | .buildSlice _ _ _,some d=>⟨l.flatMap Av.ids ++ [rid d 0],[],l.flatMap Av.ids ++ [rid d 0],[]⟩
 | .makeSlice _ _ _,some d=>⟨[rid d 0],[],[rid d 0],[]⟩
 | .load t _,some d=>if t=T.tk then⟨l.flatMap Av.ids ++ [rid d 0],[],[rid d 0],KC (hdC l)⟩else⟨l.flatMap Av.ids,[],[],[]⟩
 | .store _ _ _,_=>⟨l.flatMap Av.ids,[],l.flatMap Av.ids,[]⟩
 | .slice _ _ _ _ _,_=>⟨[],l.flatMap Av.ids,[],[]⟩
 | .call ⟨.builtin .append,_,tys⟩,some d=>⟨(hdC l).ids ++ (Sg l).ids ++ [rid d 0],[],(hdC l).ids ++ [rid d 0],if tys.toList = [T.mv,T.mv] then(Sg l).ids else []⟩
 | .call ⟨.value (.func f),_,_⟩,some d=>if N5 Γ f then⟨(l.drop 1).flatMap Av.ids ++ C3 d,[],C3 d,[]⟩else⟨(l.drop 1).flatMap Av.ids ++ deep ob (l.drop 1) ++ C3 d,[],(l.drop 1).flatMap Av.ids ++ deep ob (l.drop 1) ++ C3 d,[]⟩
 | .move _,_ | .nilCheck _,_ | .fieldAddr _ _ _,_=>⟨[],[],[],[]⟩
 | _,_=>⟨l.flatMap Av.ids,[],[],[]⟩
def puts(ob:List (Nat×Ob))(us:List (Nat×Ob)):List (Nat×Ob):=us.foldl (fun o q=>put o q.1 q.2) ob
def Agr(L:List Nat)(ob ob':List (Nat×Ob)):Prop:=∀j,j∈L->get ob' j=get ob j
variable{L:List Nat}{ob':List (Nat×Ob)}
theorem Agr.put(h:Agr L ob ob')(i:Nat)(x:Ob):Agr L (put ob i x) (put ob' i x):=fun j a=>by
 rw[B8,B8,h j a]
theorem Agr.sub{L':List Nat}(h:Agr L ob ob')(hs:∀j,j∈L'->j∈L):Agr L' ob ob':=fun j a=>h j (hs j a)
def P9(L H:List Nat)(ob ob':List (Nat×Ob)):Prop:=Agr L ob ob'/\∀j,j∈H->shp (get ob' j)=shp (get ob j)
variable{x:Cv}
theorem zCF{d:TyD}(h:Agr x.ids ob ob'):evLoad d ob' x=evLoad d ob x:=by
 cases x<;>simp only[evLoad]<;>first | rfl | (rw[h _ (by simp[Cv.ids])])
theorem JB(h:get ob' i=get ob i):rowE ob' i=rowE ob i:=by unfold rowE;rw[h]
theorem zBU(h:Agr x.ids ob ob'):evLen ob' x=evLen ob x:=by
 cases x with
 | h i=>simp only[evLen];rw[JB (h i (by simp[Cv.ids]))]
 | v x=>
  cases x with
  | slice a n c=>cases a with
   | none=>cases n<;>cases c<;>rfl
   | some _=>rfl
  | _=>rfl
 | _=>rfl
variable{k:Nat}
theorem Ye(h:Agr x.ids ob ob'):srcOf k ob' x=srcOf k ob x:=by
 cases x with
 | h i=>simp only[srcOf];rw[JB (h i (by simp[Cv.ids]))]
 | hs i k lo n=>simp only[srcOf];rw[JB (h i (by simp[Cv.ids]))]
 | v x=>
  cases x with
  | slice a n c=>cases a with
   | none=>cases n<;>cases c<;>rfl
   | some _=>rfl
  | _=>rfl
 | _=>rfl
theorem zt(h:Agr x.ids ob ob'):mvOf k ob' x=mvOf k ob x:=by
 cases x with
 | h i=>simp only[mvOf];rw[h i (by simp[Cv.ids])]
 | hs i k lo n=>simp only[mvOf];rw[h i (by simp[Cv.ids])]
 | _=>rfl
theorem zAD(h:Agr x.ids ob ob'):tlOf k ob' x=tlOf k ob x:=by
 cases x with
 | h i=>simp only[tlOf];rw[h i (by simp[Cv.ids])]
 | _=>rfl
theorem Yx(h:Agr x.ids ob ob'):dstOf k ob' x=dstOf k ob x:=by
 cases x with
 | h i=>simp only[dstOf];rw[h i (by simp[Cv.ids])]
 | v x=>
  cases x with
  | slice a n c=>cases a with
   | none=>cases n<;>cases c<;>rfl
   | some _=>rfl
  | _=>rfl
 | _=>rfl
theorem zC5(h:Agr x.ids ob ob'):argOf ob' x=argOf ob x:=by
 cases x with
 | h i=>simp only[argOf];rw[JB (h i (by simp[Cv.ids]))]
 | _=>rfl
theorem Yb{ob ob':List (Nat×Ob)}:∀{l:List Cv},Agr (l.flatMap Cv.ids) ob ob'->argL (argOf ob') l=argL (argOf ob) l
 | [],_=>rfl
 | x :: r,h=>by
  simp only[argL];rw[zC5 (h.sub fun j a=>by simp[a]),Yb (h.sub fun j a=>by simp at a ⊢;exact .inr a)]
theorem Yu{ob ob':List (Nat×Ob)}:∀{l:List Av},Agr (l.flatMap Av.ids) ob ob'->argsF (argOf ob') l=argsF (argOf ob) l
 | [],_=>rfl
 | .m g c :: r,h=>by
  simp only[argsF];rw[Yb (h.sub fun j a=>by simp[Av.ids]at a ⊢;exact .inl a),Yu (h.sub fun j a=>by simp at a ⊢;exact .inr a)]
 | .t l :: r,h=>rfl
variable{keep:Bool}
theorem Ol(h:Agr (l.flatMap Av.ids) ob ob'):Ig keep ob' l=Ig keep ob l:=by
 cases keep with
 | true=>rfl
 | false=>exact Yu h
theorem zGu(h:Agr x.ids ob ob'):vT ob' x=vT ob x:=by
 cases x with
 | h i=>simp only[vT];rw[h i (by simp[Cv.ids])]
 | s fl k n f=>cases fl<;>rfl
 | _=>rfl
theorem Re{ob ob':List (Nat×Ob)}:∀{l:List Cv},Agr (l.flatMap Cv.ids) ob ob'->varT ob' l=varT ob l
 | [],_=>rfl
 | x :: r,h=>by
  simp only[varT];rw[zGu (h.sub fun j a=>by simp[a]),Re (h.sub fun j a=>by simp at a ⊢;exact .inr a)]
def qw(f:List (Nat×Ob)->Option (List (Nat×Ob)))(L W:List Nat):Prop:=∀ob ob',f ob=some ob'->∃us,ob'=puts ob us/\(∀q∈us,q.1∈W)/\∀ob2,Agr L ob ob2->f ob2=some (puts ob2 us)
theorem Z7(d:Nat):∀(l:List Tr) (n:Nat),qw (fun ob=>outOb d n ob l) ((List.range' n l.length).map (rid d)) ((List.range' n l.length).map (rid d))
 | [],n=>fun ob ob' h=>by cases h;exact⟨[],rfl,by simp,fun ob2 _=>rfl⟩
 | T :: r,n=>fun ob ob' h=>by
  simp only[outOb]at h;split at h
  ·rename_i i h1
   obtain⟨us,e,w,t⟩:=Z7 d r (n+1) i ob' h;by_cases u:∃k m f,T = .s .o k m f
   ·obtain⟨k,m,f,rfl⟩:=u;simp only[obO]at h1;split at h1
    ·rename_i hn
     cases h1;refine⟨(rid d n,.row k m f) :: us,e,fun q g=>?_,fun ob2 a=>?_⟩
     ·cases g with
      | head=>simp[List.range'_succ]
      | tail _ hm=>have:=w q hm;simp only[List.length_cons,List.range'_succ,List.map_cons,List.mem_cons];exact .inr this
     ·simp only[outOb,obO];rw[a (rid d n) (by simp[List.range'_succ]),hn];exact t _ (Agr.put (a.sub fun j c=>by simp only[List.length_cons,List.range'_succ,List.map_cons,List.mem_cons];exact .inr c) _ _)
    ·cases h1
   ·have p:∀ob,obO ob (rid d n) T=some ob:=fun ob=>by
     cases T with
     | v x=>rfl
     | s fl k m f=>
      cases fl with
      | b=>rfl
      | z=>rfl
      | o=>exact absurd ⟨k,m,f,rfl⟩ u
    rw[p]at h1;cases h1;refine⟨us,e,fun q g=>?_,fun ob2 a=>?_⟩
    ·have:=w q g;simp only[List.length_cons,List.range'_succ,List.map_cons,List.mem_cons];exact .inr this
    ·simp only[outOb,p];exact t _ (a.sub fun j c=>by simp only[List.length_cons,List.range'_succ,List.map_cons,List.mem_cons];exact .inr c)
  ·cases h
theorem Cg(ob us vs:List (Nat×Ob)):puts ob (us ++ vs)=puts (puts ob us) vs:=by simp[puts]
theorem Agr.puts(h:Agr L ob ob'):∀us,Agr L (puts ob us) (puts ob' us):=by
 intro us
 induction us generalizing ob ob' with
 | nil=>exact h
 | cons q r ih=>exact ih (h.put _ _)
theorem Mp(d:Nat):∀(l:List (Bool×List Tr)) (n:Nat),qw (fun ob=>Ej d n ob l) ((List.range' n (tot l)).map (rid d)) ((List.range' n (tot l)).map (rid d))
 | [],n=>fun ob ob' h=>by cases h;exact⟨[],rfl,by simp,fun ob2 _=>rfl⟩
 | q :: r,n=>fun ob ob' h=>by
  simp only[Ej]at h;split at h
  ·rename_i g h1
   obtain⟨us,e,t,s⟩:=Z7 d q.2 n ob g h1;obtain⟨vs,p,m,k⟩:=Mp d r (n+q.2.length) g ob' h;have a:List.range' n (tot (q :: r))=List.range' n q.2.length ++ List.range' (n+q.2.length) (tot r):=by
    simp only[tot];rw[List.range'_append_1]
   refine⟨us ++ vs,by rw[Cg,<-e];exact p,fun x c=>?_,fun ob2 o=>?_⟩
   ·rw[a,List.map_append,List.mem_append];rcases List.mem_append.1 c with c | c
    ·exact .inl (t x c)
    ·exact .inr (m x c)
   ·have b:=s ob2 (o.sub fun j i=>by rw[a,List.map_append,List.mem_append];exact .inl i);simp only at b;simp only[Ej];rw[b,Cg];refine k _ ?_;rw[e];exact Agr.puts (o.sub fun j i=>by rw[a,List.map_append,List.mem_append];exact .inr i) us
  ·cases h
theorem Xy{d:Nat}:∀{l:List Tr} {n:Nat} {ob ob':List (Nat×Ob)},l.any Tr.own=false->outOb d n ob l=some ob'->ob'=ob
 | [],n,ob,ob',_,h=>by cases h;rfl
 | T :: r,n,ob,ob',ha,h=>by
  simp only[List.any_cons,Bool.or_eq_false_iff]at ha;have a:obO ob (rid d n) T=some ob:=by
   cases T with
   | v x=>rfl
   | s fl k m f=>
    cases fl with
    | b=>rfl
    | z=>rfl
    | o=>cases ha.1
  simp only[outOb,a]at h;exact Xy ha.2 h
theorem Yi{d:Nat}:∀{l:List (Bool×List Tr)} {n:Nat} {ob ob':List (Nat×Ob)},(l.any fun q=>q.2.any Tr.own)=false->Ej d n ob l=some ob'->ob'=ob
 | [],n,ob,ob',_,h=>by cases h;rfl
 | q :: r,n,ob,ob',ha,h=>by
  simp only[List.any_cons,Bool.or_eq_false_iff]at ha;simp only[Ej]at h;split at h
  ·rename_i a h1
   rw[Xy ha.1 h1]at h;exact Yi ha.2 h
  ·cases h
variable{sp:AE}
theorem zBT(h:evCall keep sp i ob r=some D)(hn:D.nw=false):D.ob=ob:=by
 unfold evCall at h;split at h
 ·split at h
  ·split at h
   ·split at h
    ·cases h;simp only[Bool.or_eq_false_iff]at hn;obtain⟨rfl,hn⟩:=hn;exact Yi hn (by assumption)
    ·cases h
   ·cases h
  ·cases h
 ·cases h
theorem zAj(h:evCallN sp i ob r=some D):D.nw=true:=by
 unfold evCallN at h;split at h
 ·split at h
  ·split at h
   ·split at h
    ·split at h
     ·cases h;rfl
     ·cases h
    ·cases h
   ·cases h
  ·cases h
 ·cases h
theorem zAn{j:Nat}(h:evCallP keep sp i j ob r=some D):D.nw=true:=by
 unfold evCallP at h;split at h
 ·split at h
  ·split at h
   ·split at h
    ·split at h
     ·split at h
      ·cases h;rfl
      ·cases h
     ·cases h
    ·cases h
   ·cases h
  ·cases h
 ·cases h
theorem zAl(h:evCallO sp i ob r=some D):D.nw=true:=by
 unfold evCallO at h
 repeat' split at h
 all_goals first
  | (cases h;rfl)
  | (cases h;done)
theorem zb{T:Tb}{dst:Option Nat}{op:Op}(h:B6 T Γ dst ob op l=some D)(hn:D.nw=false):D.ob=ob:=by
 unfold B6 coreU at h
 repeat' split at h
 all_goals first
  | (cases h;done)
  | (cases h;rfl)
  | (cases h;cases hn;done)
  | skip
 ·unfold evLd at h
  repeat' split at h
  all_goals first
   | (cases h;done)
   | (cases h;rfl)
   | (cases h;cases hn;done)
 ·unfold evC at h
  repeat' split at h
  all_goals first
   | (cases h;done)
   | exact zBT h hn
   | (rw[zAj h]at hn;cases hn)
   | (rw[zAn h]at hn;cases hn)
   | (rw[zAl h]at hn;cases hn)
end Go.Proofs.YtibhefllijahkaaGreatDoor

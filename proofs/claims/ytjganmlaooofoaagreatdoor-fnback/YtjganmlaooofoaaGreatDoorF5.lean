/- A part of the proof. -/
import Derived.Test.YtjganmlaooofoaaGreatDoorF4
set_option linter.unusedVariables false
set_option maxRecDepth 20000
set_option maxHeartbeats 4000000
namespace Go.Proofs.YtjganmlaooofoaaGreatDoor
open Go.RowKit
theorem Bs.ok_le{s:Bs}{fl:Fl}{e e':Nat}(h:s.ok fl e)(aA:e'<=e):s.ok fl e':=by
 cases s with
 | fz r=>exact h.imp_right fun h l e=>Nat.le_trans aA (h l e)
 | ow o lim=>exact Nat.le_trans aA h
theorem Addr.add_zero(a:Addr):a.add 0=a:=rfl
theorem zTe{P:Program}{t:Nat}{d de:TyD}(h:zAr P t d)(he:d.el≠0)(h':zAr P d.el de){w:World}{E:En}{ob:List (Nat×Ob)}(ho:qO w E ob){a:Act}{x:Operand}{lo hi:Option Operand}{l:List Av}{q:Prop×Cv}(bA:evSlice ob de.k lo hi l=some q)(hc:q.1)(hl:qE (fun x av=>AvR w E (dom ob) av (a.eval x)) (x :: (lo.toList ++ hi.toList)) l) :
  ∃z,(Instr.sliceAt t (a.eval x) (lo.map a.eval) (hi.map a.eval) none).run P w = .ok z w/\CvR w E (dom ob) q.2 z:=by
 unfold evSlice at bA;split at bA
 ·rename_i fl k' n f K ix
  split at bA
  ·rename_i hk
   subst hk;split at bA
   ·rename_i y
    cases bA;simp only[Option.toList_none,Option.toList_some,List.nil_append]at hl;obtain⟨p1,p2,e,h1,h2⟩:=zCN hl;cases e;obtain⟨aa,c,ey,hn,aA⟩:=vl1 h1;have ei:=(vl1 h2).1;obtain⟨c0,c1⟩:=hc;refine⟨.slice aa ix.toNat c,?_,aa,c,rfl,by omega,fun h0=>?_⟩
    ·rw[ey];unfold Instr.sliceAt;rw[Sem.run_bind,run_underlying (h.slice he)];have hx:ix<=(c:Int):=(by omega);cases aa<;>simp[Instr.slice,run_underlying (h.slice he),ei,Instr.sliceBounds,Instr.sliceBound,asIntOf,c0,hx,h'.run_size,Addr.add_zero]
    ·obtain⟨b,o,ea,hb,eA,dA⟩:=aA (by omega);exact⟨b,o,ea,hb,Bs.ok_le eA (Nat.add_le_add_left (Nat.mul_le_mul_right _ (by omega)) _),fun i j hi hj=>dA i j (by omega) hj⟩
   ·rename_i y
    cases bA;simp only[Option.toList_none,Option.toList_some,List.append_nil]at hl;obtain⟨p1,p2,e,h1,h2⟩:=zCN hl;cases e;obtain⟨aa,c,ey,hn,aA⟩:=vl1 h1;have ei:=(vl1 h2).1;obtain⟨c0,c1⟩:=hc;refine⟨.slice (if c=ix.toNat then aa else aa.map (·.add (ix.toNat*de.k))) (n - ix.toNat) (c - ix.toNat),?_,_,_,rfl,by omega,fun h0=>?_⟩
    ·rw[ey];unfold Instr.sliceAt;rw[Sem.run_bind,run_underlying (h.slice he)];simp[Instr.slice,run_underlying (h.slice he),ei,Instr.sliceBounds,Instr.sliceBound,asIntOf,c0,c1,h'.run_size]
    ·obtain⟨b,o,ea,hb,eA,dA⟩:=aA (by omega);refine⟨b,o+ix.toNat*de.k,?_,hb,Bs.ok_le eA ?_,fun i j hi hj=>?_⟩
     ·rw[if_neg (by omega),ea];simp[zCk]
     ·rw[Nat.add_assoc,<-Nat.add_mul];exact Nat.add_le_add_left (Nat.mul_le_mul_right _ (by omega)) _
     ·obtain⟨u,hu,hs⟩:=dA (ix.toNat+i) j (by omega) hj;refine⟨u,?_,hs⟩;rw[<-hu,Nat.add_mul];congr 2;omega
   ·cases bA
  ·cases bA
 ·rename_i i K ix
  split at bA
  ·rename_i k' n hsh
   have cA:∃f,get ob i=some (.row k' n f):=by
    unfold shp at hsh;split at hsh
    ·rename_i k2 n2 f2 hg
     cases hsh;exact⟨f2,hg⟩
    ·cases hsh
   obtain⟨f,cA⟩:=cA;split at bA
   ·rename_i hk
    subst hk;split at bA
    ·rename_i y
     cases bA;simp only[Option.toList_none,Option.toList_some,List.nil_append]at hl;obtain⟨p1,p2,e,h1,h2⟩:=zCN hl;cases e;obtain⟨hd,fA,-⟩:=vl1 h1;obtain⟨aa,c,ey,hn,aA⟩:=ho _ _ cA;have ei:=(vl1 h2).1;obtain⟨c0,c1⟩:=hc;refine⟨.slice aa ix.toNat c,?_,hd,aa,c,rfl,fun h0=>by rw[(aA (by omega)).1,Nat.zero_mul]⟩;rw[fA,ey];unfold Instr.sliceAt;rw[Sem.run_bind,run_underlying (h.slice he)];have hx:ix<=(c:Int):=(by omega);cases aa<;>simp[Instr.slice,run_underlying (h.slice he),ei,Instr.sliceBounds,Instr.sliceBound,asIntOf,c0,hx,h'.run_size,Addr.add_zero]
    ·rename_i y
     cases bA;simp only[Option.toList_none,Option.toList_some,List.append_nil]at hl;obtain⟨p1,p2,e,h1,h2⟩:=zCN hl;cases e;obtain⟨hd,fA,-⟩:=vl1 h1;obtain⟨aa,c,ey,hn,aA⟩:=ho _ _ cA;have ei:=(vl1 h2).1;obtain⟨c0,c1⟩:=hc;refine⟨.slice (if c=ix.toNat then aa else aa.map (·.add (ix.toNat*de.k))) (n - ix.toNat) (c - ix.toNat),?_,hd,_,_,rfl,fun h0=>?_⟩
     ·rw[fA,ey];unfold Instr.sliceAt;rw[Sem.run_bind,run_underlying (h.slice he)];simp[Instr.slice,run_underlying (h.slice he),ei,Instr.sliceBounds,Instr.sliceBound,asIntOf,c0,c1,h'.run_size]
     ·rw[if_neg (by omega),(aA (by omega)).1];simp[zCk]
    ·cases bA
   ·cases bA
  ·cases bA
 ·cases bA
theorem zcu{P:Program}{Γ : List (Nat×zX)}{w:World}(hΓ : zB5 P Γ w){f i:Nat}{E:En}{ob:List (Nat×Ob)}(ho:qO w E ob){r:List Av}{D:Dl}(aA:evC Γ f i ob r=some D)(hc:D.c){ys:List Value}(bA:qE (AvR w E (dom ob)) r ys) :
  zBX P f/\Calls P f ys.toArray w (fun e w'=>∃v E',e = .returned v/\ql (dom ob) w E w' E'/\(∀j,dom ob j->dom D.ob j)/\qO w' E' D.ob/\∃av,D.av=some av/\AvR w' E' (dom D.ob) av v):=by
 unfold evC at aA;split at aA
 ·rename_i hf
  split at aA
  ·rename_i sp hsp
   obtain⟨hs,hE⟩:=hΓ.a _ _ hf hsp;exact⟨hE,zO6 hs (d:=i) ho aA hc bA⟩
  ·split at aA
   ·rename_i sp hsp
    obtain⟨hs,hE⟩:=hΓ.k _ _ hf hsp;exact⟨hE,zO6 hs (d:=i) ho aA hc bA⟩
   ·split at aA
    ·rename_i sp hsp
     obtain⟨hs,hE⟩:=hΓ.n _ _ hf hsp;exact⟨hE,zTa hs (d:=i) ho aA hc bA⟩
    ·split at aA
     ·rename_i sp hsp
      obtain⟨hs,hE⟩:=hΓ.o _ _ hf hsp;exact⟨hE,zTc hs (d:=i) ho aA hc bA⟩
     ·split at aA
      ·rename_i j r'
       cases bA with
       | cons hx hr=>
        split at aA
        ·rename_i sp hsp
         obtain⟨hs,hE⟩:=hΓ.p _ _ hf hsp;exact⟨hE,zMf hs (d:=i) ho aA hc hx hr⟩
        ·split at aA
         ·rename_i sp hsp
          obtain⟨hs,hE⟩:=hΓ.pk _ _ hf hsp;exact⟨hE,zMf hs (d:=i) ho aA hc hx hr⟩
         ·cases aA
      ·cases aA
 ·cases aA
theorem zcv{w:World}{E E':En}{D D':Nat->Prop}{g:Bool}{c:List Cv}{ob:List (Nat×Ob)}{y:Value}(h:VlR w E D g c y)(h':CsR w E' D' (frz c ob).1 y.cells.toList):VlR w E' D' g (frz c ob).1 y:=by
 cases g with
 | true=>obtain⟨cs,rfl,_⟩:=h;exact⟨cs,rfl,by simpa[Value.cells]using h'⟩
 | false=>
  obtain⟨x,rfl,hx⟩:=h;have h1:=hx.one;have e:y.cells=#[y]:=by cases y<;>first | rfl | (simp[Value.oneCell']at h1)
  rw[e]at h';cases h' with
  | cons k1 k2=>exact⟨_,rfl,k1⟩
theorem zau{P:Program}{T:Tb}{Γ : List (Nat×zX)}(hT:zF4 P T){w:World}(hΓ : zB5 P Γ w){o:Oper}{a:Act}{E:En}{ob:List (Nat×Ob)}{l:List Av}{D:Dl}{Q:Exit->Act->World->Prop}(ho:qO w E ob)
  (hl:qE (fun x av=>AvR w E (dom ob) av (a.eval x)) o.op.operands.toList l) (aA:zA1 T Γ o.dst ob o.op l=some D) (hc:D.c):o.wp P a w (zXj E w ob o a D) Q:=by
 obtain⟨dst,op,type,pos,kA,guard⟩:=o;cases op with
 | move x=>
  obtain⟨y,rfl,h1⟩:=zCf hl;cases aA;exact yi (s:=pure (a.eval x)) rfl rfl (Same.after ho h1)
 | assign x=>
  obtain⟨y,rfl,h1⟩:=zCf hl;cases aA;exact yi (s:=pure (a.eval x)) rfl rfl (Same.after ho h1)
 | nilCheck x=>
  obtain⟨y,rfl,h1⟩:=zCf hl;simp only[zA1,coreU]at aA;split at aA
  ·rename_i i oo e
   cases e;cases aA;have h2:=(vl1 h1).2;refine yi (s:=pure (a.eval x)) ?_ rfl (Same.after ho h1);simp only[execOp,h2];rfl
  ·cases aA
 | unOp u t x=>
  obtain⟨y,rfl,h1⟩:=zCf hl;cases u<;>simp only[zA1,coreU]at aA<;>try (cases aA;done)
  split at aA
  ·rename_i b e
   cases e;cases aA;have h2:=(vl1 h1).1;refine yi (s:=Op.unary .not (a.eval x)) rfl (z:=.bool !b) ?_ (Same.after ho (av1 ⟨rfl,rfl⟩));rw[h2];rfl
  ·cases aA
 | binOp op t x y yt=>
  obtain⟨p,q,rfl,h1,h2⟩:=zCN hl;simp only[zA1,coreU]at aA;split at aA
  ·rename_i r hr
   cases aA;obtain⟨h3,h4⟩:=zcn hT hr hc h1 h2 x y;exact yi rfl h3 (Same.after ho (av1 ⟨rfl,h4⟩))
  ·cases aA
 | alloc t=>
  have:=zRP hl;subst this;simp only[zA1,coreU]at aA;split at aA
  ·rename_i d i e hd
   split at aA
   ·rename_i ob' hob
    cases aA;obtain⟨z,w',E',h1,h2,h3,h4,h5⟩:=zTX (hT.ok _ _ hd) ho hob;exact yi rfl h1 ⟨z,E',rfl,h2,h3,h4,fun av e=>by cases e;exact h5⟩
   ·cases aA
  ·cases aA
 | box t x=>
  obtain⟨y,rfl,h1⟩:=zCf hl;simp only[zA1,coreU]at aA;split at aA
  ·rename_i g c i e
   cases e;split at aA
   ·rename_i ob' hob
    cases aA;obtain⟨z,w',E',g1,g2,g3,g4,g5⟩:=zYH (P:=P) (t:=t) ho hob h1;exact yi rfl g1 ⟨z,E',rfl,g2,g3,g4,fun av e=>by cases e;exact g5⟩
   ·cases aA
  ·cases aA
 | load t x=>
  obtain⟨y,rfl,h1⟩:=zCf hl;simp only[zA1,coreU]at aA;split at aA
  ·rename_i x' d e hd
   cases e;unfold evLd at aA;split at aA
   ·rename_i q hq
    cases aA;rw[Option.bind_eq_some_iff]at hq;obtain⟨i,hi,hq⟩:=hq;split at hi
    ·rename_i ht
     subst hi;obtain⟨-,fB,gB⟩:=ht;obtain⟨z,E',h2,h3,h4,h5,h6⟩:=zWX (hT.ok _ _ hd) fB gB ho hq hc (vl1 h1);exact yi rfl h2 ⟨z,E',rfl,h3,h4,h5,fun av e=>by cases e;exact h6⟩
    ·cases hi
   ·split at aA
    ·rename_i q hq
     cases aA;obtain⟨z,h2,h3⟩:=zO7 (hT.ok _ _ hd) ho hq hc (vl1 h1);exact yi rfl h2 (Same.after ho h3)
    ·cases aA
  ·cases aA
 | store t x y=>
  obtain⟨p,q,rfl,h1,h2⟩:=zCN hl;simp only[zA1,coreU]at aA;split at aA
  ·rename_i x' g c d e hd
   cases e;split at aA
   ·rename_i q hq
    cases aA;unfold evSt at hq;split at hq
    ·rename_i r i k a' j
     obtain⟨w',E',g1,g2,g3,g4⟩:=zRj (hT.ok _ _ hd) ho hq hc (vl1 h1) h2;exact zQ8 rfl g1 ⟨undef,E',rfl,g2,g3,g4,fun av e=>by cases e⟩
    ·rename_i i k a' j _
     obtain⟨E1,x1,o1,c1,d1⟩:=zMq ho (VlR.cells h2);obtain⟨w',g1,g2,g3,g4⟩:=zMh (hT.ok _ _ hd) o1 hq hc (CvR.ext x1 (fun j hj=>(d1 j).1 hj) (vl1 h1)) (zcv h2 c1);exact zQ8 rfl g1 ⟨undef,E1,rfl,x1.trans g2 (fun j hj=>(d1 j).1 hj),fun j hj=>g3 j ((d1 j).1 hj),g4,fun av e=>by cases e⟩
    ·obtain⟨w',g1,g2,g3,g4⟩:=zMh (hT.ok _ _ hd) ho hq hc (vl1 h1) h2;exact zQ8 rfl g1 ⟨undef,E,rfl,g2,g3,g4,fun av e=>by cases e⟩
   ·cases aA
  ·cases aA
 | fieldAddr t x f=>
  obtain⟨y,rfl,h1⟩:=zCf hl;simp only[zA1,coreU]at aA;split at aA
  ·rename_i x' d e hd
   cases e;have h2:=vl1 h1;split at aA
   ·rename_i q i oo hq
    cases aA;obtain⟨h3,h4⟩:=h2;refine yi rfl (z:=.pointer (some ⟨E.bl i,oo+q.1,none⟩)) ?_ (Same.after ho (av1 ⟨h3,rfl⟩));rw[h4];exact(hT.ok _ _ hd).run_field hq w _ _
   ·rename_i q i k a' j hq
    cases aA;obtain⟨h3,h4⟩:=h2;refine yi rfl (z:=.pointer (some ⟨E.bl i,a'*k+(j+q.1),none⟩)) ?_ (Same.after ho (av1 ⟨h3,rfl⟩));rw[h4,<-Nat.add_assoc];exact(hT.ok _ _ hd).run_field hq w _ _
   ·rename_i q fl k n g a' j hq
    cases aA;obtain⟨h3,b,oo,h4,h5⟩:=h2;refine yi rfl (z:=.pointer (some ⟨b,oo+(a'*k+(j+q.1)),none⟩)) ?_ (Same.after ho (av1 ⟨h3,b,oo,rfl,h5⟩));rw[h4,<-Nat.add_assoc,<-Nat.add_assoc,<-Nat.add_assoc];exact(hT.ok _ _ hd).run_field hq w _ _
   ·cases aA
  ·cases aA
 | indexAddr t x ix=>
  obtain⟨p,q,rfl,h1,h2⟩:=zCN hl;simp only[zA1,coreU]at aA;split at aA
  ·rename_i x' K ixx d e hd
   cases e;have h3:=vl1 h1;have h4:=(vl1 h2).1;split at aA
   ·rename_i de fl k n g hde
    split at aA
    ·rename_i hk
     cases aA;obtain⟨rfl,dA⟩:=hk;obtain⟨aa,c,e,hn,pA⟩:=h3;obtain⟨b,oo,rfl,hb,eB,gA⟩:=pA (by have:=hc.1;have:=hc.2;omega);refine yi rfl (z:=.pointer (some ⟨b,oo+(ixx.toNat*de.k+0),none⟩)) ?_ (Same.after ho (av1 ⟨by have:=hc.1;have:=hc.2;omega,b,oo,rfl,some ⟨b,oo,none⟩,n,rfl,Nat.le_refl _,fun _=>⟨b,oo,rfl,hb,eB,gA⟩⟩));rw[h4,e,Nat.add_zero];exact(hT.ok _ _ hd).run_index dA (hT.ok _ _ hde) hc.1 hc.2
    ·cases aA
   ·rename_i de i hde
    split at aA
    ·rename_i k n g hi
     split at aA
     ·rename_i hk
      cases aA;obtain⟨rfl,dA⟩:=hk;obtain⟨aa,cap,hv,hn,oA⟩:=ho _ _ hi;obtain⟨vA,_⟩:=oA (by have:=hc.1;have:=hc.2;omega);refine yi rfl (z:=.pointer (some ⟨E.bl i,ixx.toNat*de.k+0,none⟩)) ?_ (Same.after ho (av1 ⟨h3.1,rfl⟩));rw[h4,h3.2.1,hv,vA,Nat.add_zero];have:=(hT.ok _ _ hd).run_index dA (hT.ok _ _ hde) hc.1 hc.2 (w:=w) (b:=E.bl i) (o:=0) (c:=cap) (K:=K);rw[Nat.zero_add]at this;exact this
     ·cases aA
    ·cases aA
   ·cases aA
  ·cases aA
 | index t x ix=>
  obtain⟨p,q,rfl,h1,h2⟩:=zCN hl;simp only[zA1,coreU]at aA;split at aA
  ·rename_i s K ixx e
   cases e;split at aA
   ·rename_i ht
    subst ht;cases aA;have h3:=(vl1 h1).1;have h4:=(vl1 h2).1;refine yi rfl (z:=.int .u8 ((s[ixx.toNat]?).getD 0).toNat) ?_ (Same.after ho (av1 ⟨rfl,rfl⟩));rw[h3,h4];obtain⟨c0,c1⟩:=hc;have mA:ixx.toNat<s.size:=(by omega);unfold Instr.index;simp[asIntOf,run_underlying hT.hs,c0,mA]
   ·cases aA
  ·cases aA
 | extract x ix=>
  obtain⟨y,rfl,h1⟩:=zCf hl;simp only[zA1,coreU]at aA;split at aA
  ·rename_i q e
   cases e;split at aA
   ·rename_i r hr
    cases aA;obtain⟨vs,e,h2⟩:=h1;obtain⟨u,hu,h3⟩:=h2.at hr;refine yi rfl (z:=u) ?_ (Same.after ho h3);rw[e];simp[Instr.extract,hu]
   ·cases aA
  ·cases aA
 | build t ps=>
  simp only[zA1,coreU]at aA;split at aA
  ·rename_i d q hd hq
   split at aA
   ·rename_i c pA
    split at aA
    ·cases aA
    ·rename_i cB
     cases aA;have eA:qE (fun x av=>AvR w E (dom ob) av (a.eval x)) (ps.toList.map (·.2)) l:=(by simpa[Op.operands]using hl);obtain⟨z,h1,h2⟩:=zTY (hT.ok _ _ hd) (fun e=>cB (by rw[e];rfl)) (zJJ hq eA) pA;refine yi rfl (z:=z) ?_ (Same.after ho h2);have e:(ps.map fun (i,x)=>(i,a.eval x))=(ps.toList.map fun p=>(p.1,a.eval p.2)).toArray:=by
      apply Array.ext';simp
     rw[e];exact h1
   ·cases aA
  ·cases aA
 | buildSlice t n ps=>
  simp only[zA1,coreU]at aA;split at aA
  ·rename_i d q i hd hq
   split at aA
   ·rename_i de hde
    split at aA
    ·rename_i ob' hob
     split at aA
     ·cases aA
     ·rename_i dA
      cases aA;have eA:qE (fun x av=>AvR w E (dom ob) av (a.eval x)) (ps.toList.map (·.2)) l:=(by simpa[Op.operands]using hl);obtain⟨z,w',E',h1,h2,h3,h4,h5⟩:=zOK (hT.ok _ _ hd) dA (hT.ok _ _ hde) ho (zJJ hq eA) hob;refine yi rfl (z:=z) ?_ ⟨z,E',rfl,h2,h3,h4,fun av e=>by cases e;exact h5⟩;have e:(ps.map fun (i,x)=>(i,a.eval x))=(ps.toList.map fun p=>(p.1,a.eval p.2)).toArray:=by
       apply Array.ext';simp
      rw[e];exact h1
    ·cases aA
   ·cases aA
  ·cases aA
 | slice t x lo hi mx=>
  cases mx with
  | some _=>simp only[zA1,coreU]at aA;cases aA
  | none=>
   simp only[zA1,coreU]at aA;split at aA
   ·rename_i d hd
    split at aA
    ·rename_i de hde
     split at aA
     ·rename_i q hq
      split at aA
      ·cases aA
      ·rename_i dA
       cases aA;obtain⟨z,h1,h2⟩:=zTe (hT.ok _ _ hd) dA (hT.ok _ _ hde) ho (x:=x) hq hc (by simpa[Op.operands]using hl);exact yi rfl h1 (Same.after ho (av1 h2))
     ·cases aA
    ·cases aA
   ·cases aA
 | makeSlice t x y=>
  obtain⟨p,q,rfl,h1,h2⟩:=zCN hl;simp only[zA1,coreU]at aA;split at aA
  ·rename_i K1 x' K2 y' d i e hd
   cases e;split at aA
   ·rename_i de hde
    split at aA
    ·rename_i ob' hob
     split at aA
     ·cases aA
     ·rename_i dA
      cases aA;obtain⟨rfl,c0,c1⟩:=hc;obtain⟨z,w',E',g1,g2,g3,g4,g5⟩:=zMg (hT.ok _ _ hd) dA (hT.ok _ _ hde) ho (kl:=K1) (kc:=K2) c0 c1 hob;refine yi rfl (z:=z) ?_ ⟨z,E',rfl,g2,g3,g4,fun av e=>by cases e;exact g5⟩;rw[(vl1 h1).1,(vl1 h2).1];exact g1
    ·cases aA
   ·cases aA
  ·cases aA
 | call c=>
  obtain⟨callee,args,jA⟩:=c;cases callee with
  | invoke r m=>simp only[zA1,coreU]at aA;cases aA
  | value f=>
   cases f with
   | func f=>
    simp only[zA1,coreU]at aA;split at aA
    ·rename_i x r i
     have eA:qE (fun x av=>AvR w E (dom ob) av (a.eval x)) (.func f :: args.toList) (x :: r):=(by simpa[Op.operands,Call.operands]using hl);cases eA with
     | cons _ t=>
      have bA:qE (AvR w E (dom ob)) r (args.toList.map a.eval):=by
       clear hl aA hc;generalize args.toList=ags at t
       induction t with
       | nil=>exact .nil
       | cons h1 _ ih=>exact .cons h1 ih
      have tA:zBX P f->Calls P f (args.toList.map a.eval).toArray w (fun e w'=>∃v E',e = .returned v/\ql (dom ob) w E w' E'/\(∀j,dom ob j->dom D.ob j)/\qO w' E' D.ob/\∃av,D.av=some av/\AvR w' E' (dom D.ob) av v)->Oper.wp P ⟨some i,.call ⟨.value (.func f),args,jA⟩,type,pos,kA,guard⟩ a w (zXj E w ob ⟨some i,.call ⟨.value (.func f),args,jA⟩,type,pos,kA,guard⟩ a D) Q:=by
       intro hE fA;have cA:(execOp a.eval ⟨some i,.call ⟨.value (.func f),args,jA⟩,type,pos,kA,guard⟩).run P w = .ok (.enter f (args.toList.map a.eval).toArray) w:=by
        have e:args.map a.eval=(args.toList.map a.eval).toArray:=(by apply Array.ext';simp);simp only[execOp,resolve,Act.eval,Deferred.ofValue,Sem.run_bind,Sem.run_pure,Result.andThen_ok,invoke];rw[show(#[]:Array Value) ++ args.map a.eval ++ #[]=(args.toList.map a.eval).toArray by rw[<-e];simp];exact hE _ _
       unfold Oper.wp;rw[cA];refine fA.mono ?_;rintro e w' ⟨v,E',rfl,h1,h2,h3,av,e1,h4⟩;exact⟨v,E',rfl,h1,h2,h3,fun kB e=>by rw[e1]at e;cases e;exact h4⟩
      obtain⟨hE,fA⟩:=zcu hΓ ho aA hc bA;exact tA hE fA
    ·cases aA
   | _=>simp only[zA1,coreU]at aA;cases aA
  | builtin b=>
   cases b<;>simp only[zA1,coreU]at aA<;>try (cases aA;done)
   case len=>
    have cA:∀(s:Sem Value),Builtin.len_ jA type (args.map a.eval)=s->execOp a.eval ⟨dst,.call ⟨.builtin .len,args,jA⟩,type,pos,kA,guard⟩=(do pure (.value (<-s))):=fun s hs=>by rw[<-hs];rfl
    have eA:qE (fun x av=>AvR w E (dom ob) av (a.eval x)) args.toList l:=(by simpa[Op.operands,Call.operands]using hl);split at aA
    ·rename_i s
     split at aA
     ·rename_i ht
      cases aA;have bA:∃x,args.toList = [x]/\AvR w E (dom ob) (.m false [.v (.string s)]) (a.eval x):=by
       generalize args.toList=ags at eA;cases eA with
       | cons h1 t=>cases t;exact⟨_,rfl,h1⟩
      obtain⟨x,hx,h1⟩:=bA;refine yi (cA _ rfl) (z:=.int .i64 s.size) ?_ (Same.after ho (av1 ⟨rfl,rfl⟩));have e1:args=#[x]:=(by apply Array.ext';simpa using hx);have e2:jA=#[T.sx]:=(by apply Array.ext';simpa using ht);rw[e1,e2];simp[Builtin.len_,(vl1 h1).1,run_underlying hT.hs,goInt]
     ·cases aA
    ·rename_i x' _
     split at aA
     ·rename_i t ht
      split at aA
      ·rename_i d n hd hn
       split at aA
       ·cases aA
       ·rename_i dA
        cases aA;have bA:∃x,args.toList = [x]/\AvR w E (dom ob) (.m false [x']) (a.eval x):=by
         generalize args.toList=ags at eA;cases eA with
         | cons h1 t=>cases t;exact⟨_,rfl,h1⟩
        obtain⟨x,hx,h1⟩:=bA;refine yi (cA _ rfl) (z:=.int .i64 n) ?_ (Same.after ho (av1 ⟨rfl,rfl⟩));have e1:args=#[x]:=(by apply Array.ext';simpa using hx);have e2:jA=#[t]:=(by apply Array.ext';simpa using ht);rw[e1,e2];simpa using zYI (hT.ok _ _ hd) dA ho hn (vl1 h1) type
      ·cases aA
     ·cases aA
    ·cases aA
   case append=>
    have cA:∀(s:Sem Value),Builtin.append_ jA type (args.map a.eval)=s->execOp a.eval ⟨dst,.call ⟨.builtin .append,args,jA⟩,type,pos,kA,guard⟩=(do pure (.value (<-s))):=fun s hs=>by rw[<-hs];rfl
    have eA:qE (fun x av=>AvR w E (dom ob) av (a.eval x)) args.toList l:=(by simpa[Op.operands,Call.operands]using hl);split at aA
    ·rename_i x' y' t t' i ht
     split at aA
     ·rename_i d hd
      split at aA
      ·rename_i de hde
       split at aA
       ·rename_i q hq
        split at aA
        ·rename_i dA
         cases aA;obtain⟨rfl,dA⟩:=dA;have bA:∃x y,args.toList = [x,y]/\AvR w E (dom ob) (.m false [x']) (a.eval x)/\AvR w E (dom ob) (.m false [y']) (a.eval y):=by
          generalize args.toList=ags at eA;cases eA with
          | cons h1 t=>cases t with | cons h2 t=>cases t;exact⟨_,_,rfl,h1,h2⟩
         obtain⟨x,y,hx,h1,h2⟩:=bA;have nA:∃z w' E',(Builtin.append_ #[t',t'] type #[a.eval x,a.eval y]).run P w = .ok z w'/\ql (dom ob) w E w' E'/\(∀j,dom ob j->dom q.2 j)/\qO w' E' q.2/\AvR w' E' (dom q.2) (.m false [.h (rid i 0)]) z:=by
          unfold zAe at hq;split at hq
          ·rename_i q' hq'
           cases hq;split at hq'
           ·exact zQK (hT.ok _ _ hd) dA (hT.ok _ _ hde) ho hq' hc (vl1 h1) (vl1 h2) type
           ·cases hq'
          ·split at hq
           ·rename_i q' hq'
            cases hq;exact zQL (hT.ok _ _ hd) dA (hT.ok _ _ hde) ho hq' hc (vl1 h1) (vl1 h2) type
           ·exact zRg (hT.ok _ _ hd) dA (hT.ok _ _ hde) ho hq hc (vl1 h1) (vl1 h2) type
         obtain⟨z,w',E',g1,g2,g3,g4,g5⟩:=nA;refine yi (cA _ rfl) (z:=z) ?_ ⟨z,E',rfl,g2,g3,g4,fun av e=>by cases e;exact g5⟩;have e1:args=#[x,y]:=(by apply Array.ext';simpa using hx);have e2:jA=#[t',t']:=(by apply Array.ext';simpa using ht);rw[e1,e2];simpa using g1
        ·cases aA
       ·cases aA
      ·cases aA
     ·cases aA
    ·cases aA
 | field t x f=>
  obtain⟨y,rfl,h1⟩:=zCf hl;simp only[zA1,coreU]at aA;split at aA
  ·rename_i c d e hd
   cases e;split at aA
   ·rename_i av hav
    cases aA;unfold evField at hav;split at hav
    ·rename_i q hq
     split at hav
     ·rename_i lB
      cases hav;obtain⟨cs,ey,sA⟩:=h1;have bB:=sA.length;have cA:=(hT.ok _ _ hd).run_part hq w (cs:=cs) (by omega);rw[<-ey]at cA;refine yi rfl cA (Same.after ho ?_);have iA:=(sA.drop q.1).take q.2;by_cases h2:q.2=1
      ·rw[if_pos h2,show(q.2 != 1)=false by simp[h2]];obtain⟨v,hv⟩:∃v,cs[q.1]?=some v:=⟨cs[q.1]'(by omega),List.getElem?_eq_getElem (by omega)⟩;have h3:(cs.drop q.1).take q.2 = [v]:=by
        have mA:q.1<cs.length:=(by omega);rw[h2,List.drop_eq_getElem_cons mA,List.take_succ_cons,List.take_zero];rw[List.getElem?_eq_getElem mA]at hv;cases hv;rfl
       rw[h3]at iA;rw[List.getD_eq_getElem?_getD,hv];obtain⟨x',jB⟩:∃x',(c.drop q.1).take q.2 = [x']:=by
        have:=iA.length
        match hm:(c.drop q.1).take q.2,this with
        | [x'],_=>exact⟨x',rfl⟩
       rw[jB]at iA ⊢;cases iA with
       | cons k1 _=>exact⟨x',rfl,k1⟩
      ·rw[if_neg h2,show(q.2 != 1)=true by simp[h2]];exact⟨_,rfl,iA⟩
     ·cases hav
    ·cases hav
   ·cases aA
  ·cases aA
 | convert src t x=>
  obtain⟨y,rfl,h1⟩:=zCf hl;simp only[zA1,coreU]at aA;split at aA
  ·rename_i x' e
   cases e;split at aA
   ·rename_i q hq
    cases aA;have h2:=vl1 h1;unfold evConv at hq;split at hq
    ·rename_i K n
     split at hq
     ·rename_i k1 k2 hk1 hk2
      cases hq;refine yi (s:=convert src t (a.eval x)) rfl (z:=.int k2 (k2.wrap n)) ?_ (Same.after ho (av1 ⟨rfl,rfl⟩));rw[h2.1];unfold convert;simp[run_underlying (hT.hik _ _ hk1),run_underlying (hT.hik _ _ hk2),Conv.intToInt]
     ·cases hq
    ·rename_i i
     split at hq
     ·rename_i k n f hi
      split at hq
      ·rename_i rA
       obtain⟨rfl,rfl,rfl⟩:=rA;cases hq;obtain⟨-,aa,cap,iB,hn,gA⟩:=zGc ho hi;refine yi (s:=convert T.by' T.sx (a.eval x)) rfl (z:=.string (zV9 n f)) ?_ (Same.after ho (av1 ⟨rfl,rfl⟩));rw[h2.2.1,iB];have lA:n=0->zV9 n f=ByteArray.empty:=fun e=>by subst e;rfl
       rcases Nat.eq_zero_or_pos cap with e0 | e0
       ·have en:n=0:=(by omega);cases aa with
        | none=>rw[lA en];exact run_convert_bytes_nil w _ _ hT.hby hT.hu8 _ _ _ hT.hs
        | some A=>
         rw[run_convert_bytes_string w _ _ _ _ _ _ hT.hby hT.hu8 hT.hs,lA en];subst en;simp[Conv.bytesToString,loadCells,loadCellsFrom]
       ·obtain⟨ha,-,cs,TT,hh,eA,aB⟩:=gA e0;subst ha;refine run_convert_bytes_arg w _ _ hT.hby hT.hu8 _ 0 _ _ _ (by simp) (fun p hp=>?_) _ hT.hs;obtain⟨u,hu,hs⟩:=aB p 0 hp (by omega);obtain⟨v,hv⟩:=hc p hp;rw[hv]at hs;obtain⟨rfl,-⟩:=hs;rw[cell_of_row w _ _ _ TT _ hh];simp only[Nat.mul_one,Nat.add_zero,Nat.zero_add]at hu ⊢;simp only[List.getElem?_toArray,hu,List.getD_eq_getElem?_getD,List.getElem?_map,List.getElem?_range hp,Option.map_some,Option.getD_some,hv,zcb]
      ·cases hq
     ·cases hq
    ·cases hq
   ·cases aA
  ·cases aA
 | _=>simp only[zA1,coreU]at aA;cases aA
def Cv.ids:Cv->List Nat
 | .h i=>[i]
 | .p i _=>[i]
 | .e i _ _ _=>[i]
 | .hs i _ _ _=>[i]
 | _=>[]
def Av.ids:Av->List Nat
 | .m _ l=>l.flatMap Cv.ids
 | .t l=>l.flatMap fun q=>q.2.flatMap Cv.ids
def deep(ob:List (Nat×Ob)):List Av->List Nat
 | .m false [.p j 0] :: _=>match get ob j with
  | some (.var cl)=>cl.flatMap Cv.ids
  | _=>[]
 | _=>[]
def zVC(Γ : List (Nat×zX))(f:Nat):Bool:=(get Γ f).isSome
def zDg(d:Nat):List Nat:=d :: (List.range 40).map (rid d)
def zWV:Cv->List Nat
 | .e i _ _ _=>[i]
 | _=>[]
def hdC:List Av->Cv
 | .m false [x] :: _=>x
 | _=>.v (.bool false)
def zdK:List Av->Cv
 | _ :: .m false [x] :: _=>x
 | _=>.v (.bool false)
structure Tk where
 tc:List Nat
 sh:List Nat
 wr:List Nat
 sw:List Nat
def tks(T:Tb)(Γ : List (Nat×zX))(ob:List (Nat×Ob))(op:Op)(dst:Option Nat)(l:List Av):Tk:=
 match op,dst with
 | .alloc _,some d=>⟨[d],[],[d],[]⟩
 | .box _ _,some d=>⟨[d],[],[d],[]⟩
 | .buildSlice _ _ _,some d=>⟨l.flatMap Av.ids ++ [rid d 0],[],l.flatMap Av.ids ++ [rid d 0],[]⟩
 | .makeSlice _ _ _,some d=>⟨[rid d 0],[],[rid d 0],[]⟩
 | .load t _,some d=>if t=T.tk then⟨l.flatMap Av.ids ++ [rid d 0],[],[rid d 0],zWV (hdC l)⟩else⟨l.flatMap Av.ids,[],[],[]⟩
 | .store _ _ _,_=>⟨l.flatMap Av.ids,[],l.flatMap Av.ids,[]⟩
 | .slice _ _ _ _ _,_=>⟨[],l.flatMap Av.ids,[],[]⟩
 | .call ⟨.builtin .append,_,tys⟩,some d=>⟨(hdC l).ids ++ (zdK l).ids ++ [rid d 0],[],(hdC l).ids ++ [rid d 0],if tys.toList = [T.mv,T.mv] then(zdK l).ids else []⟩
 | .call ⟨.value (.func f),_,_⟩,some d=>if zVC Γ f then⟨(l.drop 1).flatMap Av.ids ++ zDg d,[],zDg d,[]⟩else⟨(l.drop 1).flatMap Av.ids ++ deep ob (l.drop 1) ++ zDg d,[],(l.drop 1).flatMap Av.ids ++ deep ob (l.drop 1) ++ zDg d,[]⟩
 | .move _,_ | .nilCheck _,_ | .fieldAddr _ _ _,_=>⟨[],[],[],[]⟩
 | _,_=>⟨l.flatMap Av.ids,[],[],[]⟩
def puts(ob:List (Nat×Ob))(us:List (Nat×Ob)):List (Nat×Ob):=us.foldl (fun o q=>put o q.1 q.2) ob
def Agr(L:List Nat)(ob ob':List (Nat×Ob)):Prop:=∀j,j∈L->get ob' j=get ob j
theorem Agr.put{L:List Nat}{ob ob':List (Nat×Ob)}(h:Agr L ob ob')(i:Nat)(x:Ob):Agr L (put ob i x) (put ob' i x):=fun j hj=>by
 rw[ze,ze,h j hj]
theorem Agr.sub{L L':List Nat}{ob ob':List (Nat×Ob)}(h:Agr L ob ob')(hs:∀j,j∈L'->j∈L):Agr L' ob ob':=fun j hj=>h j (hs j hj)
def zaa(L H:List Nat)(ob ob':List (Nat×Ob)):Prop:=Agr L ob ob'/\∀j,j∈H->shp (get ob' j)=shp (get ob j)
theorem zQM{d:TyD}{ob ob':List (Nat×Ob)}{x:Cv}(h:Agr x.ids ob ob'):evLoad d ob' x=evLoad d ob x:=by
 cases x<;>simp only[evLoad]<;>first | rfl | (rw[h _ (by simp[Cv.ids])])
theorem zCU{i:Nat}{ob ob':List (Nat×Ob)}(h:get ob' i=get ob i):rowE ob' i=rowE ob i:=by unfold rowE;rw[h]
theorem zRi{ob ob':List (Nat×Ob)}{x:Cv}(h:Agr x.ids ob ob'):evLen ob' x=evLen ob x:=by
 cases x with
 | h i=>simp only[evLen];rw[zCU (h i (by simp[Cv.ids]))]
 | v x=>
  cases x with
  | slice a n c=>cases a with
   | none=>cases n<;>cases c<;>rfl
   | some _=>rfl
  | _=>rfl
 | _=>rfl
theorem zLd{k:Nat}{ob ob':List (Nat×Ob)}{x:Cv}(h:Agr x.ids ob ob'):srcOf k ob' x=srcOf k ob x:=by
 cases x with
 | h i=>simp only[srcOf];rw[zCU (h i (by simp[Cv.ids]))]
 | hs i k lo n=>simp only[srcOf];rw[zCU (h i (by simp[Cv.ids]))]
 | v x=>
  cases x with
  | slice a n c=>cases a with
   | none=>cases n<;>cases c<;>rfl
   | some _=>rfl
  | _=>rfl
 | _=>rfl
theorem zUJ{k:Nat}{ob ob':List (Nat×Ob)}{x:Cv}(h:Agr x.ids ob ob'):mvOf k ob' x=mvOf k ob x:=by
 cases x with
 | h i=>simp only[mvOf];rw[h i (by simp[Cv.ids])]
 | hs i k lo n=>simp only[mvOf];rw[h i (by simp[Cv.ids])]
 | _=>rfl
theorem zUe{k:Nat}{ob ob':List (Nat×Ob)}{x:Cv}(h:Agr x.ids ob ob'):tlOf k ob' x=tlOf k ob x:=by
 cases x with
 | h i=>simp only[tlOf];rw[h i (by simp[Cv.ids])]
 | _=>rfl
theorem zLL{k:Nat}{ob ob':List (Nat×Ob)}{x:Cv}(h:Agr x.ids ob ob'):dstOf k ob' x=dstOf k ob x:=by
 cases x with
 | h i=>simp only[dstOf];rw[h i (by simp[Cv.ids])]
 | v x=>
  cases x with
  | slice a n c=>cases a with
   | none=>cases n<;>cases c<;>rfl
   | some _=>rfl
  | _=>rfl
 | _=>rfl
theorem zRR{ob ob':List (Nat×Ob)}{x:Cv}(h:Agr x.ids ob ob'):argOf ob' x=argOf ob x:=by
 cases x with
 | h i=>simp only[argOf];rw[zCU (h i (by simp[Cv.ids]))]
 | _=>rfl
theorem zMQ{ob ob':List (Nat×Ob)}:∀{l:List Cv},Agr (l.flatMap Cv.ids) ob ob'->argL (argOf ob') l=argL (argOf ob) l
 | [],_=>rfl
 | x :: r,h=>by
  simp only[argL];rw[zRR (h.sub fun j hj=>by simp[hj]),zMQ (h.sub fun j hj=>by simp at hj ⊢;exact .inr hj)]
theorem zLI{ob ob':List (Nat×Ob)}:∀{l:List Av},Agr (l.flatMap Av.ids) ob ob'->argsF (argOf ob') l=argsF (argOf ob) l
 | [],_=>rfl
 | .m g c :: r,h=>by
  simp only[argsF];rw[zMQ (h.sub fun j hj=>by simp[Av.ids]at hj ⊢;exact .inl hj),zLI (h.sub fun j hj=>by simp at hj ⊢;exact .inr hj)]
 | .t l :: r,h=>rfl
theorem zFq{keep:Bool}{ob ob':List (Nat×Ob)}{l:List Av}(h:Agr (l.flatMap Av.ids) ob ob'):zAZ keep ob' l=zAZ keep ob l:=by
 cases keep with
 | true=>rfl
 | false=>exact zLI h
theorem zaV{ob ob':List (Nat×Ob)}{x:Cv}(h:Agr x.ids ob ob'):vT ob' x=vT ob x:=by
 cases x with
 | h i=>simp only[vT];rw[h i (by simp[Cv.ids])]
 | s fl k n f=>cases fl<;>rfl
 | _=>rfl
theorem zJR{ob ob':List (Nat×Ob)}:∀{l:List Cv},Agr (l.flatMap Cv.ids) ob ob'->varT ob' l=varT ob l
 | [],_=>rfl
 | x :: r,h=>by
  simp only[varT];rw[zaV (h.sub fun j hj=>by simp[hj]),zJR (h.sub fun j hj=>by simp at hj ⊢;exact .inr hj)]
def zbv(f:List (Nat×Ob)->Option (List (Nat×Ob)))(L W:List Nat):Prop:=∀ob ob',f ob=some ob'->∃us,ob'=puts ob us/\(∀q∈us,q.1∈W)/\∀ob2,Agr L ob ob2->f ob2=some (puts ob2 us)
theorem zLV(d:Nat):∀(l:List Tr) (n:Nat),zbv (fun ob=>outOb d n ob l) ((List.range' n l.length).map (rid d)) ((List.range' n l.length).map (rid d))
 | [],n=>fun ob ob' h=>by cases h;exact⟨[],rfl,by simp,fun ob2 _=>rfl⟩
 | T :: r,n=>fun ob ob' h=>by
  simp only[outOb]at h;split at h
  ·rename_i aA h1
   obtain⟨us,e,hw,hl⟩:=zLV d r (n+1) aA ob' h;by_cases ho:∃k m f,T = .s .o k m f
   ·obtain⟨k,m,f,rfl⟩:=ho;simp only[obO]at h1;split at h1
    ·rename_i hn
     cases h1;refine⟨(rid d n,.row k m f) :: us,e,fun q hq=>?_,fun ob2 ha=>?_⟩
     ·cases hq with
      | head=>simp[List.range'_succ]
      | tail _ hm=>have:=hw q hm;simp only[List.length_cons,List.range'_succ,List.map_cons,List.mem_cons];exact .inr this
     ·simp only[outOb,obO];rw[ha (rid d n) (by simp[List.range'_succ]),hn];exact hl _ (Agr.put (ha.sub fun j hj=>by simp only[List.length_cons,List.range'_succ,List.map_cons,List.mem_cons];exact .inr hj) _ _)
    ·cases h1
   ·have hT:∀ob,obO ob (rid d n) T=some ob:=fun ob=>by
     cases T with
     | v x=>rfl
     | s fl k m f=>
      cases fl with
      | b=>rfl
      | z=>rfl
      | o=>exact absurd ⟨k,m,f,rfl⟩ ho
    rw[hT]at h1;cases h1;refine⟨us,e,fun q hq=>?_,fun ob2 ha=>?_⟩
    ·have:=hw q hq;simp only[List.length_cons,List.range'_succ,List.map_cons,List.mem_cons];exact .inr this
    ·simp only[outOb,hT];exact hl _ (ha.sub fun j hj=>by simp only[List.length_cons,List.range'_succ,List.map_cons,List.mem_cons];exact .inr hj)
  ·cases h
theorem qX(ob us vs:List (Nat×Ob)):puts ob (us ++ vs)=puts (puts ob us) vs:=by simp[puts]
theorem Agr.puts{L:List Nat}{ob ob':List (Nat×Ob)}(h:Agr L ob ob'):∀us,Agr L (puts ob us) (puts ob' us):=by
 intro us
 induction us generalizing ob ob' with
 | nil=>exact h
 | cons q r ih=>exact ih (h.put _ _)
theorem zD1(d:Nat):∀(l:List (Bool×List Tr)) (n:Nat),zbv (fun ob=>qq d n ob l) ((List.range' n (tot l)).map (rid d)) ((List.range' n (tot l)).map (rid d))
 | [],n=>fun ob ob' h=>by cases h;exact⟨[],rfl,by simp,fun ob2 _=>rfl⟩
 | q :: r,n=>fun ob ob' h=>by
  simp only[qq]at h;split at h
  ·rename_i cA h1
   obtain⟨us,e,hw,hl⟩:=zLV d q.2 n ob cA h1;obtain⟨vs,e',eA,dA⟩:=zD1 d r (n+q.2.length) cA ob' h;have aA:List.range' n (tot (q :: r))=List.range' n q.2.length ++ List.range' (n+q.2.length) (tot r):=by
    simp only[tot];rw[List.range'_append_1]
   refine⟨us ++ vs,by rw[qX,<-e];exact e',fun x hx=>?_,fun ob2 ha=>?_⟩
   ·rw[aA,List.map_append,List.mem_append];rcases List.mem_append.1 hx with hx | hx
    ·exact .inl (hw x hx)
    ·exact .inr (eA x hx)
   ·have bA:=hl ob2 (ha.sub fun j hj=>by rw[aA,List.map_append,List.mem_append];exact .inl hj);simp only at bA;simp only[qq];rw[bA,qX];refine dA _ ?_;rw[e];exact Agr.puts (ha.sub fun j hj=>by rw[aA,List.map_append,List.mem_append];exact .inr hj) us
  ·cases h
theorem zNd{d:Nat}:∀{l:List Tr} {n:Nat} {ob ob':List (Nat×Ob)},l.any Tr.own=false->outOb d n ob l=some ob'->ob'=ob
 | [],n,ob,ob',_,h=>by cases h;rfl
 | T :: r,n,ob,ob',ha,h=>by
  simp only[List.any_cons,Bool.or_eq_false_iff]at ha;have hT:obO ob (rid d n) T=some ob:=by
   cases T with
   | v x=>rfl
   | s fl k m f=>
    cases fl with
    | b=>rfl
    | z=>rfl
    | o=>cases ha.1
  simp only[outOb,hT]at h;exact zNd ha.2 h
theorem zLW{d:Nat}:∀{l:List (Bool×List Tr)} {n:Nat} {ob ob':List (Nat×Ob)},(l.any fun q=>q.2.any Tr.own)=false->qq d n ob l=some ob'->ob'=ob
 | [],n,ob,ob',_,h=>by cases h;rfl
 | q :: r,n,ob,ob',ha,h=>by
  simp only[List.any_cons,Bool.or_eq_false_iff]at ha;simp only[qq]at h;split at h
  ·rename_i aA h1
   rw[zNd ha.1 h1]at h;exact zLW ha.2 h
  ·cases h
theorem zRh{keep:Bool}{sp:zX}{i:Nat}{ob:List (Nat×Ob)}{r:List Av}{D:Dl}(h:evCall keep sp i ob r=some D)(hn:D.nw=false):D.ob=ob:=by
 unfold evCall at h;split at h
 ·split at h
  ·split at h
   ·split at h
    ·cases h;simp only[Bool.or_eq_false_iff]at hn;obtain⟨rfl,hn⟩:=hn;exact zLW hn (by assumption)
    ·cases h
   ·cases h
  ·cases h
 ·cases h
theorem zTZ{sp:zX}{i:Nat}{ob:List (Nat×Ob)}{r:List Av}{D:Dl}(h:evCallN sp i ob r=some D):D.nw=true:=by
 unfold evCallN at h;split at h
 ·split at h
  ·split at h
   ·split at h
    ·split at h
     ·cases h;rfl
     ·cases h
    ·cases h
   ·cases h
  ·cases h
 ·cases h
theorem zTd{keep:Bool}{sp:zX}{i j:Nat}{ob:List (Nat×Ob)}{r:List Av}{D:Dl}(h:evCallP keep sp i j ob r=some D):D.nw=true:=by
 unfold evCallP at h;split at h
 ·split at h
  ·split at h
   ·split at h
    ·split at h
     ·split at h
      ·cases h;rfl
      ·cases h
     ·cases h
    ·cases h
   ·cases h
  ·cases h
 ·cases h
theorem zTb{sp:zX}{i:Nat}{ob:List (Nat×Ob)}{r:List Av}{D:Dl}(h:evCallO sp i ob r=some D):D.nw=true:=by
 unfold evCallO at h
 repeat' split at h
 all_goals first
  | (cases h;rfl)
  | (cases h;done)
theorem zWQ{T:Tb}{Γ : List (Nat×zX)}{dst:Option Nat}{ob:List (Nat×Ob)}{op:Op}{l:List Av}{D:Dl}(h:zA1 T Γ dst ob op l=some D)(hn:D.nw=false):D.ob=ob:=by
 unfold zA1 coreU at h
 repeat' split at h
 all_goals first
  | (cases h;done)
  | (cases h;rfl)
  | (cases h;cases hn;done)
  | skip
 ·unfold evLd at h
  repeat' split at h
  all_goals first
   | (cases h;done)
   | (cases h;rfl)
   | (cases h;cases hn;done)
 ·unfold evC at h
  repeat' split at h
  all_goals first
   | (cases h;done)
   | exact zRh h hn
   | (rw[zTZ h]at hn;cases hn)
   | (rw[zTd h]at hn;cases hn)
   | (rw[zTb h]at hn;cases hn)
end Go.Proofs.YtjganmlaooofoaaGreatDoor

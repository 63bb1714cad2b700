/- A part of the proof. -/
import Derived.Test.YtmgeglgboadfiaaGreatDoorV2
set_option linter.unusedVariables false
set_option maxRecDepth 20000
set_option maxHeartbeats 4000000
namespace Go.Proofs.YtmgeglgboadfiaaGreatDoor
open Go.RowKit
def zAO(p:zI)(rs:Int)(s:zL)(j:Nat):List Int:=rs :: yG (zAy p s j)
def zBP(p:zI)(rs:Int)(s:zL)(j i:Nat):List Int:=zAO p rs s j ++ (zb s j :: yG (kidsUp (zb (p.s (zb s j).toNat)) (zt (p.s (zb s j).toNat)) i))
theorem zH3(p:zI)(s:zL)(j:Nat):∀m,j<=m->∃r,zAy p s m=zAy p s j ++ r
 | 0,h=>⟨[],by rw[show j=0 by omega];simp⟩
 | m+1,h=>by
  by_cases e:j=m+1
  ·subst e;exact⟨[],by simp⟩
  ·obtain⟨r,hr⟩:=zH3 p s j m (by omega);exact⟨r ++ zE7 p (zb s m) (zt s m),by rw[zAy,hr,List.append_assoc]⟩
theorem zHF(ks kb:Nat->Int)(j:Nat):∀m,j<=m->∃r,kidsUp ks kb m=kidsUp ks kb j ++ r
 | 0,h=>⟨[],by rw[show j=0 by omega];simp⟩
 | m+1,h=>by
  by_cases e:j=m+1
  ·subst e;exact⟨[],by simp⟩
  ·obtain⟨r,hr⟩:=zHF ks kb j m (by omega);exact⟨r ++ one (ks m) (kb m),by rw[kidsUp,hr,List.append_assoc]⟩
theorem zA1(l m:List (Int×Int)):yG (l ++ m)=yG l ++ yG m:=by simp[yG]
theorem zDm{l:List Int}{x:Int}:(l ++ [x]).Nodup↔l.Nodup/\x∉l:=by
 rw[List.nodup_append];constructor
 ·rintro⟨h1,_,h3⟩;exact⟨h1,fun hx=>h3 x hx x (by simp) rfl⟩
 ·rintro⟨h1,h2⟩;refine⟨h1,by simp,fun a ha b hb e=>?_⟩;rw[List.mem_singleton]at hb;subst hb;subst e;exact h2 ha
theorem zIf{p:zI}{rs rb:Int}(hz:¬Nil rs rb):yG (zR p rs rb)=zAO p rs (p.s rs.toNat) 8:=by
 unfold zR zAO;rw[if_neg hz];rfl
theorem zL4{p:zI}{s:zL}{j:Nat}(hn:¬Nil (zb s j) (zt s j)):zE7 p (zb s j) (zt s j)=(zb s j,zt s j) :: zM4 (p.s (zb s j).toNat):=if_neg hn
theorem zE0{p:zI}{rs:Int}{s:zL}{j:Nat}(hn:¬Nil (zb s j) (zt s j)):zAO p rs s (j+1)=zBP p rs s j 8:=by
 unfold zAO zBP zAO;rw[zAy,zA1,zL4 hn];rfl
theorem zGs{p:zI}{rs:Int}{s:zL}{j:Nat}(hn:Nil (zb s j) (zt s j)):zAO p rs s (j+1)=zAO p rs s j:=by
 unfold zAO;rw[zAy,show zE7 p (zb s j) (zt s j) = [] from if_pos hn,List.append_nil]
theorem zGQ(p:zI)(rs:Int)(s:zL)(j:Nat):zBP p rs s j 0=zAO p rs s j ++ [zb s j]:=rfl
theorem zPS{p:zI}{rs:Int}{s:zL}{j i:Nat}(hn:Nil (zb (p.s (zb s j).toNat) i) (zt (p.s (zb s j).toNat) i)):zBP p rs s j (i+1)=zBP p rs s j i:=by
 unfold zBP;rw[kidsUp,show one (zb (p.s (zb s j).toNat) i) (zt (p.s (zb s j).toNat) i) = [] from if_pos hn,List.append_nil]
theorem zPY{p:zI}{rs:Int}{s:zL}{j i:Nat}(hn:¬Nil (zb (p.s (zb s j).toNat) i) (zt (p.s (zb s j).toNat) i)):zBP p rs s j (i+1)=zBP p rs s j i ++ [zb (p.s (zb s j).toNat) i]:=by
 unfold zBP;rw[kidsUp,show one (zb (p.s (zb s j).toNat) i) (zt (p.s (zb s j).toNat) i) = [(zb (p.s (zb s j).toNat) i,zt (p.s (zb s j).toNat) i)] from if_neg hn,zA1,List.append_assoc];rfl
theorem zLv(p:zI)(rs:Int)(s:zL){j:Nat}(hj:j<=8):(zAO p rs s j).length<=73:=by
 have:=zEo p s j;simp only[zAO,yG,List.length_cons,List.length_map];omega
theorem zQP(p:zI)(rs:Int)(s:zL){j i:Nat}(hj:j<=8)(hi:i<=8):(zBP p rs s j i).length<=90:=by
 have h1:=zLv p rs s hj;have h2:=zBE (zb (p.s (zb s j).toNat)) (zt (p.s (zb s j).toNat)) i;simp only[zBP,yG,List.length_append,List.length_cons,List.length_map];omega
theorem zJt{p:zI}{rs rb:Int}(hz:¬Nil rs rb)(h:(yG (zR p rs rb)).Nodup){j i:Nat}(hj:j<8)(hi:i<=8)(hn:¬Nil (zb (p.s rs.toNat) j) (zt (p.s rs.toNat) j)):(zBP p rs (p.s rs.toNat) j i).Nodup:=by
 rw[zIf hz]at h;obtain⟨r,hr⟩:=zH3 p (p.s rs.toNat) (j+1) 8 (by omega);obtain⟨r2,aA⟩:=zHF (zb (p.s (zb (p.s rs.toNat) j).toNat)) (zt (p.s (zb (p.s rs.toNat) j).toNat)) i 8 hi;have e1:zAO p rs (p.s rs.toNat) 8=zAO p rs (p.s rs.toNat) (j+1) ++ yG r:=by unfold zAO;rw[hr,zA1];rfl
 have e2:zBP p rs (p.s rs.toNat) j 8=zBP p rs (p.s rs.toNat) j i ++ yG r2:=by
  unfold zBP;rw[aA,zA1,List.append_assoc];rfl
 rw[e1,zE0 hn,e2,List.append_assoc]at h;exact(List.nodup_append.1 h).1
theorem zOs:(Tryz.prog.info? 2).map (fun i=>(i.zero,i.size,i.bytes))=some (some (.int .i64 0),1,8):=by kernel_rfl
def zFl(w:World)(base:Nat)(v:Value)(l:List Int):Prop:=w.ownsRow base 2 1 v l.length (icl l)
theorem zFl.zRX{w w1:World}{base:Nat}{v:Value}{l:List Int}(h:zFl w base v l)(hb:Below w.heap.size w w1):zFl w1 base v l:=
 World.ownsRow.kept h (yt hb none) (by cases v.ownBlock<;>simp)
theorem zFl.next{w2:World}{base g aA:Nat}{l:List Int}{x:Int}(h:w2.ownsRow base 2 1 (.slice (some ⟨g,0,none⟩) (l.length+1) aA) (l.length+1) (icl l ++ [.int .i64 x])):zFl w2 base (.slice (some ⟨g,0,none⟩) (l.length+1) aA) (l ++ [x]):=by
 unfold zFl;rw[zND,List.length_append];exact h
theorem zFl.lt{w:World}{base:Nat}{v:Value}{l:List Int}(h:zFl w base v l){q:Nat}(hq:v.ownBlock=some q):base<=q:=by
 rcases h.2 with⟨rfl,_⟩ | ⟨g,aA,bA,rfl,hb,hg,_⟩
 ·simp[Value.ownBlock]at hq
 ·simp only[Value.ownBlock,Option.some.injEq]at hq;subst hq;exact hb
theorem zc.grownT{w w1:World}{b:Nat}{x y:Value}{row:Option Nat}(h:zc w b x y)(hg:w.grownBy w1 row)(aA:∀q,row=some q->b<q):zc w1 b x y:=
 h.zRf (S:=fun k=>row=some k) ⟨hg.os,hg.tape,hg.output,hg.size,fun k hk aA=>hg.block k hk (fun e=>aA e.symm)⟩ (fun e=>by have:=aA b e;omega)
theorem zCU(v0 v1:Value)(lo hi:Nat)(p:zI)(xs xb:Int)(w:World)(h1:zu w lo hi v0 v1 p)(hR:zx p) :
  Calls Tryz.prog 71 #[.agg #[v0,v1],.agg #[.int .i64 xs,.int .i64 xb]] w fun e w'=>zG (qG p xs xb) e/\Below w.heap.size w w':=by
 have Hp:=zE h1;have HR:=zE hR;obtain⟨a,c,a',c',rfl,rfl⟩:∃a c a' c',v0 = .slice a p.n c/\v1 = .slice a' p.hn c':=by
  obtain⟨⟨_,a,c,h1,_⟩,⟨_,a',c',h3,_⟩⟩:=h1;exact⟨a,c,a',c',h1,h3⟩
 clear h1 hR;have cE:=zB6 w (.slice a p.n c) (.slice a' p.hn c') (.int .i64 xs) (.int .i64 xb) 33 61;obtain⟨i0,jE,oD⟩:=Option.map_eq_some_iff.1 zOs;simp only[Prod.mk.injEq]at oD;have HI:=zE (And.intro jE oD);clear jE oD;go_enter Tryz.func71,Tryz.ntmps71;go_wp2_with fail;generalize (w.alloc (.cells #[.slice a p.n c,.slice a' p.hn c'] 33)).alloc (.cells #[.int .i64 xs,.int .i64 xb] 61)=W at cE ⊢;obtain⟨hB,hX,eA,hz⟩:=cE;refine(yx xs xb W).mono ?_;rintro e w1 ⟨⟨t,rfl,ht⟩,eC⟩;have pD:=zE (hB.zRX eC);have gD:=zE (hX.zRX eC);have tC:=zA eA eC;have sE:=eC.size;clear hB hX eA eC;by_cases hn:Nil xs xb
 ·have HN:=zE hn;obtain rfl:t=true:=ht.2 hn;clear ht hn;go_wp2;go_ret;exact⟨zG.yes (Or.inl HN.out),tC⟩
 ·have HN:=zE hn;obtain rfl:t=false:=zQ ht hn;clear ht hn;obtain⟨⟨x0,x1⟩,⟨x2,x3⟩⟩:=pD.out;obtain⟨⟨y0,y1⟩,⟨y2,y3⟩⟩:=gD.out;go_wp2_with fail;refine(zC7 _ _ lo hi p xs xb _ (Hp.out.zRX tC)).mono ?_;rintro e w2 ⟨⟨t,rfl,ht⟩,iC⟩;have kD:=zE (pD.out.zRX iC);have dD:=zE (gD.out.zRX iC);have lD:=zA tC iC;have pE:w.heap.size+2<=w2.heap.size:=(by have:=iC.size;omega);clear iC tC pD gD x0 x1 x2 x3 y0 y1 y2 y3 hz sE;by_cases aB:zAi p xs xb
  ·have mD:=zE aB;obtain rfl:t=true:=ht.2 aB;have Hf:=zE (qS HR.out aB.1);have h8:(p.s xs.toNat).kn=8:=by rcases zDR HR.out aB.1 with h | h;(have:=aB.2.1;omega);exact h
   obtain⟨k,rfl⟩:=Int.eq_ofNat_of_zero_le aB.1.2.1;have hk:k<p.n:=(by have:=aB.1.2.2.1;omega);have nF:(k:Int)<(p.n:Int):=(by omega);rw[Int.toNat_natCast]at Hf h8;have H8:=zE h8;clear ht aB;obtain⟨b,off,ka,kc,rfl,eD⟩:=Hp.out.1.cells hk;have mE:Hid (zU w lo hi (.slice ka 8 kc) 8 (p.s k).ks (p.s k).kb):=(by have:=eD.slot.2.1;rw[h8]at this;exact this);obtain⟨q0,q1,q2,_⟩:=eD.zRX lD;rw[h8]at q1;clear h8 eD;obtain⟨⟨x0,x1⟩,⟨x2,x3⟩⟩:=kD.out;obtain⟨⟨y0,y1⟩,⟨y2,y3⟩⟩:=dD.out;have iA:=zC w2 (.cells #[.int .i64 (k:Int)] 2);have eE:=zE (show zFl (w2.alloc (.cells #[.int .i64 (k:Int)] 2)) (w.heap.size+2) (.slice (some ⟨w2.heap.size,0,none⟩) 1 1) (zAO p k (p.s k) 0)from World.ownsRow_lit (e:=2) (size:=1) w2 #[.int .i64 (k:Int)] 1 pE (by unfold maxLen;omega) rfl);have nD:=zE (kD.out.zRX iA);have kE:=zA lD iA;have c0:=(iA.cell (zD q0)).trans q0;have c1:=(iA.cell (zD q1)).trans q1;obtain⟨⟨z0,z1⟩,⟨z2,z3⟩⟩:=nD.out;obtain⟨⟨z4,z5⟩,⟨z6,z7⟩⟩:=dD.out.zRX iA;clear iA;go_wp2
   go_loopw [5,6,8] (fun sv nv i wr=>∃(j m:Nat) (sa:Option Addr) (sc:Nat),j<=8/\i = .int .i64 j/\nv = .int .i64 m/\m<=j/\(0<m↔∃i,i<j/\¬Nil (zb (p.s k) i) (zt (p.s k) i))/\sv = .slice sa (zAO p k (p.s k) j).length sc/\zFl wr (w.heap.size+2) sv (zAO p k (p.s k) j)/\(∀i,i<j->zQm p (p.s k) i)/\(zAO p k (p.s k) j).Nodup/\zc wr w.heap.size (.slice (some ⟨b,off,none⟩) p.n c) (.slice a' p.hn c')/\Below w.heap.size w wr/\w.heap.size+2<=wr.heap.size) (fun _ _ i _=>8 - (intOf i).toNat)
   case atStart=>exact⟨0,0,_,_,Nat.zero_le _,rfl,rfl,Nat.le_refl _,⟨fun h=>absurd h (Nat.lt_irrefl _),fun ⟨i,hi,_⟩=>absurd hi (Nat.not_lt_zero _)⟩,rfl,eE.out,fun i hi=>absurd hi (Nat.not_lt_zero _),by simp[zAO,zAy,yG],nD.out,kE,by rw[World.size_alloc];omega⟩
   case round=>
    obtain⟨j,m0,sa,sc,hj,rfl,rfl,mF,cC,rfl,cB,lC,eB,tA,gB,pC⟩:=hrel;have kC:=zE cC;have mA:=zE cB;have pB:=zE lC;have nB:=zE eB;have nA:=zE tA;have gF:=zLv p k (p.s k) hj;clear cC cB lC eB tA eE nD kE c0 c1 z0 z1 z2 z3 z4 z5 z6 z7 x0 x1 x2 x3 y0 y1 y2 y3 q0 q1 q2 kD dD;by_cases rA:j<8
    ·have cF:(j:Int)<8:=(by omega);obtain⟨tb,aC,rfl,q0,q1⟩:=(mE.out.zRX gB).cellsT rA;rw[<-zC6 H8.out rA]at q0;rw[<-zEt H8.out rA]at q1;go_wp2_with fail;refine(yx (zb (p.s k) j) (zt (p.s k) j) wr).mono ?_;rintro e W ⟨⟨t,rfl,ht⟩,hb⟩;have dA:=zA gB hb;have kA:=zE (nA.out.zRX hb);have vA:=zE (mA.out.zRX hb);have vD:w.heap.size+2<=W.heap.size:=(by have:=hb.size;omega);have gC:=(hb.cell (zD q0)).trans q0;have fC:=(hb.cell (zD q1)).trans q1;clear q0 q1 gB hb mA nA pC;have q0:=gC;have q1:=fC;clear gC fC;by_cases oA:Nil (zb (p.s k) j) (zt (p.s k) j)
     ·have jA:=zE oA;obtain rfl:t=true:=ht.2 oA;clear ht oA;go_wp2;go_roundw
      case rel=>
       refine⟨j+1,m0,sa,sc,by omega,by go_num,rfl,by omega,?_,by rw[zGs jA.out],by rw[zGs jA.out];exact vA.out,zo rA pB.out (Or.inl jA.out),by rw[zGs jA.out];exact nB.out,kA.out,dA,vD⟩;exact kC.out.trans ⟨fun ⟨i,hi,h⟩=>⟨i,by omega,h⟩,fun ⟨i,hi,h⟩=>by
        by_cases e:i=j
        ·subst e;exact absurd jA.out h
        ·exact⟨i,by omega,h⟩⟩
      case measure=>simp[intOf];omega
     ·have jA:=zE oA;obtain rfl:t=false:=zQ ht oA;clear ht oA;have fA:=zE (show(zAO p k (p.s k) j).length<=maxLen by unfold maxLen;omega);obtain⟨⟨x0,x1⟩,⟨x2,x3⟩⟩:=kA.out;by_cases vC:zAi p (zb (p.s k) j) (zt (p.s k) j)
      ·have fB:=zE vC;clear vC;by_cases nC:zb (p.s k) j∈zAO p k (p.s k) j
       ·have dC:=zE nC;clear nC;go_wp2_with fail;refine wp_region_held_drew (S:=(fun w'=>w'.cell? ⟨w.heap.size,0,none⟩=some (.slice (some ⟨b,off,none⟩) p.n c)/\w'.cell? ⟨w.heap.size,1,none⟩=some (.slice a' p.hn c')/\w'.cell? ⟨tb,aC+j*2,none⟩=some (.int .i64 (zb (p.s k) j))/\w'.cell? ⟨tb,aC+j*2+1,none⟩=some (.int .i64 (zt (p.s k) j)))) (by kernel_rfl) ?_ (fun hHeld=>?_)
        ·(try dsimp only)
         go_keep
        refine tk 0 (h:=tk 1 (h:=tk 2 (h:=tk 3 (h:=tk 4 (h:=?_)))));refine rd [5] (rc (fun K hK=>?_) .nil);go_simp;go_at_call 139;refine(zC7 _ _ lo hi p (zb (p.s k) j) (zt (p.s k) j) _ ?_).mono ?_
        ·first | exact Hp.out.zRX dA | exact Hp.out.zRX dA.drew
        rintro e wa ⟨⟨ta,rfl,gA⟩,eA⟩;obtain rfl:ta=true:=gA.2 fB.out;clear gA;have aA:Below W.heap.size W wa:=(by first | exact eA | exact zK eA);obtain⟨⟨k0,_⟩,⟨k1,_⟩⟩:=kA.out.zRX aA;have k2:=(aA.cell (zD q0)).trans q0;have k3:=(aA.cell (zD q1)).trans q1
        (try go_wp2_with fail)
        refine hK.out _ _ (by(try dsimp only);go_keep) ?_;clear hK K hHeld;intro hHeld
        try simp only[Act.put,s1,s2,s3]
        refine tk 6 (h:=tk 7 (h:=tk 8 (h:=tk 9 (h:=tk 10 (h:=tk 11 (h:=tk 12 (h:=tk 13 (h:=?_))))))));refine rd [14] (rc (fun K hK=>?_) .nil);go_simp;go_at_call 75;refine(zAV _ _ 0 _ _ (zb (p.s k) j) _ (zF3 fA.out (vA.out.kept (yt aA none) (by rcases Value.ownBlock _<;>simp)))).mono ?_;rintro e wb ⟨⟨oB,rfl,cA⟩,rfl⟩;rw[zF1]at cA;obtain rfl:oB=true:=cA.2 dC.out;clear cA
        (try go_wp2_with fail)
        refine hK.out _ _ (by(try dsimp only);go_keep) ?_;clear hK K hHeld;intro hHeld
        try simp only[Act.put,s1,s2,s3]
        refine tk 15 (h:=?_);refine wpAnyH_done (by kernel_rfl) ?_ _;have pA:=zA dA aA;go_wp2;go_ret;refine⟨zG.no fun h=>?_,pA⟩;have hd:=zJt HN.out (h.resolve_left HN.out).2.2 rA (Nat.zero_le _) jA.out;exact(zDm.1 (show(zAO p k (p.s k) j ++ [zb (p.s k) j]).Nodup from hd)).2 dC.out
       ·have dC:=zE nC;clear nC;go_wp2_with fail;refine wp_region_held_drew (S:=(fun w'=>w'.cell? ⟨w.heap.size,0,none⟩=some (.slice (some ⟨b,off,none⟩) p.n c)/\w'.cell? ⟨w.heap.size,1,none⟩=some (.slice a' p.hn c')/\w'.cell? ⟨tb,aC+j*2,none⟩=some (.int .i64 (zb (p.s k) j))/\w'.cell? ⟨tb,aC+j*2+1,none⟩=some (.int .i64 (zt (p.s k) j)))) (by kernel_rfl) ?_ (fun hHeld=>?_)
        ·(try dsimp only)
         go_keep
        refine tk 0 (h:=tk 1 (h:=tk 2 (h:=tk 3 (h:=tk 4 (h:=?_)))));refine rd [5] (rc (fun K hK=>?_) .nil);go_simp;go_at_call 139;refine(zC7 _ _ lo hi p (zb (p.s k) j) (zt (p.s k) j) _ ?_).mono ?_
        ·first | exact Hp.out.zRX dA | exact Hp.out.zRX dA.drew
        rintro e wa ⟨⟨ta,rfl,gA⟩,eA⟩;obtain rfl:ta=true:=gA.2 fB.out;clear gA;have aA:Below W.heap.size W wa:=(by first | exact eA | exact zK eA);obtain⟨⟨k0,_⟩,⟨k1,_⟩⟩:=kA.out.zRX aA;have k2:=(aA.cell (zD q0)).trans q0;have k3:=(aA.cell (zD q1)).trans q1
        (try go_wp2_with fail)
        refine hK.out _ _ (by(try dsimp only);go_keep) ?_;clear hK K hHeld;intro hHeld
        try simp only[Act.put,s1,s2,s3]
        refine tk 6 (h:=tk 7 (h:=tk 8 (h:=tk 9 (h:=tk 10 (h:=tk 11 (h:=tk 12 (h:=tk 13 (h:=?_))))))));refine rd [14] (rc (fun K hK=>?_) .nil);go_simp;go_at_call 75;refine(zAV _ _ 0 _ _ (zb (p.s k) j) _ (zF3 fA.out (vA.out.kept (yt aA none) (by rcases Value.ownBlock _<;>simp)))).mono ?_;rintro e wb ⟨⟨oB,rfl,cA⟩,rfl⟩;rw[zF1]at cA;obtain rfl:oB=false:=zQ cA dC.out;clear cA
        (try go_wp2_with fail)
        refine hK.out _ _ (by(try dsimp only);go_keep) ?_;clear hK K hHeld;intro hHeld
        try simp only[Act.put,s1,s2,s3]
        refine tk 15 (h:=?_);refine wpAnyH_done (by kernel_rfl) ?_ _;have pA:=zA dA aA;have fF:w.heap.size+2<=wb.heap.size:=(by have:=aA.size;omega);obtain⟨m,hm⟩:=Int.eq_ofNat_of_zero_le fB.out.1.2.1;have dF:m<p.n:=(by have:=fB.out.1.2.2.1;omega);have bF:(m:Int)<(p.n:Int):=(by omega);have oC:(zb (p.s k) j).toNat=m:=(by rw[hm];rfl);have gE:=zE (qS HR.out fB.out.1);rw[oC]at gE;have sD:(p.s m).kn=8:=by
         have h0:=fB.out.2.1;rw[oC]at h0;rcases zEy gE.out with h | h
         ·omega
         ·exact h
        have tD:=zE sD;obtain⟨_,_,ua,uc,ha,fD⟩:=Hp.out.1.cells dF;simp only[Option.some.injEq,Addr.mk.injEq,and_true]at ha;obtain⟨rfl,rfl⟩:=ha;have aF:Hid (zU w lo hi (.slice ua 8 uc) 8 (p.s m).ks (p.s m).kb):=(by have:=fD.slot.2.1;rw[sD]at this;exact this);have vE:=zE fD;have Hm:=zE hm;have vB:=zE oC;have iA:=zC wb (.cells #[.int .i64 (zb (p.s k) j)] 2);have kB:=zE ((vA.out.zRX aA).zRX iA);have aD:=zE ((kA.out.zRX aA).zRX iA);have bC:=zA pA iA;have tE:(wb.alloc (.cells #[.int .i64 (zb (p.s k) j)] 2)).heap.size=wb.heap.size+1:=World.size_alloc _ _;have sC:=zE (World.news_of_block (heap_alloc_last wb (.cells #[.int .i64 (zb (p.s k) j)] 2)));have kF:(m0:Int)<9:=(by omega);clear fD sD hm oC iA vA kA dA aA q0 q1 k0 k1 k3 x0 x1 x2 x3;go_wp2_with (first
         | (at_builtin;refine wpList_append_lies _ rfl _ _ 23 rfl (w.heap.size+2) 2 i0 (.int .i64 0) 1 8 (by kernel_rfl) HI.out.1 HI.out.2.1 HI.out.2.2.1 HI.out.2.2.2 rfl (by decide) (.slice sa (zAO p k (p.s k) j).length sc) (zAO p k (p.s k) j).length (icl (zAO p k (p.s k) j)) rfl kB.out ⟨wb.heap.size,0,none⟩ 1 1 [.int .i64 (zb (p.s k) j)] rfl rfl sC.out (by simp[Value.oneCell']) (by decide) (by unfold maxLen;omega) (by omega) (by omega) _ rfl ?_;intro g4 iB w4 lA bA jC mC)
         | fail)
        have fE:Hid (zFl w4 (w.heap.size+2) (.slice (some ⟨g4,0,none⟩) ((zAO p k (p.s k) j).length+1) iB) (zBP p k (p.s k) j 0)):=by
         rw[zGQ];exact zFl.next lA
        have rC:Below w.heap.size w w4:=bC.grown bA bC.size (fun q hq=>by have:=kB.out.lt hq;omega);have cD:=zE (aD.out.grownT bA (fun q hq=>by have:=kB.out.lt hq;omega));have oE:w.heap.size+2<=w4.heap.size:=(by have:=bA.size;omega);have iE:(zBP p k (p.s k) j 0).Nodup:=(by rw[zGQ];exact zDm.2 ⟨nB.out,dC.out⟩);have dE:=zE iE;clear lA bA jC mC kB aD bC pA sC iE k2;obtain⟨_,_,ha,q0,q1⟩:=(mE.out.zRX rC).cellsT rA;simp only[Option.some.injEq,Addr.mk.injEq,and_true]at ha;obtain⟨rfl,rfl⟩:=ha;rw[<-zC6 H8.out rA,Hm.out]at q0;obtain⟨r0,r1,r2,_⟩:=vE.out.zRX rC;rw[tD.out]at r1;obtain⟨⟨x0,x1⟩,⟨x2,x3⟩⟩:=cD.out
        go_quiet (fail)
        go_wp2
        go_loopw [5,9,11] (fun sv nv i wr=>∃(i' m1:Nat) (sa:Option Addr) (sc:Nat),i'<=8/\i = .int .i64 i'/\nv = .int .i64 m1/\m1<=i'/\(0<m1↔∃i,i<i'/\¬Nil (zb (p.s m) i) (zt (p.s m) i))/\sv = .slice sa (zBP p k (p.s k) j i').length sc/\zFl wr (w.heap.size+2) sv (zBP p k (p.s k) j i')/\(∀i,i<i'->Nil (zb (p.s m) i) (zt (p.s m) i)\/zBo p (zb (p.s m) i) (zt (p.s m) i))/\(zBP p k (p.s k) j i').Nodup/\zc wr w.heap.size (.slice (some ⟨b,off,none⟩) p.n c) (.slice a' p.hn c')/\Below w.heap.size w wr/\w.heap.size+2<=wr.heap.size) (fun _ _ i _=>8 - (intOf i).toNat)
        case atStart=>exact⟨0,0,some ⟨g4,0,none⟩,iB,Nat.zero_le _,rfl,rfl,Nat.le_refl _,⟨fun h=>absurd h (Nat.lt_irrefl _),fun ⟨i,hi,_⟩=>absurd hi (Nat.not_lt_zero _)⟩,by rw[zGQ,List.length_append];rfl,fE.out.zRX (zg (Below.refl _ _) _),fun i hi=>absurd hi (Nat.not_lt_zero _),dE.out,cD.out.zRX (zg (Below.refl _ _) _),zg rC _,oE⟩
        case round=>
         obtain⟨i,m1,sa,sc,iF,rfl,rfl,lF,lB,rfl,cB,bE,eB,tA,gB,pC⟩:=hrel;have dB:=zE lB;have mA:=zE cB;have rD:=zE bE;have sA:=zE eB;have nA:=zE tA;have aE:=zQP p k (p.s k) (show j<=8 by omega) iF;clear lB cB bE eB tA fE cD rC dE x0 x1 x2 x3 q0 q1 r0 r1 r2 oE;by_cases tB:i<8
         ·have eF:(i:Int)<8:=(by omega);obtain⟨ub,rB,rfl,q0,q1⟩:=(aF.out.zRX gB).cellsT tB;rw[<-zC6 tD.out tB]at q0;rw[<-zEt tD.out tB]at q1;go_wp2_with fail;refine(yx (zb (p.s m) i) (zt (p.s m) i) wr).mono ?_;rintro e W ⟨⟨t,rfl,ht⟩,hb⟩;have dA:=zA gB hb;have kA:=zE (nA.out.zRX hb);have vA:=zE (mA.out.zRX hb);have vD:w.heap.size+2<=W.heap.size:=(by have:=hb.size;omega);have gC:=(hb.cell (zD q0)).trans q0;have fC:=(hb.cell (zD q1)).trans q1;clear q0 q1 gB hb mA nA pC;have q0:=gC;have q1:=fC;clear gC fC;by_cases oA:Nil (zb (p.s m) i) (zt (p.s m) i)
          ·have mB:=zE oA;obtain rfl:t=true:=ht.2 oA;clear ht oA;have es:zBP p k (p.s k) j (i+1)=zBP p k (p.s k) j i:=zPS (by rw[vB.out];exact mB.out);go_wp2;go_roundw
           case rel=>
            refine⟨i+1,m1,sa,sc,by omega,by go_num,rfl,by omega,?_,by rw[es],by rw[es];exact vA.out,zo tB rD.out (Or.inl mB.out),by rw[es];exact sA.out,kA.out,dA,vD⟩;exact dB.out.trans ⟨fun ⟨i,hi,h⟩=>⟨i,by omega,h⟩,fun ⟨i',hi,h⟩=>by
             by_cases e:i'=i
             ·subst e;exact absurd mB.out h
             ·exact⟨i',by omega,h⟩⟩
           case measure=>simp[intOf];omega
          ·have mB:=zE oA;obtain rfl:t=false:=zQ ht oA;clear ht oA;have fA:=zE (show(zBP p k (p.s k) j i).length<=maxLen by unfold maxLen;omega);obtain⟨⟨x0,x1⟩,⟨x2,x3⟩⟩:=kA.out;have es:zBP p k (p.s k) j (i+1)=zBP p k (p.s k) j i ++ [zb (p.s m) i]:=(by have:=zPY (p:=p) (rs:=(k:Int)) (s:=p.s k) (j:=j) (i:=i) (by rw[vB.out];exact mB.out);rw[vB.out]at this;exact this);have bD:=zE es;clear es;by_cases hP:zBo p (zb (p.s m) i) (zt (p.s m) i)
           ·have sB:=zE hP;clear hP;by_cases jB:zb (p.s m) i∈zBP p k (p.s k) j i
            ·have bB:=zE jB;clear jB;go_wp2_with fail;refine wp_region_held_drew (S:=(fun w'=>w'.cell? ⟨w.heap.size,0,none⟩=some (.slice (some ⟨b,off,none⟩) p.n c)/\w'.cell? ⟨w.heap.size,1,none⟩=some (.slice a' p.hn c')/\w'.cell? ⟨ub,rB+i*2,none⟩=some (.int .i64 (zb (p.s m) i))/\w'.cell? ⟨ub,rB+i*2+1,none⟩=some (.int .i64 (zt (p.s m) i)))) (by kernel_rfl) ?_ (fun hHeld=>?_)
             ·(try dsimp only)
              go_keep
             refine tk 0 (h:=tk 1 (h:=tk 2 (h:=tk 3 (h:=tk 4 (h:=?_)))));refine rd [5] (rc (fun K hK=>?_) .nil);go_simp;go_at_call 140;refine(zEc _ _ lo hi p (zb (p.s m) i) (zt (p.s m) i) _ ?_).mono ?_
             ·first | exact Hp.out.zRX dA | exact Hp.out.zRX dA.drew
             rintro e wa ⟨⟨ta,rfl,gA⟩,eA⟩;obtain rfl:ta=true:=gA.2 sB.out;clear gA;have aA:Below W.heap.size W wa:=(by first | exact eA | exact zK eA);obtain⟨⟨k0,_⟩,⟨k1,_⟩⟩:=kA.out.zRX aA;have k2:=(aA.cell (zD q0)).trans q0;have k3:=(aA.cell (zD q1)).trans q1
             (try go_wp2_with fail)
             refine hK.out _ _ (by(try dsimp only);go_keep) ?_;clear hK K hHeld;intro hHeld
             try simp only[Act.put,s1,s2,s3]
             refine tk 6 (h:=tk 7 (h:=tk 8 (h:=tk 9 (h:=tk 10 (h:=tk 11 (h:=tk 12 (h:=tk 13 (h:=?_))))))));refine rd [14] (rc (fun K hK=>?_) .nil);go_simp;go_at_call 75;refine(zAV _ _ 0 _ _ (zb (p.s m) i) _ (zF3 fA.out (vA.out.kept (yt aA none) (by rcases Value.ownBlock _<;>simp)))).mono ?_;rintro e wb ⟨⟨oB,rfl,cA⟩,rfl⟩;rw[zF1]at cA;obtain rfl:oB=true:=cA.2 bB.out;clear cA
             (try go_wp2_with fail)
             refine hK.out _ _ (by(try dsimp only);go_keep) ?_;clear hK K hHeld;intro hHeld
             try simp only[Act.put,s1,s2,s3]
             refine tk 15 (h:=?_);refine wpAnyH_done (by kernel_rfl) ?_ _;have pA:=zA dA aA;go_wp2;go_ret;refine⟨zG.no fun h=>?_,pA⟩;have hd:=zJt HN.out (h.resolve_left HN.out).2.2 rA (show i+1<=8 by omega) jA.out;have lE:(zBP p k (p.s k) j (i+1)).Nodup:=hd;rw[bD.out]at lE;exact(zDm.1 lE).2 bB.out
            ·have bB:=zE jB;clear jB;go_wp2_with fail;refine wp_region_held_drew (S:=(fun w'=>w'.cell? ⟨w.heap.size,0,none⟩=some (.slice (some ⟨b,off,none⟩) p.n c)/\w'.cell? ⟨w.heap.size,1,none⟩=some (.slice a' p.hn c')/\w'.cell? ⟨ub,rB+i*2,none⟩=some (.int .i64 (zb (p.s m) i))/\w'.cell? ⟨ub,rB+i*2+1,none⟩=some (.int .i64 (zt (p.s m) i)))) (by kernel_rfl) ?_ (fun hHeld=>?_)
             ·(try dsimp only)
              go_keep
             refine tk 0 (h:=tk 1 (h:=tk 2 (h:=tk 3 (h:=tk 4 (h:=?_)))));refine rd [5] (rc (fun K hK=>?_) .nil);go_simp;go_at_call 140;refine(zEc _ _ lo hi p (zb (p.s m) i) (zt (p.s m) i) _ ?_).mono ?_
             ·first | exact Hp.out.zRX dA | exact Hp.out.zRX dA.drew
             rintro e wa ⟨⟨ta,rfl,gA⟩,eA⟩;obtain rfl:ta=true:=gA.2 sB.out;clear gA;have aA:Below W.heap.size W wa:=(by first | exact eA | exact zK eA);obtain⟨⟨k0,_⟩,⟨k1,_⟩⟩:=kA.out.zRX aA;have k2:=(aA.cell (zD q0)).trans q0;have k3:=(aA.cell (zD q1)).trans q1
             (try go_wp2_with fail)
             refine hK.out _ _ (by(try dsimp only);go_keep) ?_;clear hK K hHeld;intro hHeld
             try simp only[Act.put,s1,s2,s3]
             refine tk 6 (h:=tk 7 (h:=tk 8 (h:=tk 9 (h:=tk 10 (h:=tk 11 (h:=tk 12 (h:=tk 13 (h:=?_))))))));refine rd [14] (rc (fun K hK=>?_) .nil);go_simp;go_at_call 75;refine(zAV _ _ 0 _ _ (zb (p.s m) i) _ (zF3 fA.out (vA.out.kept (yt aA none) (by rcases Value.ownBlock _<;>simp)))).mono ?_;rintro e wb ⟨⟨oB,rfl,cA⟩,rfl⟩;rw[zF1]at cA;obtain rfl:oB=false:=zQ cA bB.out;clear cA
             (try go_wp2_with fail)
             refine hK.out _ _ (by(try dsimp only);go_keep) ?_;clear hK K hHeld;intro hHeld
             try simp only[Act.put,s1,s2,s3]
             refine tk 15 (h:=?_);refine wpAnyH_done (by kernel_rfl) ?_ _;have pA:=zA dA aA;have fF:w.heap.size+2<=wb.heap.size:=(by have:=aA.size;omega);have iA:=zC wb (.cells #[.int .i64 (zb (p.s m) i)] 2);have kB:=zE ((vA.out.zRX aA).zRX iA);have aD:=zE ((kA.out.zRX aA).zRX iA);have bC:=zA pA iA;have tE:(wb.alloc (.cells #[.int .i64 (zb (p.s m) i)] 2)).heap.size=wb.heap.size+1:=World.size_alloc _ _;have sC:=zE (World.news_of_block (heap_alloc_last wb (.cells #[.int .i64 (zb (p.s m) i)] 2)));have jF:(m1:Int)<9:=(by omega);clear iA vA kA dA aA q0 q1 k0 k1 k3 x0 x1 x2 x3;go_wp2_with (first
              | (at_builtin;refine wpList_append_lies _ rfl _ _ 23 rfl (w.heap.size+2) 2 i0 (.int .i64 0) 1 8 (by kernel_rfl) HI.out.1 HI.out.2.1 HI.out.2.2.1 HI.out.2.2.2 rfl (by decide) (.slice sa (zBP p k (p.s k) j i).length sc) (zBP p k (p.s k) j i).length (icl (zBP p k (p.s k) j i)) rfl kB.out ⟨wb.heap.size,0,none⟩ 1 1 [.int .i64 (zb (p.s m) i)] rfl rfl sC.out (by simp[Value.oneCell']) (by decide) (by unfold maxLen;omega) (by omega) (by omega) _ rfl ?_;intro g4 iB w4 lA bA jC mC)
              | go_in)
             go_roundw
             case rel=>
              refine⟨i+1,m1+1,some ⟨g4,0,none⟩,iB,by omega,by go_num,by go_num,by omega,⟨fun _=>⟨i,by omega,mB.out⟩,fun _=>by omega⟩,by rw[bD.out,List.length_append];rfl,by rw[bD.out];exact zFl.next lA,zo tB rD.out (Or.inr sB.out),by rw[bD.out];exact zDm.2 ⟨sA.out,bB.out⟩,aD.out.grownT bA (fun q hq=>by have:=kB.out.lt hq;omega),bC.grown bA bC.size (fun q hq=>by have:=kB.out.lt hq;omega),by have:=bA.size;omega⟩
             case measure=>simp[intOf];omega
           ·have sB:=zE hP;clear hP;go_wp2_with fail;refine wp_region_held_drew (S:=(fun w'=>w'.cell? ⟨w.heap.size,0,none⟩=some (.slice (some ⟨b,off,none⟩) p.n c)/\w'.cell? ⟨w.heap.size,1,none⟩=some (.slice a' p.hn c')/\w'.cell? ⟨ub,rB+i*2,none⟩=some (.int .i64 (zb (p.s m) i))/\w'.cell? ⟨ub,rB+i*2+1,none⟩=some (.int .i64 (zt (p.s m) i)))) (by kernel_rfl) ?_ (fun hHeld=>?_)
            ·(try dsimp only)
             go_keep
            refine tk 0 (h:=tk 1 (h:=tk 2 (h:=tk 3 (h:=tk 4 (h:=?_)))));refine rd [5] (rc (fun K hK=>?_) .nil);go_simp;go_at_call 140;refine(zEc _ _ lo hi p (zb (p.s m) i) (zt (p.s m) i) _ ?_).mono ?_
            ·first | exact Hp.out.zRX dA | exact Hp.out.zRX dA.drew
            rintro e wa ⟨⟨ta,rfl,gA⟩,eA⟩;obtain rfl:ta=false:=zQ gA sB.out;clear gA;have aA:Below W.heap.size W wa:=(by first | exact eA | exact zK eA);obtain⟨⟨k0,_⟩,⟨k1,_⟩⟩:=kA.out.zRX aA;have k2:=(aA.cell (zD q0)).trans q0;have k3:=(aA.cell (zD q1)).trans q1
            (try go_wp2_with fail)
            refine hK.out _ _ (by(try dsimp only);go_keep) ?_;clear hK K hHeld;intro hHeld
            try simp only[Act.put,s1,s2,s3]
            refine tk 6 (h:=tk 7 (h:=ts 8 (h:=ts 9 (h:=ts 10 (h:=ts 11 (h:=ts 12 (h:=ts 13 (h:=?_))))))));refine rd [14] (rc (fun K hK=>?_) .nil);split
            ·rename_i jD
             exact absurd (show false=true from jD) Bool.false_ne_true
            refine hK.out _ _ (by assumption) (fun hHeld=>?_);clear hK K
            try simp only[Act.put,s1,s2,s3]
            refine tk 15 (h:=?_);refine wpAnyH_done (by kernel_rfl) ?_ _;have pA:=zA dA aA;go_wp2;go_ret;refine⟨zG.no fun h=>?_,pA⟩;rcases(h.resolve_left HN.out).2.1.1 j rA with h | h
            ·exact jA.out h
            ·have h2:Nil (zb (p.s (zb (p.s k) j).toNat) i) (zt (p.s (zb (p.s k) j).toNat) i)\/zBo p (zb (p.s (zb (p.s k) j).toNat) i) (zt (p.s (zb (p.s k) j).toNat) i):=h.2.1 i tB;rw[vB.out]at h2;rcases h2 with h2 | h2
             ·exact mB.out h2
             ·exact sB.out h2
         ·obtain rfl:i=8:=(by omega);by_cases nE:m1=0
          ·subst nE;have e0:((0:Nat):Int)=0:=rfl;go_wp2;go_ret;refine⟨zG.no fun h=>?_,gB⟩;rcases(h.resolve_left HN.out).2.1.1 j rA with h | h
           ·exact jA.out h
           ·have h2:∃i,i<8/\¬Nil (zb (p.s (zb (p.s k) j).toNat) i) (zt (p.s (zb (p.s k) j).toNat) i):=h.2.2;rw[vB.out]at h2;have:=dB.out.2 h2;omega
          ·have e0:((m1:Int) == 0)=false:=(by simp;omega);have rE:=zE (show 0<m1 by omega);have iD:Hid (zP0 p (p.s (zb (p.s k) j).toNat)):=(by rw[vB.out];exact⟨rD.out,dB.out.1 rE.out⟩);clear nE;go_wp2;go_roundw
           case rel=>
            refine⟨j+1,m0+1,sa,sc,by omega,by go_num,by go_num,by omega,⟨fun _=>⟨j,by omega,jA.out⟩,fun _=>by omega⟩,by rw[zE0 jA.out],by rw[zE0 jA.out];exact mA.out,zo rA pB.out (Or.inr ⟨fB.out,iD.out⟩),by rw[zE0 jA.out];exact sA.out,nA.out,gB,pC⟩
           case measure=>simp[intOf];omega
      ·have fB:=zE vC;clear vC;go_wp2_with fail;refine wp_region_held_drew (S:=(fun w'=>w'.cell? ⟨w.heap.size,0,none⟩=some (.slice (some ⟨b,off,none⟩) p.n c)/\w'.cell? ⟨w.heap.size,1,none⟩=some (.slice a' p.hn c')/\w'.cell? ⟨tb,aC+j*2,none⟩=some (.int .i64 (zb (p.s k) j))/\w'.cell? ⟨tb,aC+j*2+1,none⟩=some (.int .i64 (zt (p.s k) j)))) (by kernel_rfl) ?_ (fun hHeld=>?_)
       ·(try dsimp only)
        go_keep
       refine tk 0 (h:=tk 1 (h:=tk 2 (h:=tk 3 (h:=tk 4 (h:=?_)))));refine rd [5] (rc (fun K hK=>?_) .nil);go_simp;go_at_call 139;refine(zC7 _ _ lo hi p (zb (p.s k) j) (zt (p.s k) j) _ ?_).mono ?_
       ·first | exact Hp.out.zRX dA | exact Hp.out.zRX dA.drew
       rintro e wa ⟨⟨ta,rfl,gA⟩,eA⟩;obtain rfl:ta=false:=zQ gA fB.out;clear gA;have aA:Below W.heap.size W wa:=(by first | exact eA | exact zK eA);obtain⟨⟨k0,_⟩,⟨k1,_⟩⟩:=kA.out.zRX aA;have k2:=(aA.cell (zD q0)).trans q0;have k3:=(aA.cell (zD q1)).trans q1
       (try go_wp2_with fail)
       refine hK.out _ _ (by(try dsimp only);go_keep) ?_;clear hK K hHeld;intro hHeld
       try simp only[Act.put,s1,s2,s3]
       refine tk 6 (h:=tk 7 (h:=ts 8 (h:=ts 9 (h:=ts 10 (h:=ts 11 (h:=ts 12 (h:=ts 13 (h:=?_))))))));refine rd [14] (rc (fun K hK=>?_) .nil);split
       ·rename_i jD
        exact absurd (show false=true from jD) Bool.false_ne_true
       refine hK.out _ _ (by assumption) (fun hHeld=>?_);clear hK K
       try simp only[Act.put,s1,s2,s3]
       refine tk 15 (h:=?_);refine wpAnyH_done (by kernel_rfl) ?_ _;have pA:=zA dA aA;go_wp2;go_ret;refine⟨zG.no fun h=>?_,pA⟩;rcases(h.resolve_left HN.out).2.1.1 j rA with h | h
       ·exact jA.out h
       ·exact fB.out h.1
    ·obtain rfl:j=8:=(by omega);go_wp2;go_ret;refine⟨⟨_,rfl,?_⟩,gB⟩;have hc:=kC.out;constructor
     ·intro h;refine Or.inr ⟨mD.out,⟨pB.out,hc.1 (by simpa using h)⟩,?_⟩;rw[zIf HN.out];exact nB.out
     ·intro h;have:=hc.2 (h.resolve_left HN.out).2.1.2;simpa using this
  ·have mD:=zE aB;obtain rfl:t=false:=zQ ht aB;clear ht aB;go_wp2;go_ret;exact⟨zG.no fun h=>(h.resolve_left HN.out).1 |> mD.out,lD⟩
def zED(p:zI)(rs rb:Int)(s:zL)(j:Nat):List (Int×Int):=(rs,rb) :: zAy p s j
def zDI(p:zI)(rs rb:Int)(s:zL)(j i:Nat):List (Int×Int):=zED p rs rb s j ++ ((zb s j,zt s j) :: kidsUp (zb (p.s (zb s j).toNat)) (zt (p.s (zb s j).toNat)) i)
theorem zPc{p:zI}{rs rb:Int}(hz:¬Nil rs rb):zR p rs rb=zED p rs rb (p.s rs.toNat) 8:=if_neg hz
theorem zLm{p:zI}{rs rb:Int}{s:zL}{j:Nat}(hn:¬Nil (zb s j) (zt s j)):zED p rs rb s (j+1)=zDI p rs rb s j 8:=by
 unfold zED zDI zED;rw[zAy,zL4 hn];rfl
theorem zLD{p:zI}{rs rb:Int}{s:zL}{j:Nat}(hn:Nil (zb s j) (zt s j)):zED p rs rb s (j+1)=zED p rs rb s j:=by
 unfold zED;rw[zAy,show zE7 p (zb s j) (zt s j) = [] from if_pos hn,List.append_nil]
theorem zHh(p:zI)(rs rb:Int)(s:zL)(j:Nat):zDI p rs rb s j 0=zED p rs rb s j ++ [(zb s j,zt s j)]:=rfl
theorem zOe{p:zI}{rs rb:Int}{s:zL}{j i:Nat}(hn:Nil (zb (p.s (zb s j).toNat) i) (zt (p.s (zb s j).toNat) i)):zDI p rs rb s j (i+1)=zDI p rs rb s j i:=by
 unfold zDI;rw[kidsUp,show one (zb (p.s (zb s j).toNat) i) (zt (p.s (zb s j).toNat) i) = [] from if_pos hn,List.append_nil]
theorem zN7{p:zI}{rs rb:Int}{s:zL}{j i:Nat}(hn:¬Nil (zb (p.s (zb s j).toNat) i) (zt (p.s (zb s j).toNat) i)):zDI p rs rb s j (i+1)=zDI p rs rb s j i ++ [(zb (p.s (zb s j).toNat) i,zt (p.s (zb s j).toNat) i)]:=by
 unfold zDI;rw[kidsUp,show one (zb (p.s (zb s j).toNat) i) (zt (p.s (zb s j).toNat) i) = [(zb (p.s (zb s j).toNat) i,zt (p.s (zb s j).toNat) i)] from if_neg hn,List.append_assoc];rfl
theorem zNt(p:zI)(rs rb:Int)(s:zL){j:Nat}(hj:j<=8):(zED p rs rb s j).length<=73:=by
 have:=zEo p s j;simp only[zED,List.length_cons];omega
theorem zPi(p:zI)(rs rb:Int)(s:zL){j i:Nat}(hj:j<=8)(hi:i<=8):(zDI p rs rb s j i).length<=90:=by
 have h1:=zNt p rs rb s hj;have h2:=zBE (zb (p.s (zb s j).toNat)) (zt (p.s (zb s j).toNat)) i;simp only[zDI,List.length_append,List.length_cons];omega
theorem zw.next{w2:World}{base g aA:Nat}{l:List (Int×Int)}{x y:Int}(h:w2.ownsRow base 61 2 (.slice (some ⟨g,0,none⟩) (l.length+1) aA) (l.length+1) (pcl l ++ [.int .i64 x,.int .i64 y])):zw w2 base (.slice (some ⟨g,0,none⟩) (l.length+1) aA) (l ++ [(x,y)]):=by
 unfold zw;rw[zA9,List.length_append];exact h
theorem yZ(v0 v1:Value)(lo hi:Nat)(p:zI)(xs xb:Int)(w:World)(h1:zu w lo hi v0 v1 p)(hR:zx p)(hT:qG p xs xb) :
  Calls Tryz.prog 141 #[.agg #[v0,v1],.agg #[.int .i64 xs,.int .i64 xb]] w fun e w'=>∃v,e = .returned v/\zw w' w.heap.size v (zR p xs xb)/\Below w.heap.size w w':=by
 have Hp:=zE h1;have HR:=zE hR;have HT:=zE hT;obtain⟨a,c,a',c',rfl,rfl⟩:∃a c a' c',v0 = .slice a p.n c/\v1 = .slice a' p.hn c':=by
  obtain⟨⟨_,a,c,h1,_⟩,⟨_,a',c',h3,_⟩⟩:=h1;exact⟨a,c,a',c',h1,h3⟩
 clear h1 hR hT;have jB:=zB6 w (.slice a p.n c) (.slice a' p.hn c') (.int .i64 xs) (.int .i64 xb) 33 61;obtain⟨i0,bD,jC⟩:=Option.map_eq_some_iff.1 zA3;simp only[Prod.mk.injEq]at jC;have HI:=zE (And.intro bD jC);clear bD jC;go_enter Tryz.func141,Tryz.ntmps141;have mA:=World.ownsRow_lit (e:=61) (size:=2) (base:=w.heap.size+2) ((w.alloc (.cells #[.slice a p.n c,.slice a' p.hn c'] 33)).alloc (.cells #[.int .i64 xs,.int .i64 xb] 61)) #[] 0 (by rw[jB.2.2.2];omega) (by unfold maxLen;omega) rfl;rw[jB.2.2.2]at mA;have gD:=jB.2.1.zRX (zC _ (.cells #[] 61));obtain⟨⟨y0,y1⟩,⟨y2,y3⟩⟩:=gD;go_wp2_with fail;clear y0 y1 y2 y3;generalize (w.alloc (.cells #[.slice a p.n c,.slice a' p.hn c'] 33)).alloc (.cells #[.int .i64 xs,.int .i64 xb] 61)=W at jB mA ⊢;obtain⟨hB,hX,sC,hz⟩:=jB;have cA:=zC W (.cells #[] 61);have eC:=zE (show zw (W.alloc (.cells #[] 61)) (w.heap.size+2) (.slice (some ⟨w.heap.size+2,0,none⟩) 0 0) [] from mA);have gC:=hB.zRX cA;have kC:=hX.zRX cA;have cC:=zA sC cA;have vC:(W.alloc (.cells #[] 61)).heap.size=w.heap.size+3:=by rw[World.size_alloc,hz]
 clear mA hB hX sC cA;generalize W.alloc (.cells #[] 61)=W0 at eC gC kC cC vC ⊢;refine(yx xs xb W0).mono ?_;rintro e w1 ⟨⟨t,rfl,ht⟩,dB⟩;have oC:=zE (gC.zRX dB);have rB:=zE (kC.zRX dB);have sB:=zE (eC.out.zRX dB);have tB:=zA cC dB;have iD:w.heap.size+3<=w1.heap.size:=by have:=dB.size;omega
 clear gC kC cC dB eC vC hz;by_cases hn:Nil xs xb
 ·have HN:=zE hn;obtain rfl:t=true:=ht.2 hn;clear ht hn;go_wp2;go_ret;refine⟨_,rfl,?_,tB⟩;rw[show zR p xs xb = [] from if_pos HN.out];exact sB.out.mono (by omega)
 ·have HN:=zE hn;obtain rfl:t=false:=zQ ht hn;clear ht hn;have kB:zAi p xs xb:=(HT.out.resolve_left HN.out).1;have lB:=zE (HT.out.resolve_left HN.out).2.1.1;have h8:(p.s xs.toNat).kn=8:=by rcases zDR HR.out kB.1 with h | h;(have:=kB.2.1;omega);exact h
  obtain⟨k,rfl⟩:=Int.eq_ofNat_of_zero_le kB.1.2.1;have hk:k<p.n:=(by have:=kB.1.2.2.1;omega);have sD:(k:Int)<(p.n:Int):=(by omega);rw[Int.toNat_natCast]at h8 lB;have H8:=zE h8;clear kB;obtain⟨b,off,ka,kc,rfl,bC⟩:=Hp.out.1.cells hk;have tC:Hid (zU w lo hi (.slice ka 8 kc) 8 (p.s k).ks (p.s k).kb):=(by have:=bC.slot.2.1;rw[h8]at this;exact this);have vB:=zE bC;clear bC h8;obtain⟨⟨x0,x1⟩,⟨x2,x3⟩⟩:=oC.out;obtain⟨⟨y0,y1⟩,⟨y2,y3⟩⟩:=rB.out;have cA:=zC w1 (.cells #[.int .i64 (k:Int),.int .i64 xb] 61);have fA:=zE (sB.out.zRX cA);have cB:=zE (oC.out.zRX cA);have cD:=zE (rB.out.zRX cA);have lA:=zA tB cA;have oB:(w1.alloc (.cells #[.int .i64 (k:Int),.int .i64 xb] 61)).heap.size=w1.heap.size+1:=World.size_alloc _ _;have tA:=zE (World.news_of_block (heap_alloc_last w1 (.cells #[.int .i64 (k:Int),.int .i64 xb] 61)));clear cA sB oC rB tB;go_wp2_with (first
   | (at_builtin;refine wpList_append_lies _ rfl _ _ 62 rfl (w.heap.size+2) 61 i0 (.agg #[.int .i64 0,.int .i64 0]) 2 16 (by kernel_rfl) HI.out.1 HI.out.2.1 HI.out.2.2.1 HI.out.2.2.2 rfl (by decide) (.slice (some ⟨w.heap.size+2,0,none⟩) 0 0) 0 [] rfl fA.out ⟨w1.heap.size,0,none⟩ 1 1 [.int .i64 (k:Int),.int .i64 xb] rfl rfl tA.out (by simp[Value.oneCell']) (by decide) (by unfold maxLen;omega) (by omega) (by omega) _ rfl ?_;intro g4 eA w4 bA aA nA pA;have rA:Below w.heap.size w w4:=lA.grown aA lA.size (fun q hq=>(by have:=(fA.out.lt hq).1;omega));have sA:=zE (cB.out.grownT aA (fun q hq=>by have:=(fA.out.lt hq).1;omega));have aD:=zE (cD.out.grownT aA (fun q hq=>by have:=(fA.out.lt hq).1;omega));have z0:=sA.out.1.1;have z1:=aD.out.1.1;have z2:=(vB.out.zRX rA).c1;rw[H8.out]at z2)
   | go_in)
  have gB:=zE (show zw w4 (w.heap.size+2) (.slice (some ⟨g4,0,none⟩) 1 eA) (zED p k xb (p.s k) 0)from bA);have nB:w.heap.size+2<=w4.heap.size:=(by have:=aA.size;omega);clear bA aA nA pA fA cB cD lA tA oB iD
  go_loopw [5,7] (fun sv i wr=>∃(j:Nat) (sa:Option Addr) (sc:Nat),j<=8/\i = .int .i64 j/\sv = .slice sa (zED p k xb (p.s k) j).length sc/\zw wr (w.heap.size+2) sv (zED p k xb (p.s k) j)/\zc wr w.heap.size (.slice (some ⟨b,off,none⟩) p.n c) (.slice a' p.hn c')/\Below w.heap.size w wr/\w.heap.size+2<=wr.heap.size) (fun _ i _=>8 - (intOf i).toNat)
  case atStart=>exact⟨0,some ⟨g4,0,none⟩,eA,Nat.zero_le _,rfl,rfl,gB.out,sA.out,rA,nB⟩
  case round=>
   obtain⟨j,sa,sc,hj,rfl,rfl,kA,jA,oA,pB⟩:=hrel;have dA:=zE kA;have gA:=zE jA;have lD:=zNt p k xb (p.s k) hj;clear kA jA gB sA aD rA z0 z1 z2 x0 x1 x2 x3 y0 y1 y2 y3 nB;by_cases eB:j<8
   ·have kD:(j:Int)<8:=(by omega);obtain⟨tb,rD,rfl,q0,q1⟩:=(tC.out.zRX oA).cellsT eB;rw[<-zC6 H8.out eB]at q0;rw[<-zEt H8.out eB]at q1;go_wp2_with fail;refine(yx (zb (p.s k) j) (zt (p.s k) j) wr).mono ?_;rintro e W ⟨⟨t,rfl,ht⟩,hb⟩;have bB:=zA oA hb;have vA:=zE (gA.out.zRX hb);have aB:=zE (dA.out.zRX hb);have nC:w.heap.size+2<=W.heap.size:=(by have:=hb.size;omega);have dD:=(hb.cell (zD q0)).trans q0;have eD:=(hb.cell (zD q1)).trans q1;clear q0 q1 oA hb dA gA pB;by_cases iA:Nil (zb (p.s k) j) (zt (p.s k) j)
    ·have fB:=zE iA;obtain rfl:t=true:=ht.2 iA;clear ht iA;go_wp2;go_roundw
     case rel=>exact⟨j+1,sa,sc,by omega,by go_num,by rw[zLD fB.out],by rw[zLD fB.out];exact aB.out,vA.out,bB,nC⟩
     case measure=>simp[intOf];omega
    ·have fB:=zE iA;obtain rfl:t=false:=zQ ht iA;clear ht iA;have iB:zAi p (zb (p.s k) j) (zt (p.s k) j):=by
      rcases lB.out j eB with h | h
      ·exact absurd h fB.out
      ·exact h.1
     obtain⟨m,hm⟩:=Int.eq_ofNat_of_zero_le iB.1.2.1;have fD:m<p.n:=(by have:=iB.1.2.2.1;omega);have pD:(m:Int)<(p.n:Int):=(by omega);have aC:(zb (p.s k) j).toNat=m:=(by rw[hm];rfl);have dC:(p.s m).kn=8:=by
      have h0:=iB.2.1;have h1:=zDR HR.out iB.1;rw[aC]at h0 h1;rcases h1 with h | h
      ·omega
      ·exact h
     have lC:=zE dC;obtain⟨_,_,ua,uc,ha,fC⟩:=Hp.out.1.cells fD;simp only[Option.some.injEq,Addr.mk.injEq,and_true]at ha;obtain⟨rfl,rfl⟩:=ha;have oD:Hid (zU w lo hi (.slice ua 8 uc) 8 (p.s m).ks (p.s m).kb):=(by have:=fC.slot.2.1;rw[dC]at this;exact this);have mD:=zE fC;have Hm:=zE hm;have pC:=zE aC;have cA:=zC W (.cells #[.int .i64 (zb (p.s k) j),.int .i64 (zt (p.s k) j)] 61);have fA:=zE (aB.out.zRX cA);have cB:=zE (vA.out.zRX cA);have lA:=zA bB cA;have oB:(W.alloc (.cells #[.int .i64 (zb (p.s k) j),.int .i64 (zt (p.s k) j)] 61)).heap.size=W.heap.size+1:=World.size_alloc _ _;have tA:=zE (World.news_of_block (heap_alloc_last W (.cells #[.int .i64 (zb (p.s k) j),.int .i64 (zt (p.s k) j)] 61)));clear fC dC hm aC cA aB vA bB iB;go_wp2_with (first
      | (at_builtin;refine wpList_append_lies _ rfl _ _ 62 rfl (w.heap.size+2) 61 i0 (.agg #[.int .i64 0,.int .i64 0]) 2 16 (by kernel_rfl) HI.out.1 HI.out.2.1 HI.out.2.2.1 HI.out.2.2.2 rfl (by decide) (.slice sa (zED p k xb (p.s k) j).length sc) (zED p k xb (p.s k) j).length (pcl (zED p k xb (p.s k) j)) rfl fA.out ⟨W.heap.size,0,none⟩ 1 1 [.int .i64 (zb (p.s k) j),.int .i64 (zt (p.s k) j)] rfl rfl tA.out (by simp[Value.oneCell']) (by decide) (by unfold maxLen;omega) (by omega) (by omega) _ rfl ?_;intro g4 eA w4 bA aA nA pA)
      | fail)
     have gB:Hid (zw w4 (w.heap.size+2) (.slice (some ⟨g4,0,none⟩) ((zED p k xb (p.s k) j).length+1) eA) (zDI p k xb (p.s k) j 0)):=by
      rw[zHh];exact zw.next bA
     have rA:Below w.heap.size w w4:=lA.grown aA lA.size (fun q hq=>by have:=(fA.out.lt hq).1;omega);have sA:=zE (cB.out.grownT aA (fun q hq=>by have:=(fA.out.lt hq).1;omega));have nB:w.heap.size+2<=w4.heap.size:=(by have:=aA.size;omega);clear bA aA nA pA fA cB lA tA dD eD oB;obtain⟨_,_,ha,q0,q1⟩:=(tC.out.zRX rA).cellsT eB;simp only[Option.some.injEq,Addr.mk.injEq,and_true]at ha;obtain⟨rfl,rfl⟩:=ha;rw[<-zC6 H8.out eB,Hm.out]at q0;obtain⟨r0,r1,r2,_⟩:=mD.out.zRX rA;rw[lC.out]at r1;obtain⟨⟨x0,x1⟩,⟨x2,x3⟩⟩:=sA.out
     go_quiet (fail)
     go_wp2
     go_loopw [5,9] (fun sv i wr=>∃(i':Nat) (sa:Option Addr) (sc:Nat),i'<=8/\i = .int .i64 i'/\sv = .slice sa (zDI p k xb (p.s k) j i').length sc/\zw wr (w.heap.size+2) sv (zDI p k xb (p.s k) j i')/\zc wr w.heap.size (.slice (some ⟨b,off,none⟩) p.n c) (.slice a' p.hn c')/\Below w.heap.size w wr/\w.heap.size+2<=wr.heap.size) (fun _ i _=>8 - (intOf i).toNat)
     case atStart=>exact⟨0,some ⟨g4,0,none⟩,eA,Nat.zero_le _,rfl,by rw[zHh,List.length_append];rfl,gB.out.zRX (zg (Below.refl _ _) _),sA.out.zRX (zg (Below.refl _ _) _),zg rA _,nB⟩
     case round=>
      obtain⟨i,sa,sc,nD,rfl,rfl,kA,jA,oA,pB⟩:=hrel;have dA:=zE kA;have gA:=zE jA;have rC:=zPi p k xb (p.s k) (show j<=8 by omega) nD;clear kA jA gB sA rA x0 x1 x2 x3 q0 q1 r0 r1 r2 nB;by_cases iC:i<8
      ·have jD:(i:Int)<8:=(by omega);obtain⟨ub,tD,rfl,q0,q1⟩:=(oD.out.zRX oA).cellsT iC;rw[<-zC6 lC.out iC]at q0;rw[<-zEt lC.out iC]at q1;go_wp2_with fail;refine(yx (zb (p.s m) i) (zt (p.s m) i) wr).mono ?_;rintro e W ⟨⟨t,rfl,ht⟩,hb⟩;have bB:=zA oA hb;have vA:=zE (gA.out.zRX hb);have aB:=zE (dA.out.zRX hb);have nC:w.heap.size+2<=W.heap.size:=(by have:=hb.size;omega);have dD:=(hb.cell (zD q0)).trans q0;have eD:=(hb.cell (zD q1)).trans q1;clear q0 q1 oA hb dA gA pB;by_cases iA:Nil (zb (p.s m) i) (zt (p.s m) i)
       ·have mC:=zE iA;obtain rfl:t=true:=ht.2 iA;clear ht iA;have es:zDI p k xb (p.s k) j (i+1)=zDI p k xb (p.s k) j i:=zOe (by rw[pC.out];exact mC.out);have mB:=zE es;clear es;go_wp2;go_roundw
        case rel=>exact⟨i+1,sa,sc,by omega,by go_num,by rw[mB.out],by rw[mB.out];exact aB.out,vA.out,bB,nC⟩
        case measure=>simp[intOf];omega
       ·have mC:=zE iA;obtain rfl:t=false:=zQ ht iA;clear ht iA;have es:zDI p k xb (p.s k) j (i+1)=zDI p k xb (p.s k) j i ++ [(zb (p.s m) i,zt (p.s m) i)]:=(by have:=zN7 (p:=p) (rs:=(k:Int)) (rb:=xb) (s:=p.s k) (j:=j) (i:=i) (by rw[pC.out];exact mC.out);rw[pC.out]at this;exact this);have mB:=zE es;clear es;have cA:=zC W (.cells #[.int .i64 (zb (p.s m) i),.int .i64 (zt (p.s m) i)] 61);have fA:=zE (aB.out.zRX cA);have cB:=zE (vA.out.zRX cA);have lA:=zA bB cA;have oB:(W.alloc (.cells #[.int .i64 (zb (p.s m) i),.int .i64 (zt (p.s m) i)] 61)).heap.size=W.heap.size+1:=World.size_alloc _ _;have tA:=zE (World.news_of_block (heap_alloc_last W (.cells #[.int .i64 (zb (p.s m) i),.int .i64 (zt (p.s m) i)] 61)));clear cA aB vA bB;go_wp2_with (first
         | (at_builtin;refine wpList_append_lies _ rfl _ _ 62 rfl (w.heap.size+2) 61 i0 (.agg #[.int .i64 0,.int .i64 0]) 2 16 (by kernel_rfl) HI.out.1 HI.out.2.1 HI.out.2.2.1 HI.out.2.2.2 rfl (by decide) (.slice sa (zDI p k xb (p.s k) j i).length sc) (zDI p k xb (p.s k) j i).length (pcl (zDI p k xb (p.s k) j i)) rfl fA.out ⟨W.heap.size,0,none⟩ 1 1 [.int .i64 (zb (p.s m) i),.int .i64 (zt (p.s m) i)] rfl rfl tA.out (by simp[Value.oneCell']) (by decide) (by unfold maxLen;omega) (by omega) (by omega) _ rfl ?_;intro g4 eA w4 bA aA nA pA)
         | go_in)
        go_roundw
        case rel=>exact⟨i+1,some ⟨g4,0,none⟩,eA,by omega,by go_num,by rw[mB.out,List.length_append];rfl,by rw[mB.out];exact zw.next bA,cB.out.grownT aA (fun q hq=>by have:=(fA.out.lt hq).1;omega),lA.grown aA lA.size (fun q hq=>by have:=(fA.out.lt hq).1;omega),by have:=aA.size;omega⟩
        case measure=>simp[intOf];omega
      ·obtain rfl:i=8:=(by omega);go_wp2;go_roundw
       case rel=>exact⟨j+1,sa,sc,by omega,by go_num,by rw[zLm fB.out],by rw[zLm fB.out];exact dA.out,gA.out,oA,pB⟩
       case measure=>simp[intOf];omega
   ·obtain rfl:j=8:=(by omega);go_wp2;go_ret;exact⟨_,rfl,by rw[zPc HN.out];exact dA.out.mono (by omega),oA⟩
open Classical in
noncomputable def roomN(f:Nat->zL):Nat->Nat
 | 0=>0
 | k+1=>roomN f k+(if qE (f k)then 1 else 0)
theorem zBt{f:Nat->zL}{k:Nat}(h:qE (f k)):roomN f (k+1)=roomN f k+1:=by simp[roomN,h]
theorem zCD{f:Nat->zL}{k:Nat}(h:¬qE (f k)):roomN f (k+1)=roomN f k:=by simp[roomN,h]
theorem zFp(f:Nat->zL):∀k,roomN f k<=k
 | 0=>Nat.le_refl _
 | k+1=>by
  have:=zFp f k;by_cases h:qE (f k)
  ·rw[zBt h];omega
  ·rw[zCD h];omega
open Classical in
noncomputable def zNW(p:zI):Int:=if zx p then(roomN p.s p.n:Int)else 0
structure zE8 where
 zRh:Int
 time:Int
 rs:Int
 rb:Int
 dn:Nat
 ds:Nat->Int
 db:Nat->Int
def zRR(s:zl):zE8:=⟨s.zRh,s.time,s.rs,s.rb,s.dn,s.ds,s.db⟩
def zRP(t:Int)(s:qD):zE8:=⟨s.zRh,t,s.rs,s.rb,s.dn,s.ds,s.db⟩
def zO(W:zH)(i:Nat):zE8:=if i<W.pn then zRR (W.zRe i)else zRP W.time (W.zRg (i - W.pn))
def zq(W:zH):Nat:=W.pn+W.sn
theorem qQ{W:zH}{i:Nat}(h:i<W.pn):zO W i=zRR (W.zRe i):=if_pos h
theorem yH(W:zH)(i:Nat):zO W (W.pn+i)=zRP W.time (W.zRg i):=by
 unfold zO;rw[if_neg (by omega),show W.pn+i - W.pn=i by omega]
def yL:zl:=⟨0,ByteArray.empty,ByteArray.empty,0,0,0,0,0,fun _=>0,fun _=>0⟩
open Classical in
noncomputable def zN(W:zH)(x:Int):zl:=if h:∃k,qs W x k then W.zRe h.choose else yL
theorem qu{W:zH}{x:Int}{k:Nat}(h:qs W x k):zN W x=W.zRe k:=by
 unfold zN;rw[dif_pos ⟨k,h⟩,qs.uniq (Exists.choose_spec (⟨k,h⟩:∃k,qs W x k)) h]
theorem zFc{W:zH}{x:Int}(h:∀k,k<W.pn->(W.zRe k).id≠x):zN W x=yL:=by
 unfold zN;rw[dif_neg];rintro⟨k,hk⟩;exact h k hk.1 hk.2.1
theorem zGg{W:zH}{x:Int}:∀{n:Nat},n<=W.pn->(∃k,k<n/\(W.zRe k).id=x)->∃k,qs W x k
 | 0,_,⟨k,hk,_⟩=>absurd hk (Nat.not_lt_zero _)
 | n+1,hn,⟨k,hk,e⟩=>by
  by_cases h:∃j,j<n/\(W.zRe j).id=x
  ·exact zGg (by omega) h
  ·have:k=n:=by
    by_cases h':k<n
    ·exact absurd ⟨k,h',e⟩ h
    ·omega
   subst this;exact⟨k,by omega,e,fun j hj he=>h ⟨j,hj,he⟩⟩
def yT(W:zH)(m:zE8):List (Int×Int):=zR W.zRd m.rs m.rb
noncomputable def zC5(W:zH)(m:zE8):List (Int×Int):=zR W.zRd (zN W m.zRh).rs (zN W m.zRh).rb
def zAQ(l m:List (Int×Int)):List (Int×Int):=l.filter (fun x=>decide (x∉m))
def qO(l m:List (Int×Int)):List (Int×Int):=l.filter (fun x=>decide (x∈m))
def zAR(l:List (Int×Int))(t:Int):List (Int×Int):=l.filter (fun x=>decide (t<x.2))
noncomputable def zFM(W:zH)(m:zE8):List (Int×Int):=zAQ (yT W m) (zC5 W m)
noncomputable def yA(W:zH)(m:zE8):List (Int×Int):=zAR (yT W m) (zN W m.zRh).time
def zDn(n:Nat)(f g:Nat->Int)(l:List (Int×Int)):Prop:=zEG n f g l.length (zf l) (zh l)
def zNe(now old:List (Int×Int))(t tm:Int):Prop:=∀x,x∈now->x.2<=tm/\(x∈old↔x.2<=t)
def zJm(W:zH)(m:zE8):Prop:=zDn m.dn m.ds m.db (zAQ (zC5 W m) (yT W m))/\zNe (yT W m) (zC5 W m) (zN W m.zRh).time m.time
def zQl(W:zH)(m:zE8):Prop:=m.rb<=m.time/\zDn (yA W m).length (zf (yA W m)) (zh (yA W m)) (zFM W m)/\zDn m.dn m.ds m.db (zAQ (zC5 W m) (qO (yT W m) (zC5 W m)))
theorem zOP(l m:List (Int×Int)):zAQ m (qO l m)=zAQ m l:=by
 unfold zAQ qO;refine List.filter_congr fun x hx=>?_
 rw[decide_eq_decide];simp only[List.mem_filter,decide_eq_true_eq];exact⟨fun h h'=>h ⟨h',hx⟩,fun h h'=>h h'.1⟩
theorem yC{l:List (Int×Int)}{i:Nat}(h:i<l.length):l.getD i (0,0)=l[i]:=by
 rw[List.getD_eq_getElem?_getD,List.getElem?_eq_getElem h,Option.getD_some]
theorem zBd{l:List (Int×Int)}{x y:Int}:PIn l.length (zf l) (zh l) x y↔(x,y)∈l:=by
 constructor
 ·rintro⟨j,hj,e1,e2⟩;unfold zf at e1;unfold zh at e2;rw[yC hj]at e1 e2;have:l[j]=(x,y):=Prod.ext e1 e2;exact this▸List.getElem_mem hj
 ·intro h;obtain⟨j,hj,e⟩:=List.getElem_of_mem h;exact⟨j,hj,by unfold zf;rw[yC hj,e],by unfold zh;rw[yC hj,e]⟩
structure zBJ (W:zH):Prop where
 right:zx W.zRd
 ids:∀k,k<W.pn->(W.zRe k).zRh<(W.zRe k).id
 tree:∀i,i<zq W->qG W.zRd (zO W i).rs (zO W i).rb
 time:∀i,i<zq W->0<=(zO W i).time
theorem zAb{p:zI}{rs rb:Int}(hR:zx p)(hT:qG p rs rb){x:Int×Int}(hx:x∈zR p rs rb):zr p x.1 x.2/\x.2<=rb/\¬Has p.hn p.h x.1:=by
 rcases(zGL hR).2 hT with hz | ⟨hP,_,hA⟩
 ·rw[zR,if_pos hz]at hx;simp at hx
 ·have:=zDE hR hP x hx;exact⟨this.1,this.2,hA.2 x hx⟩
theorem zAj{p:zI}{rs rb:Int}(hR:zx p)(hT:qG p rs rb):(zR p rs rb).Nodup:=by
 rcases(zGL hR).2 hT with hz | ⟨hP,_,hA⟩
 ·rw[zR,if_pos hz];exact List.nodup_nil
 ·exact hA.1
theorem zBJ.old{W:zH}(h:zBJ W)(x:Int):qG W.zRd (zN W x).rs (zN W x).rb:=by
 by_cases hx:∃k,qs W x k
 ·obtain⟨k,hk⟩:=hx;rw[qu hk];have:=h.tree k (by unfold zq;have:=hk.1;omega);rw[qQ hk.1]at this;exact this
 ·have:zN W x=yL:=by
   unfold zN;rw[dif_neg hx]
  rw[this];exact Or.inl ⟨rfl,rfl⟩
theorem zN3{p:zI}{x y:Int}(hR:zx p)(h:zr p x y):zFG x y:=by
 have hf:=qS hR h;have h1:=hR.1;obtain⟨a,b,c,d⟩:=h;have:=hf.1.2;exact⟨b,by omega,a,by omega⟩
theorem zBH{p:zI}(hR:zx p){l:List (Int×Int)}(h:∀x,x∈l->zr p x.1 x.2)(hn:l.Nodup)(hl:l.length<=200):qm l.length (zf l) (zh l):=by
 have hs:=(zGe h).2 hn;refine⟨hl,fun i hi=>?_,fun i hi k hk=>?_⟩
 ·unfold zf zh;rw[yC hi];exact zN3 hR (h _ (List.getElem_mem hi))
 ·unfold zf;rw[yC hi,yC (show k<l.length by omega)];unfold yG List.Nodup at hs;rw[List.pairwise_map]at hs;exact List.pairwise_iff_getElem.1 hs k i (by omega) hi hk
theorem zJ7{p:zI}(hR:zx p){T:List (Int×Int)}(hT:∀x,x∈T->zr p x.1 x.2)(hn:T.Nodup)(hl:T.length<=200)(P Q:Int×Int->Bool) :
  zDn (T.filter P).length (zf (T.filter P)) (zh (T.filter P)) (T.filter Q)↔∀x,x∈T->P x=Q x:=by
 constructor
 ·rintro⟨_,_,aA,cA⟩;have h1:∀x,x∈T->P x=true->Q x=true:=fun x hx hp=>by
   have hm:x∈T.filter P:=List.mem_filter.2 ⟨hx,hp⟩;obtain⟨j,hj,e⟩:=List.getElem_of_mem hm;have:=cA j hj;rw[zBd]at this;unfold zf zh at this;rw[yC hj,e]at this;exact(List.mem_filter.1 this).2
  have h2:(T.filter Q).filter P=T.filter P:=by
   rw[List.filter_filter];refine List.filter_congr fun x hx=>?_
   cases hp:P x
   ·rfl
   ·rw[h1 x hx hp];rfl
  have h3:((T.filter Q).filter P).length=(T.filter Q).length:=(by rw[h2,aA]);rw[List.length_filter_eq_length_iff]at h3;intro x hx;cases hq:Q x
  ·cases hp:P x
   ·rfl
   ·rw[h1 x hx hp]at hq;exact absurd hq (by simp)
  ·exact h3 x (List.mem_filter.2 ⟨hx,hq⟩)
 ·intro h;have e:T.filter P=T.filter Q:=List.filter_congr h;rw[e];have bA:qm (T.filter Q).length (zf (T.filter Q)) (zh (T.filter Q)):=zBH hR (fun x hx=>hT x (List.mem_filter.1 hx).1) (hn.filter _) (Nat.le_trans (List.length_filter_le _ _) hl);exact⟨bA,bA,rfl,fun i hi=>⟨i,hi,rfl,rfl⟩⟩
theorem zHu{W:zH}(h:zBJ W){i:Nat}(hi:i<zq W):zQl W (zO W i)↔zJm W (zO W i):=by
 generalize hm:zO W i=m;have hT:=h.tree i hi;have eA:=h.time i hi;rw[hm]at hT eA;have bA:(yT W m).length<=200:=by have:=qN W.zRd m.rs m.rb;unfold yT;omega
 have fA:∀x,x∈yT W m->zr W.zRd x.1 x.2:=fun x hx=>(zAb h.right hT hx).1
 unfold zQl zJm;rw[zOP];have key:zDn (yA W m).length (zf (yA W m)) (zh (yA W m)) (zFM W m)↔∀x,x∈yT W m->(x∈zC5 W m↔x.2<=(zN W m.zRh).time):=by
  unfold yA zFM zAR zAQ;rw[zJ7 h.right fA (zAj h.right hT) bA];refine⟨fun hh x hx=>?_,fun hh x hx=>?_⟩
  ·have:=hh x hx;rw[decide_eq_decide]at this;constructor
   ·intro aA;by_cases cA:(zN W m.zRh).time<x.2
    ·exact absurd aA (this.1 cA)
    ·omega
   ·intro dA;by_cases aA:x∈zC5 W m
    ·exact aA
    ·have:=this.2 aA;omega
  ·rw[decide_eq_decide];have:=hh x hx;constructor
   ·intro cA aA;have:=this.1 aA;omega
   ·intro aA;by_cases dA:x.2<=(zN W m.zRh).time
    ·exact absurd (this.2 dA) aA
    ·omega
 rw[key];constructor
 ·rintro⟨h1,h2,h3⟩;exact⟨h3,fun x hx=>⟨by have:=(zAb h.right hT hx).2.1;omega,h2 x hx⟩⟩
 ·rintro⟨h1,h2⟩;refine⟨?_,fun x hx=>(h2 x hx).2,h1⟩;by_cases hz:Nil m.rs m.rb
  ·rw[hz.2];exact eA
  ·have hr:(m.rs,m.rb)∈yT W m:=(by unfold yT zR;rw[if_neg hz];simp);exact(h2 _ hr).1
theorem zN4{W:zH}{m:zE8}(hS:zJm W m):yA W m=zFM W m:=by
 unfold yA zFM zAR zAQ;refine List.filter_congr fun x hx=>?_
 rw[decide_eq_decide];have:=(hS.2 x hx).2;constructor
 ·intro h1 h2;have:=this.1 h2;omega
 ·intro h1;by_cases h2:x.2<=(zN W m.zRh).time
  ·exact absurd (this.2 h2) h1
  ·omega
open Classical in
noncomputable def cnt(P:Nat->Prop):Nat->Nat
 | 0=>0
 | k+1=>cnt P k+(if P k then 1 else 0)
theorem zCZ{P Q:Nat->Prop}:∀{n:Nat},(∀i,i<n->(P i↔Q i))->cnt P n=cnt Q n
 | 0,_=>rfl
 | n+1,h=>by
  unfold cnt;rw[zCZ (fun i hi=>h i (by omega))];by_cases hp:P n
  ·rw[if_pos hp,if_pos ((h n (by omega)).1 hp)]
  ·rw[if_neg hp,if_neg (fun hq=>hp ((h n (by omega)).2 hq))]
theorem zPK{P Q:Nat->Prop}:∀{n:Nat},(∀i,i<n->P i->Q i)->cnt P n<=cnt Q n
 | 0,_=>Nat.le_refl _
 | n+1,h=>by
  unfold cnt;have:=zPK (n:=n) (fun i hi=>h i (by omega));by_cases hp:P n
  ·rw[if_pos hp,if_pos (h n (by omega) hp)];omega
  ·rw[if_neg hp];omega
theorem zHn{P Q:Nat->Prop}:∀{n:Nat},(∀i,i<n->P i->Q i)->(cnt P n=cnt Q n↔∀i,i<n->(P i↔Q i))
 | 0,_=>⟨fun _ i hi=>absurd hi (Nat.not_lt_zero _),fun _=>rfl⟩
 | n+1,h=>by
  refine⟨fun e=>?_,fun e=>zCZ e⟩;have aA:=zPK (n:=n) (fun i hi=>h i (by omega));have ih:=zHn (n:=n) (fun i hi=>h i (by omega));unfold cnt at e;have hn:P n↔Q n:=by
   refine⟨h n (by omega),fun hq=>?_⟩;by_cases hp:P n
   ·exact hp
   ·rw[if_neg hp,if_pos hq]at e;omega
  have e':cnt P n=cnt Q n:=by
   by_cases hp:P n
   ·rw[if_pos hp,if_pos (hn.1 hp)]at e;omega
   ·rw[if_neg hp,if_neg (fun hq=>hp (hn.2 hq))]at e;omega
  intro i hi;by_cases e2:i=n
  ·subst e2;exact hn
  ·exact ih.1 e' i (by omega)
theorem zMx{P Q:Nat->Prop}:∀{n:Nat},(∀i,i<n->P i->¬Q i)->cnt (fun i=>P i\/Q i) n=cnt P n+cnt Q n
 | 0,_=>rfl
 | n+1,h=>by
  unfold cnt;rw[zMx (fun i hi=>h i (by omega))];by_cases hp:P n
  ·rw[if_pos (Or.inl hp),if_pos hp,if_neg (h n (by omega) hp)];omega
  ·by_cases hq:Q n
   ·rw[if_pos (Or.inr hq),if_neg hp,if_pos hq];omega
   ·rw[if_neg (fun h=>h.elim hp hq),if_neg hp,if_neg hq];omega
theorem zNV(P:Nat->Prop):∀n,cnt P n+cnt (fun i=>¬P i) n=n
 | 0=>rfl
 | n+1=>by
  have:=zNV P n;unfold cnt;by_cases hp:P n
  ·rw[if_pos hp,if_neg (fun h=>h hp)];omega
  ·rw[if_neg hp,if_pos hp];omega
theorem zH7{P:Nat->Prop}:∀{n:Nat},(∀i,i<n->¬P i)->cnt P n=0
 | 0,_=>rfl
 | n+1,h=>by
  unfold cnt;rw[zH7 (fun i hi=>h i (by omega)),if_neg (h n (by omega))]
theorem zNm:∀{n a:Nat},a<n->cnt (fun i=>i=a) n=1
 | 0,a,h=>absurd h (Nat.not_lt_zero _)
 | n+1,a,h=>by
  unfold cnt;by_cases e:n=a
  ·subst e;rw[if_pos rfl,zH7 (fun i hi=>by omega)]
  ·rw[if_neg e,zNm (by omega)]
theorem zFt{n:Nat}:∀{l:List Nat},l.Nodup->(∀x,x∈l->x<n)->cnt (fun i=>i∈l) n=l.length
 | [],_,_=>zH7 (fun i hi=>by simp)
 | a :: l,hn,hl=>by
  obtain⟨h1,h2⟩:=List.nodup_cons.1 hn;have e1:cnt (fun i=>i∈a :: l) n=cnt (fun i=>i=a\/i∈l) n:=zCZ (fun i _=>List.mem_cons);have e2:cnt (fun i=>i=a\/i∈l) n=cnt (fun i=>i=a) n+cnt (fun i=>i∈l) n:=zMx (fun i _ (e:i=a) hi=>h1 (e▸hi));rw[e1,e2,zNm (hl a (by simp)),zFt h2 (fun x hx=>hl x (by simp[hx])),List.length_cons];omega
theorem zLo(f:Nat->zL):∀n,roomN f n=cnt (fun i=>qE (f i)) n
 | 0=>rfl
 | n+1=>by unfold roomN cnt;rw[zLo f n]
theorem zO2{p:zI}(hR:zx p):cnt (fun i=>Has p.hn p.h i) p.n=p.hn:=by
 have h:=hR.2.2;have hl:∀x,x∈(List.range p.hn).map (fun j=>(p.h j).toNat)->x<p.n:=by
  intro x hx;obtain⟨j,hj,rfl⟩:=List.mem_map.1 hx;have:=h j (List.mem_range.1 hj);have h1:=this.1;have h2:=this.2.1;omega
 have hn:((List.range p.hn).map (fun j=>(p.h j).toNat)).Nodup:=by
  unfold List.Nodup;rw[List.pairwise_map];refine List.Pairwise.imp_of_mem ?_ (List.pairwise_lt_range);intro a b ha hb aA e;have h1:=h a (List.mem_range.1 ha);have h2:=h b (List.mem_range.1 hb);have:=h1.1;have:=h2.1;exact h2.2.2.2 ⟨a,aA,by omega⟩
 have:=zFt hn hl;rw[List.length_map,List.length_range]at this;refine Eq.trans (zCZ (fun i hi=>?_)) this;constructor
 ·rintro⟨j,hj,e⟩;exact List.mem_map.2 ⟨j,List.mem_range.2 hj,by rw[e];simp⟩
 ·intro hx;obtain⟨j,hj,e⟩:=List.mem_map.1 hx;have:=(h j (List.mem_range.1 hj)).1;exact⟨j,List.mem_range.1 hj,by omega⟩
theorem zLK{p:zI}(hR:zx p):cnt (fun i=>¬qE (p.s i)/\¬Has p.hn p.h i) p.n+roomN p.s p.n+p.hn=p.n:=by
 have h1:=zNV (fun i=>qE (p.s i)\/Has p.hn p.h i) p.n;have h2:cnt (fun i=>qE (p.s i)\/Has p.hn p.h i) p.n=cnt (fun i=>qE (p.s i)) p.n+cnt (fun i=>Has p.hn p.h i) p.n:=zMx (fun i hi hf=>by
  rintro⟨j,hj,e⟩;have:=(hR.2.2 j hj).2.2.1;rw[e]at this;simp only[Int.toNat_natCast]at this;exact this hf)
 rw[zO2 hR,<-zLo]at h2;have h3:cnt (fun i=>¬(qE (p.s i)\/Has p.hn p.h i)) p.n=cnt (fun i=>¬qE (p.s i)/\¬Has p.hn p.h i) p.n:=zCZ (fun i _=>not_or);omega
def zEu(W:zH):Prop:=∀i,i<W.zRd.n->((∃m,m<zq W/\∃b,((i:Int),b)∈yT W (zO W m))↔(¬qE (W.zRd.s i)/\¬Has W.zRd.hn W.zRd.h i))
def zGY(W:zH):Prop:=∀i,i<zq W->∀j,j<i->∀x,x∈zFM W (zO W i)->∀y,y∈zFM W (zO W j)->x.1≠y.1
noncomputable def zn(W:zH):Nat->List (Int×Int)
 | 0=>[]
 | k+1=>zn W k ++ yA W (zO W k)
def zFo(W:zH):Prop:=(zn W (zq W)).Nodup/\(zn W (zq W)).length+roomN W.zRd.s W.zRd.n+W.zRd.hn=W.zRd.n
theorem zDe{W:zH}{x:Int×Int}:∀{k:Nat},x∈zn W k↔∃i,i<k/\x∈yA W (zO W i)
 | 0=>by simp[zn]
 | k+1=>by
  unfold zn;rw[List.mem_append,zDe];constructor
  ·rintro(⟨i,hi,h⟩ | h)
   ·exact⟨i,by omega,h⟩
   ·exact⟨k,by omega,h⟩
  ·rintro⟨i,hi,h⟩;by_cases e:i=k
   ·subst e;exact Or.inr h
   ·exact Or.inl ⟨i,by omega,h⟩
theorem zHB{W:zH}:∀{k:Nat},(∀i,i<k->(yA W (zO W i)).Nodup)->((zn W k).Nodup↔∀i,i<k->∀j,j<i->∀x,x∈yA W (zO W i)->x∉yA W (zO W j))
 | 0,_=>⟨fun _ i hi=>absurd hi (Nat.not_lt_zero _),fun _=>List.nodup_nil⟩
 | k+1,hy=>by
  unfold zn;rw[List.nodup_append,zHB (fun i hi=>hy i (by omega))];constructor
  ·rintro⟨h1,h2,h3⟩ i hi j hj x hx aA;by_cases e:i=k
   ·subst e;exact h3 x (zDe.2 ⟨j,hj,aA⟩) x hx rfl
   ·exact h1 i (by omega) j hj x hx aA
  ·intro h;refine⟨fun i hi=>h i (by omega),hy k (by omega),fun x hx y bA e=>?_⟩;subst e;obtain⟨i,hi,hx⟩:=zDe.1 hx;exact h k (by omega) i hi x bA hx
theorem zLE{W:zH}(h:zBJ W){x:Int×Int}:∀(N:Nat) (k:Nat),k<W.pn->(W.zRe k).id<N->0<=(W.zRe k).id->(∀j,j<W.pn->0<=(W.zRe j).id)->x∈yT W (zO W k)->∃i,i<zq W/\x∈zFM W (zO W i)
 | 0,k,hk,h1,h2,_,_=>by omega
 | N+1,k,hk,h1,h2,h0,hx=>by
  by_cases ho:x∈zC5 W (zO W k)
  ·have aA:∃j,qs W (zO W k).zRh j:=by
    refine Classical.byContradiction fun bA=>?_
    have:zN W (zO W k).zRh=yL:=(by unfold zN;rw[dif_neg bA]);unfold zC5 at ho;rw[this,zR,if_pos ⟨rfl,rfl⟩]at ho;simp at ho
   obtain⟨j,hj⟩:=aA;unfold zC5 at ho;rw[qu hj]at ho;have e1:(zO W k).zRh=(W.zRe k).zRh:=(by rw[qQ hk];rfl);have:=h.ids k hk;have:=hj.2.1;exact zLE h N j hj.1 (by omega) (h0 j hj.1) h0 (by rw[qQ hj.1];exact ho)
  ·exact⟨k,by unfold zq;omega,List.mem_filter.2 ⟨hx,by simpa using ho⟩⟩
theorem zOq{W:zH}(h:zBJ W)(h0:∀j,j<W.pn->0<=(W.zRe j).id){x:Int×Int}{m:Nat}(hm:m<zq W)(hx:x∈yT W (zO W m)):∃i,i<zq W/\x∈zFM W (zO W i):=by
 by_cases ho:x∈zC5 W (zO W m)
 ·have aA:∃j,qs W (zO W m).zRh j:=by
   refine Classical.byContradiction fun bA=>?_
   have:zN W (zO W m).zRh=yL:=(by unfold zN;rw[dif_neg bA]);unfold zC5 at ho;rw[this,zR,if_pos ⟨rfl,rfl⟩]at ho;simp at ho
  obtain⟨j,hj⟩:=aA;unfold zC5 at ho;rw[qu hj]at ho;have:=h0 j hj.1;exact zLE h ((W.zRe j).id.toNat+1) j hj.1 (by omega) (h0 j hj.1) h0 (by rw[qQ hj.1];exact ho)
 ·exact⟨m,hm,List.mem_filter.2 ⟨hx,by simpa using ho⟩⟩
theorem zJP{W:zH}(h:zBJ W)(h0:∀j,j<W.pn->0<=(W.zRe j).id)(hM:∀i,i<zq W->zJm W (zO W i)):zFo W↔zEu W/\zGY W:=by
 have hy:∀i,i<zq W->yA W (zO W i)=zFM W (zO W i):=fun i hi=>zN4 (hM i hi)
 have rA:∀i,i<zq W->(yA W (zO W i)).Nodup:=fun i hi=>(zAj h.right (h.tree i hi)).filter _
 have mA:∀i,i<zq W->∀x,x∈zFM W (zO W i)->x∈yT W (zO W i):=fun i _ x hx=>(List.mem_filter.1 hx).1
 have gA:∀i,i<zq W->∀x,x∈yT W (zO W i)->zr W.zRd x.1 x.2/\¬Has W.zRd.hn W.zRd.h x.1:=fun i hi x hx=>⟨(zAb h.right (h.tree i hi) hx).1,(zAb h.right (h.tree i hi) hx).2.2⟩
 have fA:∀x y:Int×Int,zr W.zRd x.1 x.2->zr W.zRd y.1 y.2->x.1=y.1->x=y:=fun x y hx eA e=>by
  have a1:=hx.2.2.2;have a2:=eA.2.2.2;rw[e]at a1;exact Prod.ext e (a1.symm.trans a2)
 have hA:(zn W (zq W)).Nodup↔zGY W:=by
  rw[zHB rA];unfold zGY;constructor
  ·intro hh i hi j hj x hx y eA e;have pA:=fA x y (gA i hi x (mA i hi x hx)).1 (gA j (by omega) y (mA j (by omega) y eA)).1 e;subst pA;exact hh i hi j hj x (by rw[hy i hi];exact hx) (by rw[hy j (by omega)];exact eA)
  ·intro hh i hi j hj x hx tA;exact hh i hi j hj x (by rw[<-hy i hi];exact hx) x (by rw[<-hy j (by omega)];exact tA) rfl
 have aA:∀x,x∈zn W (zq W)↔∃m,m<zq W/\x∈yT W (zO W m):=fun x=>by
  rw[zDe];constructor
  ·rintro⟨i,hi,hx⟩;rw[hy i hi]at hx;exact⟨i,hi,mA i hi x hx⟩
  ·rintro⟨m,hm,hx⟩;obtain⟨i,hi,hx⟩:=zOq h h0 hm hx;exact⟨i,hi,by rw[hy i hi];exact hx⟩
 unfold zFo;rw[hA];constructor
 ·rintro⟨ha,sA⟩;refine⟨?_,ha⟩;have bA:=hA.2 ha;have cA:∀x,x∈zn W (zq W)->zr W.zRd x.1 x.2:=fun x hx=>by
   obtain⟨m,hm,hx⟩:=(aA x).1 hx;exact(gA m hm x hx).1
  have hl:∀x,x∈(zn W (zq W)).map (fun x=>x.1.toNat)->x<W.zRd.n:=by
   intro x hx;obtain⟨y,eA,rfl⟩:=List.mem_map.1 hx;have:=cA y eA;have h1:=this.2.1;have h2:=this.2.2.1;omega
  have kA:((zn W (zq W)).map (fun x=>x.1.toNat)).Nodup:=by
   unfold List.Nodup;rw[List.pairwise_map];refine List.Pairwise.imp_of_mem ?_ bA;intro a b lA jA nA e;have p1:=cA a lA;have p2:=cA b jA;have:=p1.2.1;have:=p2.2.1;exact nA (fA a b p1 p2 (by omega))
  have hc:=zFt kA hl;rw[List.length_map]at hc;have hr:=zLK h.right;have dA:∀i,i<W.zRd.n->(i∈(zn W (zq W)).map (fun x=>x.1.toNat)↔∃m,m<zq W/\∃b,((i:Int),b)∈yT W (zO W m)):=by
   intro i hi;rw[List.mem_map];constructor
   ·rintro⟨x,hx,e⟩;have:=(cA x hx).2.1;obtain⟨m,hm,hx⟩:=(aA x).1 hx;exact⟨m,hm,x.2,by rw[show(i:Int)=x.1 by omega];exact hx⟩
   ·rintro⟨m,hm,b,hx⟩;exact⟨(i,b),(aA _).2 ⟨m,hm,hx⟩,by simp⟩
  have iA:∀i,i<W.zRd.n->i∈(zn W (zq W)).map (fun x=>x.1.toNat)->¬qE (W.zRd.s i)/\¬Has W.zRd.hn W.zRd.h i:=by
   intro i hi hx;obtain⟨m,hm,b,hx⟩:=(dA i hi).1 hx;have:=gA m hm _ hx;refine⟨fun hf=>?_,this.2⟩;have h1:=this.1.1;have h2:=this.1.2.2.2;simp only[Int.toNat_natCast]at h2;rw[hf.1]at h2;simp only at h1 h2;omega
  have:=(zHn iA).1 (by rw[hc];omega);intro i hi;rw[<-dA i hi];exact this i hi
 ·rintro⟨oA,ha⟩;refine⟨ha,?_⟩;have bA:=hA.2 ha;have cA:∀x,x∈zn W (zq W)->zr W.zRd x.1 x.2:=fun x hx=>by
   obtain⟨m,hm,hx⟩:=(aA x).1 hx;exact(gA m hm x hx).1
  have hl:∀x,x∈(zn W (zq W)).map (fun x=>x.1.toNat)->x<W.zRd.n:=by
   intro x hx;obtain⟨y,eA,rfl⟩:=List.mem_map.1 hx;have:=cA y eA;have h1:=this.2.1;have h2:=this.2.2.1;omega
  have kA:((zn W (zq W)).map (fun x=>x.1.toNat)).Nodup:=by
   unfold List.Nodup;rw[List.pairwise_map];refine List.Pairwise.imp_of_mem ?_ bA;intro a b lA jA nA e;have p1:=cA a lA;have p2:=cA b jA;have:=p1.2.1;have:=p2.2.1;exact nA (fA a b p1 p2 (by omega))
  have hc:=zFt kA hl;rw[List.length_map]at hc;have hr:=zLK h.right;have dA:∀i,i<W.zRd.n->(i∈(zn W (zq W)).map (fun x=>x.1.toNat)↔∃m,m<zq W/\∃b,((i:Int),b)∈yT W (zO W m)):=by
   intro i hi;rw[List.mem_map];constructor
   ·rintro⟨x,hx,e⟩;have:=(cA x hx).2.1;obtain⟨m,hm,hx⟩:=(aA x).1 hx;exact⟨m,hm,x.2,by rw[show(i:Int)=x.1 by omega];exact hx⟩
   ·rintro⟨m,hm,b,hx⟩;exact⟨(i,b),(aA _).2 ⟨m,hm,hx⟩,by simp⟩
  have:=zCZ (P:=fun i=>i∈(zn W (zq W)).map (fun x=>x.1.toNat)) (Q:=fun i=>¬qE (W.zRd.s i)/\¬Has W.zRd.hn W.zRd.h i) (n:=W.zRd.n) (fun i hi=>(dA i hi).trans (oA i hi));omega
open Go.Maps
theorem zw.atW{w:World}{base:Nat}{v:Value}{l:List (Int×Int)}(h:zw w base v l)(hm:l.length<=1000):zU w 0 w.heap.size v l.length (zf l) (zh l):=by
 obtain⟨b,h1,h2⟩:=h.own (by unfold maxLen;omega);exact h1.at (fun h0=>⟨Nat.zero_le _,(h2 h0).2.2⟩)
def zQk(now old:List (Int×Int))(t tm:Int)(n:Nat):Prop:=∀i,i<n->zh now i<=tm/\((zf now i,zh now i)∈old↔zh now i<=t)
theorem zK3(aA bA:List (Int×Int))(t tm:Int):zQk aA bA t tm aA.length↔zNe aA bA t tm:=by
 constructor
 ·intro h x hx;obtain⟨j,hj,e⟩:=List.getElem_of_mem hx;have:=h j hj;unfold zf zh at this;rw[yC hj,e]at this;exact this
 ·intro h i hi;have:=h _ (List.getElem_mem hi);unfold zf zh;rw[yC hi];exact this
def zCi(W:zH):Prop:=∀k,k<W.pn->1<=(W.zRe k).id
def zKq(W:zH)(x s b t:Int):Prop:=s=(zN W x).rs/\b=(zN W x).rb/\t=(zN W x).time
theorem zF6{W:zH}{x s b t:Int}(hp:zCi W)(h:zK4 W x s b t):zKq W x s b t:=by
 rcases h with⟨k,_,hk,h1,h2,h3⟩ | ⟨hn,h1,h2,h3⟩
 ·unfold zKq;rw[qu hk];exact⟨h1,h2,h3⟩
 ·have e:zN W x=yL:=by
   rcases hn with rfl | hn
   ·exact zFc (fun k hk e=>by have:=hp k hk;omega)
   ·exact zFc hn
  unfold zKq;rw[e];exact⟨h1,h2,h3⟩
theorem zE9(v0 v1 v2 v3:Value)(lo hi:Nat)(W:zH)(x rs rb tm t:Int)(aA bA:List (Int×Int))(w:World)(h:zk w lo hi v0 v1 v2 v3 W)(hR:zx W.zRd)(hT:qG W.zRd rs rb)(hA:qG W.zRd (zN W x).rs (zN W x).rb)(hP:zCi W)(fA:aA=zR W.zRd rs rb)(iA:bA=zR W.zRd (zN W x).rs (zN W x).rb)(ht:t=(zN W x).time) :
  Calls Tryz.prog 144 #[zz v0 v1 v2 v3 W,.int .i64 x,.agg #[.int .i64 rs,.int .i64 rb],.int .i64 tm] w fun e w'=>zG (zNe aA bA t tm) e/\Below w.heap.size w w':=by
 have Hp:=zB h;have HR:=zB hR;have HT:=zB hT;have HA:=zB hA;have HP:=zB hP;have gA:=zB fA;have lA:=zB iA;have aC:=zB ht;clear h hR hT hA hP fA iA ht;have ha:=zC w (.cells #[v0,v1,.int .i64 W.time,.int .i64 W.next,v2,v3] 37);have hB:=zi.zRZ w v0 v1 (.int .i64 W.time) (.int .i64 W.next) v2 v3 37;have cB:=zC (w.alloc (.cells #[v0,v1,.int .i64 W.time,.int .i64 W.next,v2,v3] 37)) (.cells #[.int .i64 rs,.int .i64 rb] 61);have hX:=zc.zRZ (w.alloc (.cells #[v0,v1,.int .i64 W.time,.int .i64 W.next,v2,v3] 37)) (.int .i64 rs) (.int .i64 rb) 61;have dB:=hB.zRX cB;have pA:=zA ha cB;have vB:(w.alloc (.cells #[v0,v1,.int .i64 W.time,.int .i64 W.next,v2,v3] 37)).heap.size=w.heap.size+1:=World.size_alloc _ _;rw[vB]at hX;clear ha cB hB;go_enter Tryz.func144,Tryz.ntmps144;go_wp2_with fail;generalize ((w.alloc (.cells #[v0,v1,.int .i64 W.time,.int .i64 W.next,v2,v3] 37)).alloc (.cells #[.int .i64 rs,.int .i64 rb] 61))=W0 at hX dB pA ⊢;refine(zAr v0 v1 v2 _ lo hi W x W0 (Hp.out.zRX pA)).mono ?_;rintro e w1 ⟨s,b,t',rfl,hF,tA⟩;have hq:=zF6 HP.out hF;obtain rfl:t=t':=aC.out.trans hq.2.2.symm;have nB:=zB (show qG W.zRd s b by rw[hq.1,hq.2.1];exact HA.out);have HF:=zB (show bA=zR W.zRd s b by rw[lA.out,hq.1,hq.2.1]);clear hq aC lA HA;have pB:=hX.zRX tA;have mB:=dB.zRX tA;have kB:=zA pA tA;have sA:=zC w1 (.cells #[.int .i64 s,.int .i64 b] 61);have lB:=zB (zc.zRZ w1 (.int .i64 s) (.int .i64 b) 61);have gB:=zB (pB.zRX sA);have fB:=zB (mB.zRX sA);have cA:=zA kB sA;clear hX dB pA tA vB hF pB mB kB sA;obtain⟨⟨y0,y1⟩,⟨y2,y3⟩⟩:=lB.out;obtain⟨⟨z0,z1⟩,⟨z2,z3⟩⟩:=gB.out;obtain⟨⟨x0,x1⟩,⟨x2,x3⟩,⟨x4,x5⟩,⟨x6,x7⟩,⟨x8,x9⟩,⟨eB,iB⟩⟩:=fB.out;go_wp2_with fail;generalize w1.alloc (.cells #[.int .i64 s,.int .i64 b] 61)=w3 at *;refine(yZ v0 v1 lo hi W.zRd s b w3 (Hp.out.zRd.zRX cA) HR.out nB.out).mono ?_;rintro e w4 ⟨vo,rfl,oB,oA⟩;have ho:=(oB.atW (by have:=qN W.zRd s b;omega));have sB:=zB (gB.out.zRX oA);have jB:=zB (fB.out.zRX oA);have dA:=zA cA oA;clear oB oA gB fB lB cA x0 x1 x2 x3 x4 x5 x6 x7 x8 x9 eB iB y0 y1 y2 y3 z0 z1 z2 z3;obtain⟨⟨z0,z1⟩,⟨z2,z3⟩⟩:=sB.out;obtain⟨⟨x0,x1⟩,⟨x2,x3⟩,⟨x4,x5⟩,⟨x6,x7⟩,⟨x8,x9⟩,⟨eB,iB⟩⟩:=jB.out;go_wp2_with fail;refine(yZ v0 v1 lo hi W.zRd rs rb w4 (Hp.out.zRd.zRX dA) HR.out HT.out).mono ?_;rintro e w5 ⟨vn,rfl,tB,bB⟩;have hn:=(tB.atW (by have:=qN W.zRd rs rb;omega));have aB:=ho.zRX bB;have eA:=zA dA bB;clear tB bB sB jB dA ho x0 x1 x2 x3 x4 x5 x6 x7 x8 x9 eB iB z0 z1 z2 z3;rw[<-gA.out]at hn;rw[<-HF.out]at aB;clear HF nB HT gA HR HP;obtain⟨mn,an,cn,rfl,eC,_⟩:=id hn;have Hn:=zB hn;have Ho:=zB aB;clear hn aB;unfold maxLen at mn;go_wp2
 go_loopw [13] (fun i wr=>∃k:Nat,k<=aA.length/\i = .int .i64 k/\zQk aA bA t tm k/\Below w5.heap.size w5 wr) (fun i _=>aA.length - (intOf i).toNat)
 case atStart=>exact⟨0,Nat.zero_le _,rfl,fun j hj=>absurd hj (Nat.not_lt_zero _),Below.refl _ _⟩
 case round=>
  obtain⟨k,hk,rfl,mA,hb⟩:=hrel;have nA:=zB mA;clear mA;by_cases vA:k<aA.length
  ·have cC:(k:Int)<(aA.length:Int):=(by omega);obtain⟨b1,off,rfl,q0,q1⟩:=(Hn.out.zRX hb).zRb vA;by_cases hg:tm<zh aA k
   ·have hd:decide (tm<zh aA k)=true:=(by simp[hg]);have Hg:=zB hg;clear hg;go_wp2
    go_quiet (fail)
    go_wp2;go_ret;exact⟨zG.no fun hA=>absurd ((zK3 _ _ _ _).2 hA k vA).1 (by have:=Hg.out;omega),zg (zA eA hb) _⟩
   ·have hd:decide (tm<zh aA k)=false:=(by simp;omega);have Hg:=zB (show zh aA k<=tm by omega);clear hg;go_wp2_with fail;go_region_held3 (fun w'=>w'.cell? ⟨b1,off+k*2,none⟩=some (.int .i64 (zf aA k))/\w'.cell? ⟨b1,off+k*2+1,none⟩=some (.int .i64 (zh aA k))) (go_keep)
     (first | (go_at_call 142;refine(zDV _ bA.length 0 w4.heap.size (zf bA) (zh bA) (zf aA k) (zh aA k) _ ?_).mono ?_;(exact(Ho.out.zRX hb).zRX ((Below.refl _ _).drew));rintro e w6 ⟨⟨t6,rfl,bC⟩,rA⟩;have z1:=(rA.cell (p:=⟨b1,off+k*2,none⟩) (zD q0)).trans q0;have z2:=(rA.cell (p:=⟨b1,off+k*2+1,none⟩) (zD q1)).trans q1))
    have rB:=qd hb rA;have dC:=zB (bC.trans zBd);clear bC rA z1 z2 q0 q1 hd;have kA:(t6 == decide (zh aA k<=t))=true↔((zf aA k,zh aA k)∈bA↔zh aA k<=t):=by
     have ho:=dC.out;cases t6<;>simp_all
    have jA:=zB kA;clear kA;cases hc:(t6 == decide (zh aA k<=t))
    ·go_wp2;go_ret;exact⟨zG.no fun hA=>absurd (jA.out.2 ((zK3 _ _ _ _).2 hA k vA).2) (by simp[hc]),zA eA rB⟩
    ·go_wp2;go_roundw
     case rel=>exact⟨k+1,by omega,by go_num,zo vA nA.out ⟨Hg.out,jA.out.1 hc⟩,rB⟩
     case measure=>simp[intOf];omega
  ·obtain rfl:k=aA.length:=(by omega);go_wp2;go_ret;exact⟨zG.yes ((zK3 _ _ _ _).1 nA.out),zA eA hb⟩
theorem zKz{l m:List (Int×Int)}{k:Nat}(hk:k<l.length)(h:(zf l k,zh l k)∈m):zAQ (l.take (k+1)) m=zAQ (l.take k) m:=by
 unfold zf zh at h;rw[yC hk]at h;unfold zAQ;rw[List.take_succ_eq_append_getElem hk,List.filter_append,List.filter_cons];simp only[List.filter_nil];rw[if_neg (by simp;exact h),List.append_nil]
theorem zH8{l m:List (Int×Int)}{k:Nat}(hk:k<l.length)(h:(zf l k,zh l k)∉m):zAQ (l.take (k+1)) m=zAQ (l.take k) m ++ [(zf l k,zh l k)]:=by
 unfold zf zh at h ⊢;rw[yC hk]at h ⊢;unfold zAQ;rw[List.take_succ_eq_append_getElem hk,List.filter_append,List.filter_cons];simp only[List.filter_nil];rw[if_pos (by simp;exact h)]
theorem zL0(l m:List (Int×Int))(k:Nat):(zAQ (l.take k) m).length<=k:=by
 unfold zAQ;exact Nat.le_trans (List.length_filter_le _ _) (by rw[List.length_take];omega)
theorem zG2(v0 v1 v2 v3 vd:Value)(lo hi mC vB dn:Nat)(ds db:Nat->Int)(W:zH)(x rs rb:Int)(dA aA:List (Int×Int))(w:World)(h:zk w lo hi v0 v1 v2 v3 W)(hD:zU w mC vB vd dn ds db)(hR:zx W.zRd)(hT:qG W.zRd rs rb)(hA:qG W.zRd (zN W x).rs (zN W x).rb)(hP:zCi W)(mA:dA=zR W.zRd rs rb)(nA:aA=zR W.zRd (zN W x).rs (zN W x).rb) :
  Calls Tryz.prog 72 #[zz v0 v1 v2 v3 W,.int .i64 x,.agg #[.int .i64 rs,.int .i64 rb],vd] w fun e w'=>zG (zDn dn ds db (zAQ aA dA)) e/\Below w.heap.size w w':=by
 have Hp:=zB h;have HR:=zB hR;have HT:=zB hT;have HA:=zB hA;have HP:=zB hP;have gA:=zB mA;have rA:=zB nA;have HD:=zB hD;clear h hR hT hA hP mA nA hD;have ha:=zC w (.cells #[v0,v1,.int .i64 W.time,.int .i64 W.next,v2,v3] 37);have hB:=zi.zRZ w v0 v1 (.int .i64 W.time) (.int .i64 W.next) v2 v3 37;have fB:=zC (w.alloc (.cells #[v0,v1,.int .i64 W.time,.int .i64 W.next,v2,v3] 37)) (.cells #[.int .i64 rs,.int .i64 rb] 61);have hX:=zc.zRZ (w.alloc (.cells #[v0,v1,.int .i64 W.time,.int .i64 W.next,v2,v3] 37)) (.int .i64 rs) (.int .i64 rb) 61;have gB:=hB.zRX fB;have aB:=zA ha fB;have kC:(w.alloc (.cells #[v0,v1,.int .i64 W.time,.int .i64 W.next,v2,v3] 37)).heap.size=w.heap.size+1:=World.size_alloc _ _;rw[kC]at hX;clear ha fB hB;go_enter Tryz.func72,Tryz.ntmps72;go_wp2_with fail;generalize ((w.alloc (.cells #[v0,v1,.int .i64 W.time,.int .i64 W.next,v2,v3] 37)).alloc (.cells #[.int .i64 rs,.int .i64 rb] 61))=W0 at hX gB aB ⊢;refine(zAr v0 v1 v2 _ lo hi W x W0 (Hp.out.zRX aB)).mono ?_;rintro e w1 ⟨s,b,t,rfl,hF,cB⟩;have hq:=zF6 HP.out hF;have cC:=zB (show qG W.zRd s b by rw[hq.1,hq.2.1];exact HA.out);have HF:=zB (show aA=zR W.zRd s b by rw[rA.out,hq.1,hq.2.1]);clear hq rA HA;have fC:=hX.zRX cB;have bC:=gB.zRX cB;have sB:=zA aB cB;have bB:=zC w1 (.cells #[.int .i64 s,.int .i64 b] 61);have aC:=zB (zc.zRZ w1 (.int .i64 s) (.int .i64 b) 61);have lB:=zB (fC.zRX bB);have jB:=zB (bC.zRX bB);have fA:=zA sB bB;clear hX gB aB cB kC hF fC bC sB bB;obtain⟨⟨y0,y1⟩,⟨y2,y3⟩⟩:=aC.out;obtain⟨⟨z0,z1⟩,⟨z2,z3⟩⟩:=lB.out;obtain⟨⟨x0,x1⟩,⟨x2,x3⟩,⟨x4,x5⟩,⟨x6,x7⟩,⟨x8,x9⟩,⟨iB,pB⟩⟩:=jB.out;go_wp2_with fail;generalize w1.alloc (.cells #[.int .i64 s,.int .i64 b] 61)=w3 at *;refine(yZ v0 v1 lo hi W.zRd s b w3 (Hp.out.zRd.zRX fA) HR.out cC.out).mono ?_;rintro e w4 ⟨vo,rfl,eC,tA⟩;have ho:=(eC.atW (by have:=qN W.zRd s b;omega));have gC:=zB (lB.out.zRX tA);have rB:=zB (jB.out.zRX tA);have jA:=zA fA tA;clear eC tA lB jB aC fA x0 x1 x2 x3 x4 x5 x6 x7 x8 x9 iB pB y0 y1 y2 y3 z0 z1 z2 z3;obtain⟨⟨z0,z1⟩,⟨z2,z3⟩⟩:=gC.out;obtain⟨⟨x0,x1⟩,⟨x2,x3⟩,⟨x4,x5⟩,⟨x6,x7⟩,⟨x8,x9⟩,⟨iB,pB⟩⟩:=rB.out;go_wp2_with fail;refine(yZ v0 v1 lo hi W.zRd rs rb w4 (Hp.out.zRd.zRX jA) HR.out HT.out).mono ?_;rintro e w5 ⟨vn,rfl,jC,dB⟩;have hn:=(jC.atW (by have:=qN W.zRd rs rb;omega));have vA:=ho.zRX dB;have sA:=zA jA dB;clear jC dB gC rB jA ho x0 x1 x2 x3 x4 x5 x6 x7 x8 x9 iB pB z0 z1 z2 z3;have HL:=zB (show dA.length<=73/\aA.length<=73 by rw[gA.out,HF.out];exact⟨qN _ _ _,qN _ _ _⟩);rw[<-gA.out]at hn;rw[<-HF.out]at vA;clear HF cC HT gA HR HP;obtain⟨mo,ao,co,rfl,bD,_⟩:=id vA;have cD:aA.length<=73:=HL.out.2;have Hn:=zB hn;have Ho:=zB vA;have aD:=zB (HD.out.zRX sA);clear hn vA HD;unfold maxLen at mo;obtain⟨i0,lC,nB⟩:=Option.map_eq_some_iff.1 zA3;simp only[Prod.mk.injEq]at nB;have HI:=zB (And.intro lC nB);clear lC nB;have dC:=zB (zC w5 (.cells #[] 61));have iC:=zB (show zw (w5.alloc (.cells #[] 61)) w5.heap.size (.slice (some ⟨w5.heap.size,0,none⟩) 0 0) [] from World.ownsRow_lit (e:=61) (size:=2) w5 #[] 0 (Nat.le_refl _) (by unfold maxLen;omega) rfl);go_wp2
 go_loopw [13,14] (fun vw i wr=>∃k:Nat,k<=aA.length/\i = .int .i64 k/\zw wr w5.heap.size vw (zAQ (aA.take k) dA)/\Below w5.heap.size w5 wr) (fun _ i _=>aA.length - (intOf i).toNat)
 case atStart=>exact⟨0,Nat.zero_le _,rfl,by rw[List.take_zero];exact iC.out,dC.out⟩
 case round=>
  obtain⟨k,hk,rfl,oA,hb⟩:=hrel;have cA:=zB oA;clear oA iC dC;by_cases oB:k<aA.length
  ·have pC:(k:Int)<(aA.length:Int):=(by omega);obtain⟨b1,off,rfl,q0,q1⟩:=(Ho.out.zRX hb).zRb oB;go_wp2_with fail;refine(zDV _ dA.length 0 w5.heap.size (zf dA) (zh dA) (zf aA k) (zh aA k) _ (Hn.out.zRX hb)).mono ?_;rintro e w6 ⟨⟨t6,rfl,pA⟩,iA⟩;have z0:=(iA.cell (p:=⟨b1,off+k*2,none⟩) (zD q0)).trans q0;have z1:=(iA.cell (p:=⟨b1,off+k*2+1,none⟩) (zD q1)).trans q1;have kB:=zA hb iA;have bA:=zB (cA.out.zRX iA);have mB:=zB (pA.trans zBd);clear pA iA q0 q1 cA;cases t6
   ·have eB:=zC w6 (.cells #[.int .i64 (zf aA k),.int .i64 (zh aA k)] 61);have eA:=zB (bA.out.zRX eB);have tB:=zA kB eB;have eD:=kB.size;have dD:(w6.alloc (.cells #[.int .i64 (zf aA k),.int .i64 (zh aA k)] 61)).heap.size=w6.heap.size+1:=World.size_alloc _ _;have HN:=zB (World.news_of_block (heap_alloc_last w6 (.cells #[.int .i64 (zf aA k),.int .i64 (zh aA k)] 61)));have tC:=zL0 aA dA k;clear eB bA;go_wp2_with (first
     | (at_builtin;refine wpList_append_lies _ rfl _ _ 62 rfl w5.heap.size 61 i0 (.agg #[.int .i64 0,.int .i64 0]) 2 16 (by kernel_rfl) HI.out.1 HI.out.2.1 HI.out.2.2.1 HI.out.2.2.2 rfl (by decide) _ _ _ rfl eA.out ⟨w6.heap.size,0,none⟩ 1 1 [.int .i64 (zf aA k),.int .i64 (zh aA k)] rfl rfl HN.out (by simp[Value.oneCell']) (by decide) (by unfold maxLen;omega) (by omega) (by omega) _ rfl ?_;intro g' nC w8 lA kA oC rC)
     | go_in)
    go_roundw
    case rel=>exact⟨k+1,by omega,by go_num,by rw[zH8 oB (fun h=>absurd (mB.out.2 h) (by simp))];exact zw.next lA,tB.grown kA tB.size (fun q hq=>(eA.out.lt hq).1)⟩
    case measure=>simp[intOf];omega
   ·have Hm:=zB (mB.out.1 rfl);clear mB;go_wp2;go_roundw
    case rel=>exact⟨k+1,by omega,by go_num,by rw[zKz oB Hm.out];exact bA.out,kB⟩
    case measure=>simp[intOf];omega
  ·obtain rfl:k=aA.length:=(by omega);have hw:=cA.out;rw[List.take_length]at hw;have fD:(zAQ aA dA).length<=aA.length:=List.length_filter_le _ _;have vC:=hw.atW (by omega);clear hw cA;go_wp2_with fail;refine(zGj vd _ dn mC vB _ 0 wr.heap.size ds db _ _ wr (aD.out.zRX hb) vC).mono ?_;rintro e w6 ⟨⟨t6,rfl,pA⟩,iA⟩;have sC:=zB pA;clear pA;go_wp2;go_ret;exact⟨⟨t6,rfl,sC.out⟩,zA sA (zA hb iA)⟩
def zC2(W:zH)(i:Nat):Prop:=zNe (yT W (zO W i)) (zC5 W (zO W i)) (zN W (zO W i).zRh).time (zO W i).time
theorem zBJ.snap{W:zH}(h:zBJ W){k:Nat}(hk:k<W.pn):qG W.zRd (W.zRe k).rs (W.zRe k).rb:=by
 have:=h.tree k (by unfold zq;omega);rw[qQ hk]at this;exact this
theorem zBJ.set{W:zH}(h:zBJ W){k:Nat}(hk:k<W.sn):qG W.zRd (W.zRg k).rs (W.zRg k).rb:=by
 have:=h.tree (W.pn+k) (by unfold zq;omega);rw[yH]at this;exact this
theorem zLq{v0 v1 v2 v3:Value}{lo hi:Nat}{W:zH}{w:World}(h:zk w lo hi v0 v1 v2 v3 W)(hT:zBJ W)(hP:zCi W){k:Nat}(hk:k<W.pn)(w':World)(hb:Below w.heap.size w w') :
  Calls Tryz.prog 144 #[zz v0 v1 v2 v3 W,.int .i64 (W.zRe k).zRh,.agg #[.int .i64 (W.zRe k).rs,.int .i64 (W.zRe k).rb],.int .i64 (W.zRe k).time] w' fun e aA=>zG (zC2 W k) e/\Below w'.heap.size w' aA:=by
 unfold zC2;rw[qQ hk];exact zE9 v0 v1 v2 v3 lo hi W _ _ _ _ _ _ _ w' (h.zRX hb) hT.right (hT.snap hk) (hT.old _) hP rfl rfl rfl
theorem zM2{v0 v1 v2 v3:Value}{lo hi:Nat}{W:zH}{w:World}(h:zk w lo hi v0 v1 v2 v3 W)(hT:zBJ W)(hP:zCi W){k:Nat}(hk:k<W.sn)(w':World)(hb:Below w.heap.size w w') :
  Calls Tryz.prog 144 #[zz v0 v1 v2 v3 W,.int .i64 (W.zRg k).zRh,.agg #[.int .i64 (W.zRg k).rs,.int .i64 (W.zRg k).rb],.int .i64 W.time] w' fun e aA=>zG (zC2 W (W.pn+k)) e/\Below w'.heap.size w' aA:=by
 unfold zC2;rw[yH];exact zE9 v0 v1 v2 v3 lo hi W _ _ _ _ _ _ _ w' (h.zRX hb) hT.right (hT.set hk) (hT.old _) hP rfl rfl rfl
theorem zME(v0 v1 v2 v3:Value)(lo hi:Nat)(W:zH)(w:World)(h:zk w lo hi v0 v1 v2 v3 W)(hT:zBJ W)(hP:zCi W) :
  Calls Tryz.prog 76 #[zz v0 v1 v2 v3 W] w fun e w'=>zG (∀i,i<zq W->zC2 W i) e/\Below w.heap.size w w':=by
 have Hp:=zB h;have HT:=zB hT;have HP:=zB hP;obtain⟨m1,a,c,rfl,mc,_⟩:=id h.zRe;obtain⟨m2,a',c',rfl,lA,_⟩:=id h.zRg;unfold maxLen at m1 m2;clear h hT hP;have ha:=zC w (.cells #[v0,v1,.int .i64 W.time,.int .i64 W.next,.slice a' W.sn c',.slice a W.pn c] 37);have HB:=zB (zi.zRZ w v0 v1 (.int .i64 W.time) (.int .i64 W.next) (.slice a' W.sn c') (.slice a W.pn c) 37);go_enter Tryz.func76,Tryz.ntmps76;go_wp2
 go_loopw [3] (fun i wr=>∃k:Nat,k<=W.pn/\i = .int .i64 k/\(∀j,j<k->zC2 W j)/\zi wr w.heap.size v0 v1 (.int .i64 W.time) (.int .i64 W.next) (.slice a' W.sn c') (.slice a W.pn c)/\Below w.heap.size w wr) (fun i _=>W.pn - (intOf i).toNat)
 case atStart=>exact⟨0,Nat.zero_le _,rfl,fun j hj=>absurd hj (Nat.not_lt_zero _),HB.out,ha⟩
 case round=>
  obtain⟨k,hk,rfl,cA,hX,hb⟩:=hrel;have bA:=zB cA;have HX:=zB hX;clear cA hX ha HB;obtain⟨⟨x0,x1⟩,⟨x2,x3⟩,⟨x4,x5⟩,⟨x6,x7⟩,⟨x8,x9⟩,⟨kA,gA⟩⟩:=HX.out;by_cases dA:k<W.pn
  ·have iA:(k:Int)<(W.pn:Int):=(by omega);have Hc:=zB (zLq (Hp.out.zRX hb) HT.out HP.out dA);obtain⟨b,off,vd,rfl,hs⟩:=(Hp.out.zRe.zRX hb).cells dA;have q3:=hs.c3;have q4:=hs.c4;have q5:=hs.c5;have q6:=hs.c6;clear hs x1 x3 x5 x7 x9 gA;go_wp2_with fail;go_region_held3 (fun w'=>w'.cell? ⟨w.heap.size,0,none⟩=some v0/\w'.cell? ⟨w.heap.size,1,none⟩=some v1/\w'.cell? ⟨w.heap.size,2,none⟩=some (.int .i64 W.time)/\w'.cell? ⟨w.heap.size,3,none⟩=some (.int .i64 W.next)/\w'.cell? ⟨w.heap.size,4,none⟩=some (.slice a' W.sn c')/\w'.cell? ⟨w.heap.size,5,none⟩=some (.slice (some ⟨b,off,none⟩) W.pn c)/\w'.cell? ⟨b,off+k*8+3,none⟩=some (.int .i64 (W.zRe k).zRh)/\w'.cell? ⟨b,off+k*8+4,none⟩=some (.int .i64 (W.zRe k).time)/\w'.cell? ⟨b,off+k*8+5,none⟩=some (.int .i64 (W.zRe k).rs)/\w'.cell? ⟨b,off+k*8+6,none⟩=some (.int .i64 (W.zRe k).rb)) (go_keep)
    (first | (go_at_call 144;refine(Hc.out _ ?_).mono ?_;(exact(Below.refl _ _).drew);rintro e w6 ⟨⟨t6,rfl,eA⟩,aA⟩;obtain⟨⟨y0,_⟩,⟨y1,_⟩,⟨y2,_⟩,⟨y3,_⟩,⟨y4,_⟩,⟨y5,_⟩⟩:=HX.out.zRX (zK aA);have z3:=(aA.cell (p:=⟨b,off+k*8+3,none⟩) (zD q3)).trans q3;have z4:=(aA.cell (p:=⟨b,off+k*8+4,none⟩) (zD q4)).trans q4;have z5:=(aA.cell (p:=⟨b,off+k*8+5,none⟩) (zD q5)).trans q5;have z6:=(aA.cell (p:=⟨b,off+k*8+6,none⟩) (zD q6)).trans q6))
   have fA:=qd hb aA;have jA:=zB (HX.out.zRX (zK aA));have Ht:=zB eA;clear eA aA z3 z4 z5 z6 y0 y1 y2 y3 y4 y5 q3 q4 q5 q6 HX;cases t6
   ·have Hn:=zB (show ¬zC2 W k from fun hA=>absurd (Ht.out.2 hA) (by simp));clear Ht;go_wp2;go_ret;exact⟨zG.no fun hA=>Hn.out (hA k (by unfold zq;omega)),fA⟩
   ·have Hn:=zB (Ht.out.1 rfl);clear Ht;go_wp2;go_roundw
    case rel=>exact⟨k+1,by omega,by go_num,zo dA bA.out Hn.out,jA.out,fA⟩
    case measure=>simp[intOf];omega
  ·obtain rfl:k=W.pn:=(by omega);go_wp2
   go_loopw [4] (fun i wr=>∃k:Nat,k<=W.sn/\i = .int .i64 k/\(∀j,j<W.pn+k->zC2 W j)/\zi wr w.heap.size v0 v1 (.int .i64 W.time) (.int .i64 W.next) (.slice a' W.sn c') (.slice a W.pn c)/\Below w.heap.size w wr) (fun i _=>W.sn - (intOf i).toNat)
   case atStart=>exact⟨0,Nat.zero_le _,rfl,bA.out,HX.out,hb⟩
   case round=>
    clear x0 x1 x2 x3 x4 x5 x6 x7 x8 x9 kA gA HX hb bA;obtain⟨k,hk,rfl,cA,hX,hb⟩:=hrel;have bA:=zB cA;have HX:=zB hX;clear cA hX;obtain⟨⟨x0,x1⟩,⟨x2,x3⟩,⟨x4,x5⟩,⟨x6,x7⟩,⟨x8,x9⟩,⟨kA,gA⟩⟩:=HX.out;by_cases dA:k<W.sn
    ·have iA:(k:Int)<(W.sn:Int):=(by omega);have Hc:=zB (zM2 (Hp.out.zRX hb) HT.out HP.out dA);obtain⟨b,off,vd,rfl,hs⟩:=(Hp.out.zRg.zRX hb).cells dA;have q3:=hs.c2;have q5:=hs.c3;have q6:=hs.c4;clear hs x1 x3 x5 x7 x9 gA;go_wp2_with fail;go_region_held3 (fun w'=>w'.cell? ⟨w.heap.size,0,none⟩=some v0/\w'.cell? ⟨w.heap.size,1,none⟩=some v1/\w'.cell? ⟨w.heap.size,2,none⟩=some (.int .i64 W.time)/\w'.cell? ⟨w.heap.size,3,none⟩=some (.int .i64 W.next)/\w'.cell? ⟨w.heap.size,4,none⟩=some (.slice (some ⟨b,off,none⟩) W.sn c')/\w'.cell? ⟨w.heap.size,5,none⟩=some (.slice a W.pn c)/\w'.cell? ⟨b,off+k*6+2,none⟩=some (.int .i64 (W.zRg k).zRh)/\w'.cell? ⟨b,off+k*6+3,none⟩=some (.int .i64 (W.zRg k).rs)/\w'.cell? ⟨b,off+k*6+4,none⟩=some (.int .i64 (W.zRg k).rb)) (go_keep)
      (first | (go_at_call 144;refine(Hc.out _ ?_).mono ?_;(exact(Below.refl _ _).drew);rintro e w6 ⟨⟨t6,rfl,eA⟩,aA⟩;obtain⟨⟨y0,_⟩,⟨y1,_⟩,⟨y2,_⟩,⟨y3,_⟩,⟨y4,_⟩,⟨y5,_⟩⟩:=HX.out.zRX (zK aA);have z3:=(aA.cell (p:=⟨b,off+k*6+2,none⟩) (zD q3)).trans q3;have z5:=(aA.cell (p:=⟨b,off+k*6+3,none⟩) (zD q5)).trans q5;have z6:=(aA.cell (p:=⟨b,off+k*6+4,none⟩) (zD q6)).trans q6))
     have fA:=qd hb aA;have jA:=zB (HX.out.zRX (zK aA));have Ht:=zB eA;clear eA aA z3 z5 z6 y0 y1 y2 y3 y4 y5 q3 q5 q6 HX;cases t6
     ·have Hn:=zB (show ¬zC2 W (W.pn+k)from fun hA=>absurd (Ht.out.2 hA) (by simp));clear Ht;go_wp2;go_ret;exact⟨zG.no fun hA=>Hn.out (hA _ (by unfold zq;omega)),fA⟩
     ·have Hn:=zB (Ht.out.1 rfl);clear Ht;go_wp2;go_roundw
      case rel=>
       refine⟨k+1,by omega,by go_num,fun j hj=>?_,jA.out,fA⟩;by_cases e:j=W.pn+k
       ·subst e;exact Hn.out
       ·exact bA.out j (by omega)
      case measure=>simp[intOf];omega
    ·obtain rfl:k=W.sn:=(by omega);go_wp2;go_ret;exact⟨zG.yes bA.out,hb⟩
def yV(w:World)(R n:Nat)(f:Nat->Bool):Prop:=∀i,i<n->zW w R i (.bool (f i))
theorem yV.zRX{w w':World}{R n:Nat}{f:Nat->Bool}(h:yV w R n f)(t:Below w.heap.size w w'):yV w' R n f:=fun i hi=>(h i hi).zRX t
theorem yV.put{w:World}{R n:Nat}{f:Nat->Bool}(h:yV w R n f){k:Nat}(c:Bool):yV (w.setCell ⟨R,k,none⟩ (.bool c)) R n (fun i=>if i=k then c else f i):=fun i hi=>by
 by_cases e:i=k
 ·subst e;show zW _ R i (.bool (if i=i then c else f i));rw[if_pos rfl];exact(h i hi).set _
 ·show zW _ R i (.bool (if i=k then c else f i));rw[if_neg e];exact(h i hi).zRY _ (Or.inr (fun h=>e h.symm))
theorem zQG(z:Value)(n:Nat){i:Nat}(hi:i<n):(madeCells #[z] n)[i]?=some z:=by
 simp[madeCells,hi,Nat.mod_one]
theorem yV.zRZ(w:World)(n:Nat)(t:TypeId):yV (w.alloc (.cells (madeCells #[.bool false] n) t)) w.heap.size n (fun _=>false):=fun i hi=>by
 have hb:(w.alloc (.cells (madeCells #[Value.bool false] n) t)).heap[w.heap.size]?=some (.cells (madeCells #[.bool false] n) t):=heap_alloc_new _ _;exact zJ hb (zQG _ _ hi)
theorem zOw:(Tryz.prog.info? 4).map (fun i=>(i.zero,i.size,i.bytes))=some (some (.bool false),1,1):=by kernel_rfl
theorem zEL(n:Nat)(hn:n<=1000)(w:World):(Instr.makeSlice 123 (.int .i64 (n:Int)) (.int .i64 (n:Int))).run Tryz.prog w = .ok (.slice (some ⟨w.heap.size,0,none⟩) n n) (w.alloc (.cells (madeCells #[.bool false] n) 4)):=
 run_make_row' 123 4 (.bool false) 1 (by kernel_rfl) zOw rfl .i64 .i64 n (by omega) (by omega) w
def zFX(W:zH)(s:Nat):Prop:=∃m,m<zq W/\∃b,((s:Int),b)∈yT W (zO W m)
def zBX(W:zH)(i:Nat):Int×Int:=if i<W.sn then((W.zRg i).rs,(W.zRg i).rb)else((W.zRe (i - W.sn)).rs,(W.zRe (i - W.sn)).rb)
def zCF(W:zH)(n:Nat):List (Int×Int):=(List.range n).map (zBX W)
theorem zBn(W:zH)(n:Nat):(zCF W n).length=n:=by simp[zCF]
theorem zGy(W:zH)(n:Nat):zCF W (n+1)=zCF W n ++ [zBX W n]:=by simp[zCF,List.range_succ]
theorem zEr{W:zH}{i:Nat}(h:i<W.sn):zBX W i=((W.zRg i).rs,(W.zRg i).rb):=if_pos h
theorem zDu(W:zH)(i:Nat):zBX W (W.sn+i)=((W.zRe i).rs,(W.zRe i).rb):=by
 unfold zBX;rw[if_neg (by omega),show W.sn+i - W.sn=i by omega]
theorem zON{W:zH}{n i:Nat}(h:i<n):zf (zCF W n) i=(zBX W i).1/\zh (zCF W n) i=(zBX W i).2:=by
 unfold zf zh;rw[yC (by rw[zBn];exact h)];simp[zCF]
theorem zPz{W:zH}(hT:zBJ W){i:Nat}(hi:i<W.sn+W.pn):qG W.zRd (zBX W i).1 (zBX W i).2:=by
 by_cases h:i<W.sn
 ·rw[zEr h];exact hT.set h
 ·have:=zDu W (i - W.sn);rw[show W.sn+(i - W.sn)=i by omega]at this;rw[this];exact hT.snap (by omega)
theorem zNE{W:zH}{s:Nat}:zFX W s↔∃i,i<W.sn+W.pn/\∃b,((s:Int),b)∈zR W.zRd (zBX W i).1 (zBX W i).2:=by
 unfold zFX zq yT;constructor
 ·rintro⟨m,hm,b,h⟩;by_cases hp:m<W.pn
  ·rw[qQ hp]at h;exact⟨W.sn+m,by omega,b,by rw[zDu];exact h⟩
  ·have e:=yH W (m - W.pn);rw[show W.pn+(m - W.pn)=m by omega]at e;rw[e]at h;exact⟨m - W.pn,by omega,b,by rw[zEr (by omega)];exact h⟩
 ·rintro⟨i,hi,b,h⟩;by_cases hs:i<W.sn
  ·rw[zEr hs]at h;exact⟨W.pn+i,by omega,b,by rw[yH];exact h⟩
  ·have e:=zDu W (i - W.sn);rw[show W.sn+(i - W.sn)=i by omega]at e;rw[e]at h;exact⟨i - W.sn,by omega,b,by rw[qQ (by omega)];exact h⟩
def zRK(W:zH)(k:Nat)(l:List (Int×Int))(j s:Nat):Prop:=(∃i,i<k/\∃b,((s:Int),b)∈zR W.zRd (zBX W i).1 (zBX W i).2)\/∃q,q<j/\zf l q=(s:Int)
def zES(W:zH)(k:Nat)(l:List (Int×Int))(j:Nat)(f:Nat->Bool):Prop:=∀s,f s=true↔zRK W k l j s
theorem zNO{W:zH}{k j s:Nat}{l:List (Int×Int)}{f:Nat->Bool}(h:zES W k l j f)(hs:zf l j=(s:Int)):zES W k l (j+1) (fun i=>if i=s then true else f i):=by
 intro i;show(if i=s then true else f i)=true↔_;by_cases e:i=s
 ·subst e;rw[if_pos rfl];exact⟨fun _=>Or.inr ⟨j,by omega,hs⟩,fun _=>rfl⟩
 ·rw[if_neg e,h i];constructor
  ·rintro(h | ⟨q,hq,h⟩)
   ·exact Or.inl h
   ·exact Or.inr ⟨q,by omega,h⟩
  ·rintro(h | ⟨q,hq,h⟩)
   ·exact Or.inl h
   ·by_cases eq:q=j
    ·subst eq;exact absurd (by omega) e
    ·exact Or.inr ⟨q,by omega,h⟩
theorem zMU{W:zH}{k:Nat}{l:List (Int×Int)}{f:Nat->Bool}(h:zES W k l l.length f)(hl:l=zR W.zRd (zBX W k).1 (zBX W k).2):zES W (k+1) [] 0 f:=by
 intro s;rw[h s];constructor
 ·rintro(⟨i,hi,h⟩ | ⟨q,hq,e⟩)
  ·exact Or.inl ⟨i,by omega,h⟩
  ·refine Or.inl ⟨k,by omega,(l[q]).2,?_⟩;unfold zf at e;rw[yC hq]at e;rw[<-hl,<-e];exact List.getElem_mem hq
 ·rintro(⟨i,hi,b,h2⟩ | ⟨q,hq,e⟩)
  ·by_cases e:i=k
   ·subst e;rw[<-hl]at h2;obtain⟨q,hq,e⟩:=List.getElem_of_mem h2;exact Or.inr ⟨q,hq,by unfold zf;rw[yC hq,e]⟩
   ·exact Or.inl ⟨i,by omega,b,h2⟩
  ·omega
theorem zL3{W:zH}{k:Nat}{f:Nat->Bool}(h:zES W k [] 0 f)(l:List (Int×Int)):zES W k l 0 f:=by
 intro s;rw[h s];constructor
 ·rintro(h | ⟨q,hq,_⟩)
  ·exact Or.inl h
  ·omega
 ·rintro(h | ⟨q,hq,_⟩)
  ·exact Or.inl h
  ·omega
theorem zHq{p:zI}{rs rb:Int}(hR:zx p)(hT:qG p rs rb){j:Nat}(hj:j<(zR p rs rb).length):∃s:Nat,zf (zR p rs rb) j=(s:Int)/\s<p.n:=by
 unfold zf;rw[yC hj];have:=(zAb hR hT (List.getElem_mem hj)).1;obtain⟨_,h0,h1,_⟩:=this;exact⟨((zR p rs rb)[j]).1.toNat,by omega,by omega⟩
theorem zi.grown{w w1:World}{b:Nat}{v0 v1 v2 v3 v4 v5:Value}{row:Option Nat}(h:zi w b v0 v1 v2 v3 v4 v5)(hg:w.grownBy w1 row)(aA:∀q,row=some q->b≠q):zi w1 b v0 v1 v2 v3 v4 v5:=by
 have hb:b<w.heap.size:=h.1.lt;refine h.zRf (S:=fun k=>row=some k) ⟨hg.os,hg.tape,hg.output,hg.size,fun k hk hs=>hg.block k hk (fun e=>hs e.symm)⟩ (fun e=>aA b e rfl)
theorem yV.grown{w w1:World}{R n:Nat}{f:Nat->Bool}{row:Option Nat}(h:yV w R n f)(hg:w.grownBy w1 row)(aA:∀q,row=some q->R≠q):yV w1 R n f:=fun i hi=>
 (h i hi).zRf (S:=fun k=>row=some k) ⟨hg.os,hg.tape,hg.output,hg.size,fun k hk hs=>hg.block k hk (fun e=>hs e.symm)⟩ (fun e=>aA R e rfl)
theorem zKa(v0 v1 v2 v3:Value)(lo hi:Nat)(W:zH)(w:World)(h:zk w lo hi v0 v1 v2 v3 W)(hT:zBJ W)(hs:W.sn<=8)(hp:W.pn<=20) :
  Calls Tryz.prog 73 #[zz v0 v1 v2 v3 W] w fun e w'=>∃R f,e = .returned (.slice (some ⟨R,0,none⟩) W.zRd.n W.zRd.n)/\w.heap.size<=R/\yV w' R W.zRd.n f/\(∀s,f s=true↔zFX W s)/\Below w.heap.size w w':=by
 have Hp:=zB h;have HT:=zB hT;obtain⟨m1,a,c,rfl,mc,_⟩:=id h.zRe;obtain⟨m2,a',c',rfl,vC,_⟩:=id h.zRg;obtain⟨m0,a0,c0,rfl,bD,_⟩:=id h.zRd.1;unfold maxLen at m0 m1 m2;have tC:W.zRd.n<=200:=hT.right.1;clear h hT;obtain⟨i0,bC,mB⟩:=Option.map_eq_some_iff.1 zA3;simp only[Prod.mk.injEq]at mB;have HI:=zB (And.intro bC mB);clear bC mB;have sC:=zEL W.zRd.n (by omega);have ha:=zC w (.cells #[.slice a0 W.zRd.n c0,v1,.int .i64 W.time,.int .i64 W.next,.slice a' W.sn c',.slice a W.pn c] 37);have iB:(w.alloc (.cells #[.slice a0 W.zRd.n c0,v1,.int .i64 W.time,.int .i64 W.next,.slice a' W.sn c',.slice a W.pn c] 37)).heap.size=w.heap.size+1:=World.size_alloc _ _;have vB:∀W1:World,W1=w.alloc (.cells #[.slice a0 W.zRd.n c0,v1,.int .i64 W.time,.int .i64 W.next,.slice a' W.sn c',.slice a W.pn c] 37)->zi ((W1.alloc (.cells (madeCells #[.bool false] W.zRd.n) 4)).alloc (.cells #[] 61)) w.heap.size (.slice a0 W.zRd.n c0) v1 (.int .i64 W.time) (.int .i64 W.next) (.slice a' W.sn c') (.slice a W.pn c)/\yV ((W1.alloc (.cells (madeCells #[.bool false] W.zRd.n) 4)).alloc (.cells #[] 61)) (w.heap.size+1) W.zRd.n (fun _=>false)/\zw ((W1.alloc (.cells (madeCells #[.bool false] W.zRd.n) 4)).alloc (.cells #[] 61)) (w.heap.size+2) (.slice (some ⟨w.heap.size+1+1,0,none⟩) 0 0) []/\Below w.heap.size w ((W1.alloc (.cells (madeCells #[.bool false] W.zRd.n) 4)).alloc (.cells #[] 61)):=by
  rintro W1 rfl;have hB:=zi.zRZ w (.slice a0 W.zRd.n c0) v1 (.int .i64 W.time) (.int .i64 W.next) (.slice a' W.sn c') (.slice a W.pn c) 37;have hR:=yV.zRZ (w.alloc (.cells #[.slice a0 W.zRd.n c0,v1,.int .i64 W.time,.int .i64 W.next,.slice a' W.sn c',.slice a W.pn c] 37)) W.zRd.n 4;rw[iB]at hR;generalize w.alloc (.cells #[.slice a0 W.zRd.n c0,v1,.int .i64 W.time,.int .i64 W.next,.slice a' W.sn c',.slice a W.pn c] 37)=W1 at *;have b2:=zC W1 (.cells (madeCells #[.bool false] W.zRd.n) 4);have dB:(W1.alloc (.cells (madeCells #[.bool false] W.zRd.n) 4)).heap.size=w.heap.size+1+1:=(by rw[World.size_alloc,iB]);have iC:=hB.zRX b2;have fC:=zA ha b2;generalize W1.alloc (.cells (madeCells #[.bool false] W.zRd.n) 4)=W2 at *;have b3:=zC W2 (.cells #[] 61);have l3:=World.ownsRow_lit (e:=61) (size:=2) (base:=w.heap.size+2) W2 #[] 0 (by rw[dB];omega) (by unfold maxLen;omega) rfl;rw[dB]at l3;exact⟨iC.zRX b3,hR.zRX b3,l3,zA fC b3⟩
 have pB:=zB (vB _ rfl);clear vB;go_enter Tryz.func73,Tryz.ntmps73;obtain⟨⟨x0,x1⟩,⟨x2,x3⟩,⟨x4,x5⟩,⟨x6,x7⟩,⟨x8,x9⟩,⟨kA,pA⟩⟩:=zi.zRZ w (.slice a0 W.zRd.n c0) v1 (.int .i64 W.time) (.int .i64 W.next) (.slice a' W.sn c') (.slice a W.pn c) 37;go_wp2;clear x0 x1 x2 x3 x4 x5 x6 x7 x8 x9 kA pA ha
 go_loopw [4,5] (fun vr i wr=>∃k:Nat,k<=W.sn/\i = .int .i64 k/\zw wr (w.heap.size+2) vr (zCF W k)/\zi wr w.heap.size (.slice a0 W.zRd.n c0) v1 (.int .i64 W.time) (.int .i64 W.next) (.slice a' W.sn c') (.slice a W.pn c)/\yV wr (w.heap.size+1) W.zRd.n (fun _=>false)/\Below w.heap.size w wr) (fun _ i _=>W.sn - (intOf i).toNat)
 case atStart=>
  obtain⟨s1,s2,s3,s4⟩:=pB.out;exact⟨0,Nat.zero_le _,rfl,s3,s1,s2,s4⟩
 case round=>
  clear pB iB;obtain⟨k,hk,rfl,dA,hX,hR,hb⟩:=hrel;have aA:=zB dA;have HX:=zB hX;have eA:=zB hR;clear dA hX hR;obtain⟨⟨x0,x1⟩,⟨x2,x3⟩,⟨x4,x5⟩,⟨x6,x7⟩,⟨x8,x9⟩,⟨kA,pA⟩⟩:=HX.out;by_cases mA:k<W.sn
  ·have bB:(k:Int)<(W.sn:Int):=(by omega);obtain⟨b,off,vd,rfl,jA⟩:=(Hp.out.zRg.zRX hb).cells mA;have q3:=jA.c3;have q4:=jA.c4;clear jA;have gA:=zC wr (.cells #[.int .i64 (W.zRg k).rs,.int .i64 (W.zRg k).rb] 61);have cA:=zB (aA.out.zRX gA);have sA:=zB (HX.out.zRX gA);have rA:=zB (eA.out.zRX gA);have vA:=zA hb gA;have dB:=zD kA;have nC:=(eA.out);have jC:(wr.alloc (.cells #[.int .i64 (W.zRg k).rs,.int .i64 (W.zRg k).rb] 61)).heap.size=wr.heap.size+1:=World.size_alloc _ _;have HN:=zB (World.news_of_block (heap_alloc_last wr (.cells #[.int .i64 (W.zRg k).rs,.int .i64 (W.zRg k).rb] 61)));have oA:=zBn W k;clear gA aA HX eA nC;go_wp2_with (first
    | (at_builtin;refine wpList_append_lies _ rfl _ _ 62 rfl (w.heap.size+2) 61 i0 (.agg #[.int .i64 0,.int .i64 0]) 2 16 (by kernel_rfl) HI.out.1 HI.out.2.1 HI.out.2.2.1 HI.out.2.2.2 rfl (by decide) _ _ _ rfl cA.out ⟨wr.heap.size,0,none⟩ 1 1 [.int .i64 (W.zRg k).rs,.int .i64 (W.zRg k).rb] rfl rfl HN.out (by simp[Value.oneCell']) (by decide) (by unfold maxLen;omega) (by omega) (by omega) _ rfl ?_;intro g' eB w8 iA bA jB lB)
    | go_in)
   go_roundw
   case rel=>
    have nA:∀q,Value.ownBlock _=some q->w.heap.size+2<=q:=fun q hq=>(cA.out.lt hq).1
    refine⟨k+1,by omega,by go_num,?_,sA.out.grown bA (fun q hq=>by have:=nA q hq;omega),rA.out.grown bA (fun q hq=>by have:=nA q hq;omega),vA.grown bA vA.size (fun q hq=>by have:=nA q hq;omega)⟩;rw[zGy,zEr mA];have tA:=zw.next iA;rw[oA]at tA;exact tA
   case measure=>simp[intOf];omega
  ·obtain rfl:k=W.sn:=(by omega);go_wp2
   go_loopw [4,6] (fun vr i wr=>∃k:Nat,k<=W.pn/\i = .int .i64 k/\zw wr (w.heap.size+2) vr (zCF W (W.sn+k))/\zi wr w.heap.size (.slice a0 W.zRd.n c0) v1 (.int .i64 W.time) (.int .i64 W.next) (.slice a' W.sn c') (.slice a W.pn c)/\yV wr (w.heap.size+1) W.zRd.n (fun _=>false)/\Below w.heap.size w wr) (fun _ i _=>W.pn - (intOf i).toNat)
   case atStart=>exact⟨0,Nat.zero_le _,rfl,aA.out,HX.out,eA.out,hb⟩
   case round=>
    clear x0 x1 x2 x3 x4 x5 x6 x7 x8 x9 kA pA HX hb aA eA;obtain⟨k,hk,rfl,dA,hX,hR,hb⟩:=hrel;have aA:=zB dA;have HX:=zB hX;have eA:=zB hR;clear dA hX hR;obtain⟨⟨x0,x1⟩,⟨x2,x3⟩,⟨x4,x5⟩,⟨x6,x7⟩,⟨x8,x9⟩,⟨kA,pA⟩⟩:=HX.out;by_cases mA:k<W.pn
    ·have bB:(k:Int)<(W.pn:Int):=(by omega);obtain⟨b,off,vd,rfl,jA⟩:=(Hp.out.zRe.zRX hb).cells mA;have q3:=jA.c5;have q4:=jA.c6;clear jA;have gA:=zC wr (.cells #[.int .i64 (W.zRe k).rs,.int .i64 (W.zRe k).rb] 61);have cA:=zB (aA.out.zRX gA);have sA:=zB (HX.out.zRX gA);have rA:=zB (eA.out.zRX gA);have vA:=zA hb gA;have dB:=zD kA;have jC:(wr.alloc (.cells #[.int .i64 (W.zRe k).rs,.int .i64 (W.zRe k).rb] 61)).heap.size=wr.heap.size+1:=World.size_alloc _ _;have HN:=zB (World.news_of_block (heap_alloc_last wr (.cells #[.int .i64 (W.zRe k).rs,.int .i64 (W.zRe k).rb] 61)));have oA:=zBn W (W.sn+k);clear gA aA HX eA;go_wp2_with (first
      | (at_builtin;refine wpList_append_lies _ rfl _ _ 62 rfl (w.heap.size+2) 61 i0 (.agg #[.int .i64 0,.int .i64 0]) 2 16 (by kernel_rfl) HI.out.1 HI.out.2.1 HI.out.2.2.1 HI.out.2.2.2 rfl (by decide) _ _ _ rfl cA.out ⟨wr.heap.size,0,none⟩ 1 1 [.int .i64 (W.zRe k).rs,.int .i64 (W.zRe k).rb] rfl rfl HN.out (by simp[Value.oneCell']) (by decide) (by unfold maxLen;omega) (by omega) (by omega) _ rfl ?_;intro g' eB w8 iA bA jB lB)
      | go_in)
     go_roundw
     case rel=>
      have nA:∀q,Value.ownBlock _=some q->w.heap.size+2<=q:=fun q hq=>(cA.out.lt hq).1
      refine⟨k+1,by omega,by go_num,?_,sA.out.grown bA (fun q hq=>by have:=nA q hq;omega),rA.out.grown bA (fun q hq=>by have:=nA q hq;omega),vA.grown bA vA.size (fun q hq=>by have:=nA q hq;omega)⟩;rw[show W.sn+(k+1)=W.sn+k+1 from rfl,zGy,zDu];have tA:=zw.next iA;rw[oA]at tA;exact tA
     case measure=>simp[intOf];omega
    ·obtain rfl:k=W.pn:=(by omega);go_wp2;obtain⟨ar,cr,rfl,rC⟩:=zY aA.out;rw[zBn]at *;clear x0 x1 x2 x3 x4 x5 x6 x7 x8 x9 kA pA
     go_loopw [7] (fun i wr=>∃k:Nat,∃f,k<=W.sn+W.pn/\i = .int .i64 k/\zw wr (w.heap.size+2) (.slice ar (W.sn+W.pn) cr) (zCF W (W.sn+W.pn))/\zi wr w.heap.size (.slice a0 W.zRd.n c0) v1 (.int .i64 W.time) (.int .i64 W.next) (.slice a' W.sn c') (.slice a W.pn c)/\yV wr (w.heap.size+1) W.zRd.n f/\zES W k [] 0 f/\Below w.heap.size w wr) (fun i _=>W.sn+W.pn - (intOf i).toNat)
     case atStart=>exact⟨0,fun _=>false,Nat.zero_le _,rfl,aA.out,HX.out,eA.out,fun s=>⟨fun h=>absurd h (by simp),fun h=>by rcases h with⟨i,hi,_⟩ | ⟨q,hq,_⟩<;>omega⟩,hb⟩
     case round=>
      clear HX hb aA eA;obtain⟨k,f,hk,rfl,dA,hX,hR,hm,hb⟩:=hrel;have aA:=zB dA;have HX:=zB hX;have eA:=zB hR;have Hm:=zB hm;clear dA hX hR hm;by_cases mA:k<W.sn+W.pn
      ·have bB:(k:Int)<(W.sn+W.pn:Int):=(by omega);have cC:=zPz HT.out mA;have oB:=zON (W:=W) mA;have fA:=(aA.out.atW (by rw[zBn];omega));rw[zBn]at fA;obtain⟨b,off,rfl,q0,q1⟩:=fA.zRb mA;rw[oB.1]at q0;rw[oB.2]at q1;have gB:=zB cC;clear cC oB;generalize rB:(zBX W k).1=rs at *;generalize aC:(zBX W k).2=rb at *;have fB:=zB (And.intro rB aC);clear rB aC fA;obtain⟨⟨x0,x1⟩,⟨x2,x3⟩,⟨x4,x5⟩,⟨x6,x7⟩,⟨x8,x9⟩,⟨kA,pA⟩⟩:=HX.out;clear x1 x3 x4 x5 x6 x7 x8 x9 kA pA;go_wp2_with fail;go_region_held3 (fun w'=>w'.cell? ⟨w.heap.size,0,none⟩=some (.slice a0 W.zRd.n c0)/\w'.cell? ⟨w.heap.size,1,none⟩=some v1/\w'.cell? ⟨b,off+k*2,none⟩=some (.int .i64 rs)/\w'.cell? ⟨b,off+k*2+1,none⟩=some (.int .i64 rb)) (go_keep)
        (first | (go_at_call 141;refine(yZ _ v1 lo hi W.zRd rs rb _ ?_ HT.out.right gB.out).mono ?_;(exact(Hp.out.zRd.zRX hb).zRX (Below.refl _ _).drew);rintro e w6 ⟨vl,rfl,dC,lA⟩;obtain⟨⟨y0,_⟩,⟨y1,_⟩,_⟩:=HX.out.zRX (zK lA);have z0:=(lA.cell (p:=⟨b,off+k*2,none⟩) (zD q0)).trans q0;have z1:=(lA.cell (p:=⟨b,off+k*2+1,none⟩) (zD q1)).trans q1))
       have aB:=qd hb lA;have sA:=zB (HX.out.zRX (zK lA));have rA:=zB (eA.out.zRX (zK lA));have cA:=zB (aA.out.zRX (zK lA));have kB:0<W.zRd.n->w.heap.size+1<wr.heap.size:=fun h0=>(eA.out 0 h0).lt
       have Hl:=zB dC;clear lA dC z0 z1 y0 y1 q0 q1 x0 x2 HX eA aA;have eC:wr.drew.heap.size=wr.heap.size:=rfl;rw[eC]at Hl;obtain⟨al,cl,rfl,pC⟩:=zY Hl.out;have aD:=qN W.zRd rs rb;have mC:=zB (fun j (hj:j<(zR W.zRd rs rb).length)=>zHq HT.out.right gB.out hj);have HE:=zB (show zR W.zRd rs rb=zR W.zRd (zBX W k).1 (zBX W k).2 by rw[fB.out.1,fB.out.2]);generalize zR W.zRd rs rb=l at *;clear fB gB eC;go_wp2
       go_loopw [9] (fun i cB=>∃j:Nat,∃f,j<=l.length/\i = .int .i64 j/\zw cB wr.heap.size (.slice al l.length cl) l/\zw cB (w.heap.size+2) (.slice (some ⟨b,off,none⟩) (W.sn+W.pn) cr) (zCF W (W.sn+W.pn))/\zi cB w.heap.size (.slice a0 W.zRd.n c0) v1 (.int .i64 W.time) (.int .i64 W.next) (.slice a' W.sn c') (.slice a W.pn c)/\yV cB (w.heap.size+1) W.zRd.n f/\zES W k l j f/\Below w.heap.size w cB) (fun i _=>l.length - (intOf i).toNat)
       case atStart=>exact⟨0,f,Nat.zero_le _,rfl,Hl.out,cA.out,sA.out,rA.out,zL3 Hm.out l,aB⟩
       case round=>
        clear sA rA cA Hl aB Hm f;obtain⟨j,f,hj,rfl,tB,dA,hX,hR,hm,aB⟩:=hrel;have Hl:=zB tB;have aA:=zB dA;have HX:=zB hX;have eA:=zB hR;have Hm:=zB hm;clear dA hX hR hm tB;by_cases sB:j<l.length
        ·have lC:(j:Int)<(l.length:Int):=(by omega);obtain⟨b2,gC,rfl,q0,q1⟩:=(Hl.out.atW (by omega)).zRb sB;obtain⟨s,nB,jA⟩:=mC.out j sB;have oC:(s:Int)<(W.zRd.n:Int):=(by omega);rw[nB]at q0;obtain⟨y0,y1⟩:=eA.out s jA;have kC:=zB nB;clear nB q1;go_wp2;go_roundw
         case rel=>exact⟨j+1,_,by omega,by go_num,Hl.out.put (kB (by omega)) _,aA.out.put (by omega) _,HX.out.zRf (zF.put _ (w.heap.size+1) s _) (by omega),eA.out.put true,zNO Hm.out kC.out,aB.setCell (show w.heap.size<=w.heap.size+1 by omega) _⟩
         case measure=>simp[intOf];omega
        ·obtain rfl:j=l.length:=(by omega);go_wp2;go_roundw
         case rel=>exact⟨k+1,f,by omega,by go_num,aA.out,HX.out,eA.out,zMU Hm.out HE.out,aB⟩
         case measure=>simp[intOf];omega
      ·obtain rfl:k=W.sn+W.pn:=(by omega);go_wp2;go_ret;refine⟨_,f,rfl,by omega,eA.out,fun s=>?_,hb⟩;rw[Hm.out s,zNE];constructor
       ·rintro(h | ⟨q,hq,_⟩)
        ·exact h
        ·omega
       ·exact Or.inl
def zKA(W:zH)(k:Nat):Prop:=∀i,i<k->∀j,j<i->∀x,x∈zFM W (zO W i)->∀y,y∈zFM W (zO W j)->x.1≠y.1
def zCk(W:zH)(k:Nat)(now old:List (Int×Int))(j:Nat):Prop:=∀q,q<j->(zf now q,zh now q)∉old->∀i,i<k->∀y,y∈zFM W (zO W i)->zf now q≠y.1
def zRF(W:zH)(k:Nat)(now old:List (Int×Int))(j s:Nat):Prop:=(∃i,i<k/\∃b,((s:Int),b)∈zFM W (zO W i))\/∃q,q<j/\zf now q=(s:Int)/\(zf now q,zh now q)∉old
def zBm(W:zH)(k:Nat)(now old:List (Int×Int))(j:Nat)(f:Nat->Bool):Prop:=∀s,f s=true↔zRF W k now old j s
theorem zIj{W:zH}{k:Nat}{aA bA:List (Int×Int)}(h:zKA W k)(hn:aA=yT W (zO W k))(ho:bA=zC5 W (zO W k))(hr:zCk W k aA bA aA.length):zKA W (k+1):=by
 intro i hi j hj x hx y hy;by_cases e:i=k
 ·subst e;obtain⟨h1,h2⟩:=List.mem_filter.1 hx;rw[<-hn]at h1;rw[<-ho]at h2;obtain⟨q,hq,e⟩:=List.getElem_of_mem h1;have:=hr q hq;unfold zf zh at this;rw[yC hq,e]at this;exact this (by simpa using h2) j hj y hy
 ·exact h i (by omega) j hj x hx y hy
theorem zJL{W:zH}{k j:Nat}{aA bA:List (Int×Int)}{f:Nat->Bool}(h:zBm W k aA bA j f)(cA:(zf aA j,zh aA j)∈bA):zBm W k aA bA (j+1) f:=by
 intro s;rw[h s];constructor
 ·rintro(h | ⟨q,hq,h⟩)
  ·exact Or.inl h
  ·exact Or.inr ⟨q,by omega,h⟩
 ·rintro(h | ⟨q,hq,h1,h2⟩)
  ·exact Or.inl h
  ·by_cases e:q=j
   ·subst e;exact absurd cA h2
   ·exact Or.inr ⟨q,by omega,h1,h2⟩
theorem zJd{W:zH}{k j s:Nat}{aA bA:List (Int×Int)}{f:Nat->Bool}(h:zBm W k aA bA j f)(hs:zf aA j=(s:Int))(cA:(zf aA j,zh aA j)∉bA):zBm W k aA bA (j+1) (fun i=>if i=s then true else f i):=by
 intro i;show(if i=s then true else f i)=true↔_;by_cases e:i=s
 ·subst e;rw[if_pos rfl];exact⟨fun _=>Or.inr ⟨j,by omega,hs,cA⟩,fun _=>rfl⟩
 ·rw[if_neg e,h i];constructor
  ·rintro(h | ⟨q,hq,h⟩)
   ·exact Or.inl h
   ·exact Or.inr ⟨q,by omega,h⟩
  ·rintro(h | ⟨q,hq,h,h2⟩)
   ·exact Or.inl h
   ·by_cases eq:q=j
    ·subst eq;exact absurd (by omega) e
    ·exact Or.inr ⟨q,by omega,h,h2⟩
theorem zLU{W:zH}{k j:Nat}{aA bA:List (Int×Int)}(h:zCk W k aA bA j)(cA:(zf aA j,zh aA j)∈bA):zCk W k aA bA (j+1):=by
 intro q hq;by_cases e:q=j
 ·subst e;exact fun h=>absurd cA h
 ·exact h q (by omega)
theorem zLM{W:zH}{k j s:Nat}{aA bA:List (Int×Int)}{f:Nat->Bool}(h:zCk W k aA bA j)(hS:zBm W k aA bA j f)(hs:zf aA j=(s:Int))(hf:f s=false):zCk W k aA bA (j+1):=by
 intro q hq;by_cases e:q=j
 ·subst e;intro _ i hi y hy ey;have:f s=true:=(hS s).2 (Or.inl ⟨i,hi,y.2,by rw[<-hs,ey];exact hy⟩);rw[hf]at this;exact absurd this (by simp)
 ·exact h q (by omega)
theorem zJU{W:zH}{k:Nat}{aA bA:List (Int×Int)}{f:Nat->Bool}(h:zBm W k aA bA aA.length f)(hn:aA=yT W (zO W k))(ho:bA=zC5 W (zO W k)):zBm W (k+1) [] [] 0 f:=by
 intro s;rw[h s];constructor
 ·rintro(⟨i,hi,h⟩ | ⟨q,hq,e,h2⟩)
  ·exact Or.inl ⟨i,by omega,h⟩
  ·refine Or.inl ⟨k,by omega,(aA[q]).2,?_⟩;unfold zf zh at h2;unfold zf at e;rw[yC hq]at e h2;refine List.mem_filter.2 ⟨?_,?_⟩
   ·rw[<-hn,<-e];exact List.getElem_mem hq
   ·rw[<-ho,<-e];simpa using h2
 ·rintro(⟨i,hi,b,h2⟩ | ⟨q,hq,_⟩)
  ·by_cases e:i=k
   ·subst e;obtain⟨h3,h4⟩:=List.mem_filter.1 h2;rw[<-hn]at h3;rw[<-ho]at h4;obtain⟨q,hq,e⟩:=List.getElem_of_mem h3;refine Or.inr ⟨q,hq,?_⟩;unfold zf zh;rw[yC hq,e];exact⟨rfl,by simpa using h4⟩
   ·exact Or.inl ⟨i,by omega,b,h2⟩
  ·omega
theorem zII{W:zH}{k:Nat}{f:Nat->Bool}(h:zBm W k [] [] 0 f)(aA bA:List (Int×Int)):zBm W k aA bA 0 f:=by
 intro s;rw[h s];constructor
 ·rintro(h | ⟨q,hq,_⟩)
  ·exact Or.inl h
  ·omega
 ·rintro(h | ⟨q,hq,_⟩)
  ·exact Or.inl h
  ·omega
theorem zIP{W:zH}{k j s:Nat}{aA bA:List (Int×Int)}{f:Nat->Bool}(hT:zBJ W)(hk:k<zq W)(hn:aA=yT W (zO W k))(ho:bA=zC5 W (zO W k))(hS:zBm W k aA bA j f)(hj:j<aA.length)(hs:zf aA j=(s:Int))(cA:(zf aA j,zh aA j)∉bA)(hf:f s=true):¬zGY W:=by
 intro hA;rcases(hS s).1 hf with⟨i,hi,b,h⟩ | ⟨q,hq,e,h2⟩
 ·refine hA k hk i hi (zf aA j,zh aA j) ?_ _ h hs;refine List.mem_filter.2 ⟨?_,by rw[<-ho];simpa using cA⟩;rw[<-hn];unfold zf zh;rw[yC hj];exact List.getElem_mem hj
 ·have dA:=zBH hT.right (l:=aA) (fun x hx=>by rw[hn]at hx;exact(zAb hT.right (hT.tree k hk) hx).1) (by rw[hn];exact zAj hT.right (hT.tree k hk)) (by rw[hn];have:=qN W.zRd (zO W k).rs (zO W k).rb;unfold yT;omega);exact dA.2.2 j hj q hq (by rw[e,hs])
end Go.Proofs.YtmgeglgboadfiaaGreatDoor

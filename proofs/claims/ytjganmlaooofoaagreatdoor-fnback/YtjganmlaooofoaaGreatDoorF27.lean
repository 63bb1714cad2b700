/- A part of the proof. -/
import Derived.Test.YtjganmlaooofoaaGreatDoorF26
set_option linter.unusedVariables false
set_option maxRecDepth 20000
set_option maxHeartbeats 4000000
namespace Go.Proofs.YtjganmlaooofoaaGreatDoor
open Go.RowKit
theorem zHI{P:Program}{f:Nat}{ι : Type}{A:ι->List (Bool×List Tr)}{C:ι->Prop}{R:ι->List (Bool×List Tr)}{w:World}
  (h:∀x,C x->∀(g0:Nat->Bs) (ys:List Value),(∀b,∃r,g0 b = .fz r)->qE (zLi w g0) (A x) ys->Calls P f ys.toArray w fun e w'=>∃v g,e = .returned v/\Kp w g0 w' g/\zTE w' g (R x) v):zDX P f (qk A C R) w:=by
 intro al c rs aA hc g0 ys hz hy;unfold qk at aA;split at aA
 ·rename_i hx
  cases aA;exact h hx.choose hc g0 ys hz (by rw[hx.choose_spec];exact hy)
 ·cases aA
def zcw(w:World)(g:Nat->Bs):Nat->Bs:=fun b=>if b<w.heap.size then g b else .fz none
theorem zM5{w w':World}{g:Nat->Bs}(hz:∀b,∃r,g b = .fz r)(h:Below w.heap.size w w'):Kp w g w' (zcw w g):=
 ⟨h.os,h.tape,h.output,h.size,fun b r hb hl=>⟨h.block b hl,by unfold zcw;rw[if_pos hl];exact hb⟩,fun b o aA hb=>by obtain⟨r,hr⟩:=hz b;rw[hr]at hb;cases hb⟩
theorem zR1{w w':World}{g:Nat->Bs}:zRD w' (zcw w g) w.heap.size:=fun b h _=>if_neg (by omega)
theorem zAz.wf{c:Nat}{W:zB}(h:zAz c W):zCs W:=fun i hi=>by
 have hp:0<=(zI W i).zeL/\(zI W i).zeL<=1000000:=by
  by_cases hs:i<W.pn
  ·rw[zx hs];exact(h.zeJ i hs).zeL
  ·obtain⟨k,rfl⟩:∃k,i=W.pn+k:=⟨i - W.pn,by omega⟩;rw[qN];exact(h.zeK k (by unfold memN at hi;omega)).zeL
 show(decide (IntKind.min .i64<=_) && decide (_<=IntKind.max .i64))=true;simp[IntKind.min,IntKind.max,IntKind.signed,IntKind.bits];omega
theorem zAz.bounds{c:Nat}{W:zB}(h:zAz c W)(hc:c<=10):qs W.pool<=1048576/\W.sn<=1048576/\W.pn<=1048576/\zGm W:=by
 have h1:=h.pool;have h2:=h.sn;have h3:=h.pn;exact⟨by omega,by omega,by omega,fun i hi=>by have:=(h.zeK i hi).dn;omega,fun i hi=>by have:=(h.zeJ i hi).dn;omega⟩
theorem zAz.slot{c:Nat}{W:zB}(h:zAz c W)(hc:c<=10){i:Nat}(hi:i<W.pool.n):(W.pool.s i).kn<=maxLen/\(W.pool.s i).data.size<=maxLen:=by
 have h1:=h.pool;have h2:=zNw (f:=W.pool.s) hi;have h3:zBp W.pool.s W.pool.n<=qs W.pool:=by unfold qs;omega
 have h4:zCu (W.pool.s i)=(W.pool.s i).kn+(W.pool.s i).data.size:=rfl;unfold maxLen;omega
theorem zAz.at{c:Nat}{W:zB}(h:zAz c W)(hc:c<=10){w:World}{g:Nat->Bs}{u0 u1 u4 u5:Value}(h0:Sh w g (.s .b 3 W.pool.n (zk .b W.pool.s)) u0)(h1:Sh w g (.s .b 1 W.pool.hn (yT W.pool.h)) u1)(h4:Sh w g (.s .b 6 W.sn (setsE .b W.zeK)) u4)(h5:Sh w g (.s .b 8 W.pn (snapsE .b W.zeJ)) u5):yO w 0 w.heap.size u0 u1 u4 u5 W:=by
 have b:=h.bounds hc;have n1:W.pool.n<=qs W.pool:=by unfold qs;omega
 have n2:W.pool.hn<=qs W.pool:=Nat.le_add_left ..;have hm:1048576<=maxLen:=by decide
 exact⟨⟨zX3 h0 (by omega) (fun i hi=>h.slot hc hi),zao h1 (by omega)⟩,zap h4 (by omega) (fun i hi=>by have g:=h.zeK i hi;have:=g.dn;have:=g.name;exact⟨by omega,by omega⟩),zX4 h5 (by omega) (fun i hi=>by have g:=h.zeJ i hi;have:=g.dn;have:=g.name;have:=g.set;exact⟨by omega,by omega,by omega⟩)⟩
theorem zTv{n:Nat}{h:Nat->Int}:(Tr.s .z 1 n (yT h)).kept:=⟨by simp,fun _ _ _ _=>trivial⟩
theorem zGz{n:Nat}{f h:Nat->Int}:(Tr.s .z 2 n (ptrsT f h)).kept:=⟨by simp,fun p q _ _=>by unfold ptrsT;split<;>trivial⟩
theorem zR2{n:Nat}{s:Nat->zN}:(Tr.s .z 3 n (zk .z s)).kept:=⟨by simp,fun i j _ hj=>by
 match j,hj with
 | 0,_ | 2,_=>trivial
 | 1,_=>exact zGz⟩
theorem zTw{n:Nat}{s:Nat->qi}:(Tr.s .z 6 n (setsE .z s)).kept:=⟨by simp,fun i j _ hj=>by
 match j,hj with
 | 0,_ | 1,_ | 2,_ | 3,_ | 4,_=>trivial
 | 5,_=>exact zGz⟩
theorem zR3{n:Nat}{s:Nat->zl}:(Tr.s .z 8 n (snapsE .z s)).kept:=⟨by simp,fun i j _ hj=>by
 match j,hj with
 | 0,_ | 1,_ | 2,_ | 3,_ | 4,_ | 5,_ | 6,_=>trivial
 | 7,_=>exact zGz⟩
theorem zco{α β : Type}{R:α->β->Prop}{x0 x1 x2 x3 x4 x5:α}{ys:List β}(h:qE R [x0,x1,x2,x3,x4,x5] ys):∃y0 y1 y2 y3 y4 y5,ys = [y0,y1,y2,y3,y4,y5]/\R x0 y0/\R x1 y1/\R x2 y2/\R x3 y3/\R x4 y4/\R x5 y5:=by
 cases h with
 | cons a0 h=>cases h with
  | cons a1 h=>cases h with
   | cons a2 h=>cases h with
    | cons a3 h=>
     obtain⟨y4,y5,rfl,a4,a5⟩:=zCN h;exact⟨_,_,_,_,y4,y5,rfl,a0,a1,a2,a3,a4,a5⟩
theorem zN6{w:World}{g:Nat->Bs}{W:zB}{cs:List Value}{c:Nat}(hc:c<=10)(hW:zAz c W)(h:qE (Sh w g) (woT W).2 cs):∃v0 v1 v2 v3,cs = [v0,v1,.int .i64 W.time,.int .i64 W.next,v2,v3]/\yO w 0 w.heap.size v0 v1 v2 v3 W:=by
 obtain⟨y0,y1,y2,y3,y4,y5,rfl,a0,a1,a2,a3,a4,a5⟩:=zco h;exact⟨y0,y1,y4,y5,by rw[a2.1,a3.1],hW.at hc a0 a1 a4 a5⟩
theorem zJN{W:zB}{x:Int}(h:zBU W x):(zBb W.pn fun k=>(W.zeJ k).id=x)<W.pn/\zE W x=W.zeJ (zBb W.pn fun k=>(W.zeJ k).id=x).toNat:=by
 rcases zEY W.pn fun k=>(W.zeJ k).id=x with⟨k,h1,h3,h4,h2⟩ | ⟨h1,h2⟩
 ·rw[h2,Int.toNat_natCast];exact⟨by omega,yQ ⟨h1,h3,h4⟩⟩
 ·obtain⟨k,hk,e⟩:=h;exact absurd e (h1 k hk)
theorem zNq{W:zB}{x:ByteArray}(h:¬qG W x):zBy W x=zCj:=by
 unfold zBy;rw[dif_neg];rintro⟨k,hk⟩;exact h ⟨k,hk.1,hk.2.1⟩
theorem zbj{l:List (Int×Int)}{k:Nat}(h:k<l.length):l.take (k+1)=l.take k ++ [(zh l k,zn l k)]:=by
 rw[List.take_succ_eq_append_getElem h];unfold zh zn;rw[List.getD_eq_getElem?_getD,List.getElem?_eq_getElem h];rfl
theorem zIR{W:zB}{x:ByteArray}(h:qG W x):∃k,zDK W x k:=by
 obtain⟨k,hk,hn⟩:=h
 induction k using Nat.strongRecOn with
 | _ k ih=>
  by_cases e:∃j,j<k/\(W.zeK j).name=x
  ·obtain⟨j,hj,hx⟩:=e;exact ih j hj (by omega) hx
  ·exact⟨k,hk,hn,fun j hj hx=>e ⟨j,hj,hx⟩⟩
theorem zLl.all{W:zB}{a b:Prop}{m:Nat}{Q:Nat->Prop}{ei:Nat->Nat}(h:zLl W a b m Q ei none):∀j,j<m->Q j:=by
 rcases h with⟨_,e⟩ | ⟨_,_,e⟩ | ⟨_,_,_,k,hk,_,_,e⟩ | ⟨_,_,_,h4,_⟩
 ·cases e
 ·cases e
 ·cases e
 ·exact h4
abbrev wuZ(o:zAk):Bool×List Tr:=(true,[.s .z 3 o.world.pool.n (zk .z o.world.pool.s),.s .z 1 o.world.pool.hn (yT o.world.pool.h),.v (.int .i64 o.world.time),.v (.int .i64 o.world.next),.s .z 6 o.world.sn (setsE .z o.world.zeK),.s .z 8 o.world.pn (snapsE .z o.world.zeJ),.v (.int .i64 o.id),.v (.int .i64 o.many),.v (.int .i64 o.code)])
abbrev wuL(o:zAk):Bool×List Tr:=(true,[.s .b 3 o.world.pool.n (zk .b o.world.pool.s),.s .b 1 o.world.pool.hn (yT o.world.pool.h),.v (.int .i64 o.world.time),.v (.int .i64 o.world.next),.s .b 6 o.world.sn (setsE .b o.world.zeK),.s .b 8 o.world.pn (snapsE .b o.world.zeJ),.v (.int .i64 o.id),.v (.int .i64 o.many),.v (.int .i64 o.code)])
def zb0(f:Nat->Tr):zAk:=⟨zCW f,qM (f 6),qM (f 7),qM (f 8)⟩
theorem zZm{o:zAk}{w w':World}{g0:Nat->Bs}(hz:∀b,∃r,g0 b = .fz r){e:Ending}(h:zFn o w e w'):∃v g,e = .returned v/\Kp w g0 w' g/\zTE w' g [wuZ o] v:=by
 obtain⟨v0,v1,v2,v3,rfl,ho,hb⟩:=h;have hs:=ho.at;have hk:=zR1 (w:=w) (w':=w') (g:=g0);refine⟨_,_,rfl,zM5 hz hb,_,⟨_,[],_,rfl,rfl,?_,rfl⟩,rfl⟩;exact⟨_,_,rfl,⟨zZd hk hs.pool.1,zR2⟩,_,_,rfl,⟨zbS hk hs.pool.2,zTv⟩,_,_,rfl,⟨rfl,rfl⟩,_,_,rfl,⟨rfl,rfl⟩,_,_,rfl,⟨zbT hk hs.zeK,zTw⟩,_,_,rfl,⟨zZe hk hs.zeJ,zR3⟩,_,_,rfl,⟨rfl,rfl⟩,_,_,rfl,⟨rfl,rfl⟩,_,_,rfl,⟨rfl,rfl⟩,rfl⟩
theorem zVz{W:zB}{aA bA:Prop}{m:Nat}{Q:Nat->Prop}{ei:Nat->Nat}{r:Option Nat}(o:zAk)(h:zLl W aA bA m Q ei r) :
  (aA/\zKy r o=qD 2)\/(¬aA/\(¬qo W\/bA)/\zKy r o=qD 1)\/(¬aA/\qo W/\¬bA/\∃i,i<m/\¬Q i/\(∀j,j<i->Q j)/\zKy r o=qD (zHf (ei i)))\/(¬aA/\qo W/\¬bA/\(∀j,j<m->Q j)/\r=none/\zKy r o=o):=by
 unfold zLl at h;rw[zGi]at h;rcases h with⟨h,rfl⟩ | ⟨h1,h2,rfl⟩ | ⟨h1,h2,h3,i,h4,h5,h6,rfl⟩ | ⟨h1,h2,h3,h4,rfl⟩
 ·exact .inl ⟨h,rfl⟩
 ·exact .inr (.inl ⟨h1,h2,rfl⟩)
 ·exact .inr (.inr (.inl ⟨h1,h2,h3,i,h4,h5,h6,rfl⟩))
 ·exact .inr (.inr (.inr ⟨h1,h2,h3,h4,rfl,rfl⟩))
theorem zL9{W:zB}{x:ByteArray}{k:Nat}(h:zDK W x k):zA2 W x=k:=by
 show(zBb W.sn fun k=>(W.zeK k).name=x).toNat=k;rw[zDy (P:=fun k=>(W.zeK k).name=x) h.1 h.2.1 h.2.2,Int.toNat_natCast]
theorem zV6{W:zB}{x:ByteArray}{k:Nat}(h:zDK W x k):qG W x:=⟨k,h.1,h.2.1⟩
theorem zKn(v0 v1:Value)(lo hi:Nat)(p:zF)(xs xb:Int)(w:World)(h1:zCG w lo hi v0 v1 p)(hn:qs p<=1048576) :
    Calls Tryz.prog 141 #[.agg #[v0,v1],.agg #[.int .i64 xs,.int .i64 xb]] w (zcj (zMu p xs xb) w):=by
  have Hp:=yn h1;obtain⟨a,c,a',c',rfl,rfl⟩:=h1.zeQ;have Hn:=yn hn;have nC:p.hn<=1048576:=(by unfold qs at hn;omega);have tB:p.n<=1048576:=(by unfold qs at hn;omega);have pB:Hid (∀j,j<p.n->(p.s j).kn<=1048576):=fun j hj=>by have h2:=zSr p.s hj;unfold zCu at h2;unfold qs at hn;omega
  have pC:p.hn<=c':=(by obtain⟨_,⟨_,_,_,e,h,_⟩⟩:=h1;simp only[Value.slice.injEq,true_and]at e;omega);have mB:=zdO w (.slice a p.n c) (.slice a' p.hn c') (.int .i64 xs) (.int .i64 xb) 26 38 166;obtain⟨i0,lB,kB⟩:=Option.map_eq_some_iff.1 zPL;simp only[Prod.mk.injEq]at kB;have HI:=yn (And.intro lB kB);clear h1 hn lB kB;go_enter Tryz.func141,Tryz.ntmps141;go_wp2_with fail;generalize ((w.alloc (.cells #[.slice a p.n c,.slice a' p.hn c'] 26)).alloc (.cells #[.int .i64 xs,.int .i64 xb] 38)).alloc (.cells #[.slice none 0 0,.slice none 0 0,.int .i64 0,.int .i64 0,.int .i64 0] 166)=W at mB ⊢;obtain⟨hB,hX,hR,iB,hz⟩:=mB;refine(zCt _ _ lo hi p _ (Hp.out.zeF iB)).mono ?_;rintro e w1 ⟨⟨t,rfl,ht⟩,oA⟩;have fB:=yn (hB.zeF oA);have gB:=yn (hX.zeF oA);have aB:=yn (hR.zeF oA);have cB:=zA iB oA;have cC:w.heap.size+3<=w1.heap.size:=(by have:=oA.size;omega);clear hB hX hR iB oA hz;by_cases nA:zg p
  · have mA:=yn nA
    obtain rfl:t=true:=ht.2 nA;clear ht nA;obtain⟨⟨x0,x1⟩,⟨x2,x3⟩⟩:=fB.out;obtain⟨⟨y0,y1⟩,⟨y2,y3⟩⟩:=gB.out;go_wp2_with fail;refine(zIE _ p.n lo hi p.s _ _ _ (Hp.out.1.zeF cB)).mono ?_;rintro e w2 ⟨⟨t,rfl,ht⟩,pA⟩;rw[zIF mA.out]at ht;have sA:=yn (fB.out.zeF pA);have bB:=yn (gB.out.zeF pA);have jA:=yn (aB.out.zeF pA);have kA:=zA cB pA;have oC:w.heap.size+3<=w2.heap.size:=(by have:=pA.size;omega);clear pA cB fB gB aB cC x0 x1 x2 x3 y0 y1 y2 y3;by_cases hP:qp p xs xb
    · have HP:=yn hP
      obtain rfl:t=true:=ht.2 hP;clear ht hP;obtain⟨⟨x0,x1⟩,⟨x2,x3⟩⟩:=sA.out;obtain⟨⟨y0,y1⟩,⟨y2,y3⟩⟩:=bB.out;go_wp2_with fail;refine(zE1 _ p.hn lo hi p.h _ _ (Hp.out.2.zeF kA)).mono ?_;rintro e w3 ⟨⟨t,rfl,ht⟩,bC⟩;subst bC;by_cases hH:Has p.hn p.h xs
      · have HH:=yn hH
        obtain rfl:t=true:=ht.2 hH;clear ht hH;obtain⟨⟨u0,u1⟩,⟨u2,u3⟩,⟨u4,u5⟩,⟨u6,u7⟩,⟨u8,u9⟩⟩:=jA.out;go_wp2;have eA:=jA.out.put (.slice none 0 0) (.slice none 0 0) (.int .i64 0) (.int .i64 0) (.int .i64 4);have iA:=zNX (R:=w.heap.size+1+1) (u2:=.int .i64 0) (u3:=.int .i64 0) (u4:=.int .i64 4) (by omega) kA;rw[zPE mA.out (fun h=>h.2 HH.out)];exact bodyPost_ret (v:=.agg #[.slice none 0 0,.slice none 0 0,.int .i64 0,.int .i64 0,.int .i64 4]) (by simp[results,Tryz.results141,go_sem,eA.1.1,eA.2.1.1,eA.2.2.1.1,eA.2.2.2.1.1,eA.2.2.2.2.1]) rfl ⟨_,_,rfl,iA.1,iA.2⟩
      · have HH:=yn hH
        obtain rfl:t=false:=qj ht hH;clear ht hH;obtain⟨⟨u0,u1⟩,⟨u2,u3⟩,⟨u4,u5⟩,⟨u6,u7⟩,⟨u8,u9⟩⟩:=jA.out;have vB:(p.hn:Int)<=(c':Int):=(by omega);have n0:w.heap.size+1+1≠w.heap.size:=(by omega);have n1:w.heap.size+1+1≠w.heap.size+1:=(by omega);go_wp2_with fail;go_region_held3 (fun w'=>w'.cell? ⟨w.heap.size,0,none⟩=some (.slice a p.n c)/\w'.cell? ⟨w.heap.size,1,none⟩=some (.slice a' p.hn c')/\w'.cell? ⟨w.heap.size+1,0,none⟩=some (.int .i64 xs)) (go_keep)
          (first
            | (go_at_call 145;refine(zHc _ p.n lo hi p.s _ ?_ tB pB.out).mono ?_;(first | exact Hp.out.1.zeF kA.drew | exact Hp.out.1.zeF (zA kA (zD _ _)).drew);rintro e w5 ⟨v5,bs,kb,kv,rfl,jB,vA,lA,eB⟩;obtain⟨_,sa,nB,rfl,_⟩:=id jB;(first | (have aC:w5.cell? ⟨w3.heap.size,0,none⟩=some (.int .i64 xs):=((zK (i:=0) (v:=.int .i64 xs) (heap_alloc_new w3 (.cells #[.int .i64 xs] 2)) rfl).zeF (qF eB)).1) | skip);have dA:Below w3.heap.size w3 w5:=(by first | exact qF eB | exact zA (zD _ _) (qF eB));have gA:∀k,zEs bs kb p.n p.s k->w3.heap.size<=k/\k<w5.heap.size:=(by first | exact lA | exact fun k hk=>(by have:=lA k hk;simp at this;omega));have z0:=(sA.out.zeF dA).1.1;have z1:=(sA.out.zeF dA).2.1;have z2:=(bB.out.zeF dA).1.1)
            | (refine step_append_grows rfl (.tmp 33) (.tmp 36) 24 rfl 2 i0 (.int .i64 0) 1 8 (by kernel_rfl) HI.out.1 HI.out.2.1 HI.out.2.2.1 HI.out.2.2.2 rfl (by decide) a' p.hn p.hn (ic p.h p.hn) (by simp[Act.eval]) (zSY Hp.out.2) (zHk _ _) (zVq Hp.out.2 (zA kA (zA dA (zD w5 _)))) ⟨w5.heap.size,0,none⟩ 1 1 [.int .i64 xs] (by simp[Act.eval]) rfl (zdr _ _ _) (zdt _) (by omega) (by unfold maxLen;omega) (by omega) ?_
               intro v6 w6 bA aA;obtain⟨a6,c6,rfl,_⟩:=zs bA;have rA:Below w5.heap.size w5 w6:=zA (zD w5 _) (zHY aA);have fA:w6.ownsRow w5.heap.size 2 1 (.slice a6 (p.hn+1) c6) (p.hn+1) (ic p.h p.hn ++ [.int .i64 xs]):=zNf bA (by simp);have cA:=zA dA rA;obtain⟨⟨p0,p1⟩,⟨p2,p3⟩⟩:=sA.out.zeF cA;obtain⟨⟨p4,p5⟩,⟨p6,p7⟩⟩:=bB.out.zeF cA;obtain⟨⟨p8,p9⟩,⟨dC,eC⟩,⟨fC,iC⟩,⟨jC,kC⟩,⟨lC,mC⟩⟩:=jA.out.zeF cA;clear bA aA)
            | (refine step_append_grows rfl (.tmp 33) (.tmp 36) 24 rfl 2 i0 (.int .i64 0) 1 8 (by kernel_rfl) HI.out.1 HI.out.2.1 HI.out.2.2.1 HI.out.2.2.2 rfl (by decide) a' p.hn p.hn (ic p.h p.hn) (by simp[Act.eval]) (zSY Hp.out.2) (zHk _ _) (zVq Hp.out.2 (zA kA dA)) ⟨w3.heap.size,0,none⟩ 1 1 [.int .i64 xs] (by simp[Act.eval]) rfl (zZZ aC) (zdt _) (by omega) (by unfold maxLen;omega) (by omega) ?_
               intro v6 w6 bA aA;obtain⟨a6,c6,rfl,_⟩:=zs bA;have rA:Below w5.heap.size w5 w6:=zHY aA;have fA:w6.ownsRow w5.heap.size 2 1 (.slice a6 (p.hn+1) c6) (p.hn+1) (ic p.h p.hn ++ [.int .i64 xs]):=zNf bA (by simp);have cA:=zA dA rA;obtain⟨⟨p0,p1⟩,⟨p2,p3⟩⟩:=sA.out.zeF cA;obtain⟨⟨p4,p5⟩,⟨p6,p7⟩⟩:=bB.out.zeF cA;obtain⟨⟨p8,p9⟩,⟨dC,eC⟩,⟨fC,iC⟩,⟨jC,kC⟩,⟨lC,mC⟩⟩:=jA.out.zeF cA;clear bA aA))
        all_goals
          have rB:=yn (zXD (p:=zBw p xs) (B:=w3.heap.size) (M:=w3.heap.size) (jB.zeF rA) vA (fun k hk=>by have:=gA k hk;have:=rA.size;omega) (by show p.hn+1<=maxLen;unfold maxLen;omega) (by rw[<-za5]at fA;exact fA) (fun k e=>by
            have h1:=fA.lt k e;refine⟨by have:=dA.size;omega,Or.inr (Or.inr ⟨h1.2,fun hx=>?_⟩)⟩;have:=gA k hx;omega) (Nat.le_refl _) (fun e=>absurd e (Nat.succ_ne_zero _)))
          have oB:=yn (jA.out.zeF cA);have sB:=zA kA cA;clear jB vA lA gA eB dA rA cA fA;go_wp2;have tA:=oB.out.put (.slice sa p.n nB) (.slice a6 (p.hn+1) c6) (.int .i64 0) (.int .i64 0) (.int .i64 0);have iA:=zbW (R:=w.heap.size+1+1) (u2:=.int .i64 0) (u3:=.int .i64 0) (u4:=.int .i64 0) rB.out (by omega) (by omega) (Nat.le_refl _) sB;rw[zU4 mA.out HP.out HH.out];exact bodyPost_ret (v:=.agg #[.slice sa p.n nB,.slice a6 (p.hn+1) c6,.int .i64 0,.int .i64 0,.int .i64 0]) (by simp[results,Tryz.results141,go_sem,tA.1.1,tA.2.1.1,tA.2.2.1.1,tA.2.2.2.1.1,tA.2.2.2.2.1]) rfl ⟨_,_,rfl,iA.1,iA.2⟩
    · have HP:=yn hP
      obtain rfl:t=false:=qj ht hP;clear ht hP;obtain⟨⟨u0,u1⟩,⟨u2,u3⟩,⟨u4,u5⟩,⟨u6,u7⟩,⟨u8,u9⟩⟩:=jA.out;go_wp2;have eA:=jA.out.put (.slice none 0 0) (.slice none 0 0) (.int .i64 0) (.int .i64 0) (.int .i64 4);have iA:=zNX (R:=w.heap.size+1+1) (u2:=.int .i64 0) (u3:=.int .i64 0) (u4:=.int .i64 4) (by omega) kA;rw[zPE mA.out (fun h=>HP.out h.1)];exact bodyPost_ret (v:=.agg #[.slice none 0 0,.slice none 0 0,.int .i64 0,.int .i64 0,.int .i64 4]) (by simp[results,Tryz.results141,go_sem,eA.1.1,eA.2.1.1,eA.2.2.1.1,eA.2.2.2.1.1,eA.2.2.2.2.1]) rfl ⟨_,_,rfl,iA.1,iA.2⟩
  · have mA:=yn nA
    obtain rfl:t=false:=qj ht nA;clear ht nA;obtain⟨⟨u0,u1⟩,⟨u2,u3⟩,⟨u4,u5⟩,⟨u6,u7⟩,⟨u8,u9⟩⟩:=aB.out;go_wp2;have eA:=aB.out.put (.slice none 0 0) (.slice none 0 0) (.int .i64 0) (.int .i64 0) (.int .i64 1);have iA:=zNX (R:=w.heap.size+1+1) (u2:=.int .i64 0) (u3:=.int .i64 0) (u4:=.int .i64 1) (by omega) cB;rw[zWg mA.out];exact bodyPost_ret (v:=.agg #[.slice none 0 0,.slice none 0 0,.int .i64 0,.int .i64 0,.int .i64 1]) (by simp[results,Tryz.results141,go_sem,eA.1.1,eA.2.1.1,eA.2.2.1.1,eA.2.2.2.1.1,eA.2.2.2.2.1]) rfl ⟨_,_,rfl,iA.1,iA.2⟩
theorem zHZ{j i:Nat}(h:j≠i):(j == i)=false:=by simpa using h
def zAh(d:Nat->Nat)(x:Nat->Value):List Nat->Act->Act
 | [],a=>a
 | i :: r,a=>zAh d x r (a.put (some (d i)) (x i))
theorem zZw(a:Act)(k:Nat)(u v:Value):(a.put (some k) u).put (some k) v=a.put (some k) v:=by
 unfold Act.put;simp[Array.setIfInBounds_setIfInBounds]
theorem zXJ(a:Act){k j:Nat}(u v:Value)(h:k≠j):(a.put (some k) u).put (some j) v=(a.put (some j) v).put (some k) u:=
 Act.put_comm a u v (fun d e e'=>h (by injection e with e;injection e' with e';omega))
theorem zPh(d:Nat->Nat)(x:Nat->Value)(k:Nat)(v:Value):∀(M:List Nat) (a:Act),(∀i∈M,d i≠k)->(zAh d x M a).put (some k) v=zAh d x M (a.put (some k) v)
 | [],_,_=>rfl
 | i :: r,a,h=>by
  show(zAh d x r (a.put (some (d i)) (x i))).put (some k) v=zAh d x r ((a.put (some k) v).put (some (d i)) (x i));rw[zPh d x k v r _ (fun j hj=>h j (List.mem_cons_of_mem _ hj)),zXJ a _ _ (h i List.mem_cons_self)]
theorem zLY{d:Nat->Nat}{x y:Nat->Value}:∀{M:List Nat} {a:Act},(∀i∈M,x i=y i)->zAh d x M a=zAh d y M a
 | [],_,_=>rfl
 | i :: r,a,h=>by
  show zAh d x r (a.put (some (d i)) (x i))=zAh d y r (a.put (some (d i)) (y i));rw[h i List.mem_cons_self];exact zLY (fun j hj=>h j (List.mem_cons_of_mem _ hj))
def zOZ(x:Nat->Value)(i:Nat)(v:Value)(j:Nat):Value:=if j=i then v else x j
theorem zPi(d:Nat->Nat)(x:Nat->Value)(i:Nat)(v:Value):∀(M:List Nat) (a:Act),i∈M->M.Pairwise (fun p q=>d p≠d q)->(zAh d x M a).put (some (d i)) v=zAh d (zOZ x i v) M a
 | [],_,h,_=>by cases h
 | j :: r,a,h,hp=>by
  obtain⟨h1,h2⟩:=List.pairwise_cons.1 hp;show(zAh d x r (a.put (some (d j)) (x j))).put (some (d i)) v=zAh d (zOZ x i v) r (a.put (some (d j)) (zOZ x i v j));by_cases e:j=i
  ·subst e;have aA:∀p∈r,d p≠d j:=fun p hp e=>h1 p hp e.symm
   rw[zPh d x (d j) v r _ aA,zZw];have e1:zOZ x j v j=v:=(by unfold zOZ;rw[if_pos rfl]);rw[e1];refine zLY (fun p hp=>?_);unfold zOZ;rw[if_neg (fun e=>aA p hp (by rw[e]))]
  ·have e1:zOZ x i v j=x j:=(by unfold zOZ;rw[if_neg e]);rw[e1];rcases List.mem_cons.1 h with h | h
   ·exact absurd h.symm e
   ·exact zPi d x i v r _ h h2
def zDM(b:Nat->Bool):List Nat->Array Bool->Array Bool
 | [],l=>l
 | i :: r,l=>zDM b r (if b i then l.setIfInBounds i true else l)
def zET(b:Nat->Bool)(i:Nat)(j:Nat):Bool:=j == i || b j
theorem zKt(b:Nat->Bool)(k:Nat):∀(M:List Nat) (l:Array Bool),(zDM b M l).setIfInBounds k true=zDM b M (l.setIfInBounds k true)
 | [],_=>rfl
 | i :: r,l=>by
  show(zDM b r (if b i then l.setIfInBounds i true else l)).setIfInBounds k true=zDM b r (if b i then(l.setIfInBounds k true).setIfInBounds i true else l.setIfInBounds k true);rw[zKt b k r];by_cases h:b i
  ·rw[if_pos h,if_pos h];by_cases e:i=k
   ·subst e;rfl
   ·rw[Array.setIfInBounds_comm _ _ e]
  ·rw[if_neg h,if_neg h]
theorem zEh{b c:Nat->Bool}:∀{M:List Nat} {l:Array Bool},(∀i∈M,b i=c i)->zDM b M l=zDM c M l
 | [],_,_=>rfl
 | i :: r,l,h=>by
  show zDM b r (if b i then _ else _)=zDM c r (if c i then _ else _);rw[h i List.mem_cons_self];exact zEh (fun j hj=>h j (List.mem_cons_of_mem _ hj))
theorem zJD(b:Nat->Bool)(k:Nat):∀(M:List Nat) (l:Array Bool),k∈M->(zDM b M l).setIfInBounds k true=zDM (zET b k) M l
 | [],_,h=>by cases h
 | i :: r,l,h=>by
  show(zDM b r (if b i then l.setIfInBounds i true else l)).setIfInBounds k true=zDM (zET b k) r (if zET b k i then l.setIfInBounds i true else l);by_cases e:i=k
  ·subst e;have e1:zET b i i=true:=(by unfold zET;simp);rw[if_pos e1,zKt];have e2:(if b i then l.setIfInBounds i true else l).setIfInBounds i true=l.setIfInBounds i true:=by
    by_cases h':b i
    ·rw[if_pos h',Array.setIfInBounds_setIfInBounds]
    ·rw[if_neg h']
   rw[e2];by_cases hr:i∈r
   ·rw[<-zJD b i r _ hr,zKt,Array.setIfInBounds_setIfInBounds]
   ·refine zEh (fun j hj=>?_);unfold zET;have:(j == i)=false:=zHZ fun e=>hr (e▸hj)
    rw[this,Bool.false_or]
  ·have e1:zET b k i=b i:=by
    unfold zET;have:(i == k)=false:=zHZ e;rw[this,Bool.false_or]
   rw[e1];rcases List.mem_cons.1 h with h | h
   ·exact absurd h.symm e
   ·exact zJD b k r _ h
def zUP:List Nat->List (Nat->Bool)
 | []=>[fun _=>false]
 | i :: r=>(zUP r).flatMap fun b=>[b,zET b i]
theorem zNg(c:Nat->Bool):∀M:List Nat,M.Nodup->∃b∈zUP M,(∀i∈M,b i=c i)/\∀i,i∉M->b i=false
 | [],_=>⟨_,List.mem_singleton.2 rfl,fun i h=>(by cases h),fun _ _=>rfl⟩
 | i :: r,hn=>by
  obtain⟨h1,h2⟩:=List.nodup_cons.1 hn;obtain⟨b,hb,hc,ho⟩:=zNg c r h2;by_cases e:c i
  ·refine⟨zET b i,List.mem_flatMap.2 ⟨b,hb,by simp⟩,fun j hj=>?_,fun j hj=>?_⟩
   ·unfold zET;rcases List.mem_cons.1 hj with rfl | hj
    ·simp[e]
    ·have:(j == i)=false:=zHZ fun e=>h1 (e▸hj)
     rw[this,Bool.false_or];exact hc j hj
   ·unfold zET;have h3:(j == i)=false:=zHZ fun e=>hj (e▸List.mem_cons_self)
    rw[h3,Bool.false_or];exact ho j (fun h=>hj (List.mem_cons_of_mem _ h))
  ·refine⟨b,List.mem_flatMap.2 ⟨b,hb,by simp⟩,fun j hj=>?_,fun j hj=>?_⟩
   ·rcases List.mem_cons.1 hj with rfl | hj
    ·rw[ho j h1];simpa using e
    ·exact hc j hj
   ·exact ho j (fun h=>hj (List.mem_cons_of_mem _ h))
theorem zO1(b:Nat->Bool)(i:Nat):∀M:List Nat,M.Nodup->i∈M->b i=false->(M.countP fun j=>!b j)=(M.countP fun j=>!zET b i j)+1
 | [],_,h,_=>by cases h
 | j :: r,hn,h,hbi=>by
  obtain⟨g1,g2⟩:=List.nodup_cons.1 hn;rw[List.countP_cons,List.countP_cons];rcases List.mem_cons.1 h with e | aA
  ·subst e;have e1:(r.countP fun j=>!b j)=r.countP fun j=>!zET b i j:=by
    refine List.countP_congr fun p hp=>?_
    unfold zET;have:(p == i)=false:=zHZ fun e=>g1 (e▸hp)
    rw[this,Bool.false_or]
   have e2:zET b i i=true:=(by unfold zET;simp);rw[e1,hbi,e2];simp
  ·have bA:(j == i)=false:=zHZ fun e=>g1 (e▸aA)
   have e2:zET b i j=b j:=(by unfold zET;rw[bA,Bool.false_or]);have h3:=zO1 b i r g2 aA hbi;rw[e2];omega
def zQj(md:Region.Mode)(ops:Array Oper)(M:List Nat)(D:Nat->List Nat)(l0:Array Bool):Bool:=
 (zUP M).all fun b=>!(M.all fun i=>!b i || (D i).all b) || (M.all b || (!(Region.ready md ops (zDM b M l0)).isEmpty && (Region.ready md ops (zDM b M l0)).all fun i=>M.contains i && !b i && (D i).all b))
section
variable {P : Program} {md : Region.Mode} {ops : Array Oper} {Q : Exit -> Act -> World -> Prop} {S G : World -> Prop}
theorem zW8{M:List Nat}{D:Nat->List Nat}{d:Nat->Nat}{F:Nat->Value->World->Prop}{l0:Array Bool}{a0:Act}{dA:Nat}
  (jA:zQj md ops M D l0=true) (hn:M.Nodup) (hd:M.Pairwise (fun p q=>d p≠d q)) (gA:∀i∈M,∀j∈D i,j∈M)
  (hF:∀i v w w',F i v w->Below w.heap.size w w'->F i v w') (hG:∀w w',G w->Below w.heap.size w w'->G w')
  (fA:∀i∈M,∀x w,S w->G w->(∀j∈D i,F j (x j) w)->∀K:Act->World->Prop,Shut (∀a' v w',a'=(zAh d x M a0).put (some (d i)) v->S w'->F i v w'->Below w.heap.size w w'->K a' w')->wpOp P ops Q i K (zAh d x M a0) w)
  (kA:∀x w,S w->G w->(∀i∈M,F i (x i) w)->wpAnyH P md ops Q S dA (zDM (fun _=>true) M l0) (zAh d x M a0) w) :
  ∀(n:Nat) (b:Nat->Bool),(M.countP fun i=>!b i)=n->(∀i∈M,b i=true->∀j∈D i,b j=true)->∀x w,S w->G w->(∀i∈M,b i=true->F i (x i) w)->wpAnyH P md ops Q S (dA+n) (zDM b M l0) (zAh d x M a0) w:=by
 intro n
 induction n with
 | zero=>
  intro b hc hb x w hS hg hf;have eA:∀i∈M,b i=true:=fun i hi=>by
   have:=(List.countP_eq_zero.1 hc) i hi;simpa using this
  rw[zEh (c:=fun _=>true) eA];exact kA x w hS hg (fun i hi=>hf i hi (eA i hi))
 | succ n ih=>
  intro b hc hb x w hS hg hf;obtain⟨c,tA,bA,aB⟩:=zNg b M hn;have hk:=List.all_eq_true.1 jA c tA;have sA:(M.all fun i=>!c i || (D i).all c)=true:=List.all_eq_true.2 fun i hi=>by
   rw[bA i hi];by_cases e:b i=true
   ·have:(D i).all c=true:=List.all_eq_true.2 fun j hj=>by rw[bA j (gA i hi j hj)];exact hb i hi e j hj
    rw[this];simp
   ·have:b i=false:=(by simpa using e);rw[this];rfl
  have vA:(M.all c)=false:=by
   cases h:M.all c with
   | false=>rfl
   | true=>
    have h0:(M.countP fun i=>!b i)=0:=List.countP_eq_zero.2 fun i hi=>by rw[<-bA i hi,List.all_eq_true.1 h i hi];simp
    omega
  rw[sA,vA]at hk;simp only[Bool.not_true,Bool.false_or,Bool.and_eq_true]at hk;rw[zEh (c:=c) (fun i hi=>(bA i hi).symm)];refine⟨fun h0=>?_,fun i hi=>?_⟩
  ·rw[h0]at hk;simp at hk
  ·have hq:=List.all_eq_true.1 hk.2 i hi;simp only[Bool.and_eq_true,Bool.not_eq_true']at hq;have cA:i∈M:=(by simpa using hq.1.1);have rA:b i=false:=(by rw[<-bA i cA];exact hq.1.2);have mA:∀j∈D i,b j=true:=fun j hj=>by rw[<-bA j (gA i cA j hj)];exact List.all_eq_true.1 hq.2 j hj
   refine fA i cA x w hS hg (fun j hj=>hf j (gA i cA j hj) (mA j hj)) _ ?_;intro a' v w' ha nA pA oA;refine⟨nA,?_⟩;rw[ha,zPi d x i v M a0 cA hd,zJD c i M l0 cA];have iA:∀j∈M,zET c i j=zET b i j:=fun j hj=>by unfold zET;rw[bA j hj]
   rw[zEh (c:=zET b i) iA];refine ih (zET b i) ?_ ?_ (zOZ x i v) w' nA (hG w w' hg oA) ?_
   ·have h1:(M.countP fun j=>!b j)=(M.countP fun j=>!zET b i j)+1:=zO1 b i M hn cA rA;omega
   ·intro p hp aA j hj;unfold zET at aA ⊢;by_cases e:p=i
    ·subst e;rw[mA j hj];simp
    ·have lA:(p == i)=false:=zHZ e;rw[lA,Bool.false_or]at aA;rw[hb p hp aA j hj];simp
   ·intro p hp aA;unfold zOZ;by_cases e:p=i
    ·subst e;rw[if_pos rfl];exact pA
    ·rw[if_neg e];unfold zET at aA;have lA:(p == i)=false:=zHZ e;rw[lA,Bool.false_or]at aA;exact hF p _ w w' (hf p hp aA) oA
theorem zZW{M:List Nat}{D:Nat->List Nat}{d:Nat->Nat}{F:Nat->Value->World->Prop}{l0:Array Bool}{a0:Act}{bA:Nat}(x0:Nat->Value)
  (cA:zQj md ops M D l0=true) (hn:M.Nodup) (hd:M.Pairwise (fun p q=>d p≠d q)) (eA:∀i∈M,∀j∈D i,j∈M)
  (hF:∀i v w w',F i v w->Below w.heap.size w w'->F i v w') (hG:∀w w',G w->Below w.heap.size w w'->G w')
  (aA:∀i∈M,∀x w,S w->G w->(∀j∈D i,F j (x j) w)->∀K:Act->World->Prop,Shut (∀a' v w',a'=(zAh d x M a0).put (some (d i)) v->S w'->F i v w'->Below w.heap.size w w'->K a' w')->wpOp P ops Q i K (zAh d x M a0) w)
  (dA:∀x w,S w->G w->(∀i∈M,F i (x i) w)->wpAnyH P md ops Q S bA (zDM (fun _=>true) M l0) (zAh d x M a0) w)
  {a:Act} {w:World} {f:Nat} (ha:a=zAh d x0 M a0) (hf:f=bA+M.length) (hS:S w) (hg:G w):wpAnyH P md ops Q S f l0 a w:=by
 subst ha hf;have e0:zDM (fun _=>false) M l0=l0:=by
  clear cA hn hd eA aA dA
  induction M with
  | nil=>rfl
  | cons i r ih=>exact ih
 have:=zW8 (P:=P) (Q:=Q) cA hn hd eA hF hG aA dA M.length (fun _=>false) (by simp[List.countP_true]) (fun i hi h=>by cases h) x0 w hS hg (fun i hi h=>by cases h)
 rwa [e0]at this
theorem zZx(a:Act)(k:Nat):a.put (some k) (a.tmps.getD k undef)=a:=by
 unfold Act.put;have:a.tmps.setIfInBounds k (a.tmps.getD k undef)=a.tmps:=by
  refine Array.ext_getElem? fun j=>?_
  rw[Array.getElem?_setIfInBounds];by_cases e:k=j
  ·subst e;by_cases h:k<a.tmps.size
   ·simp[h,Array.getD]
   ·simp[h]
  ·simp[e]
 cases a;simp only[this]
theorem zNk(d:Nat->Nat)(a:Act):∀M:List Nat,zAh d (fun i=>a.tmps.getD (d i) undef) M a=a
 | []=>rfl
 | i :: r=>by
  show zAh d _ r (a.put (some (d i)) (a.tmps.getD (d i) undef))=a;rw[zZx];exact zNk d a r
theorem zPd(M:List Nat)(D:Nat->List Nat)(d:Nat->Nat)(F:Nat->Value->World->Prop)(aA:Nat){l0:Array Bool}{a:Act}{w:World}
  (cA:zQj md ops M D l0=true) (hn:M.Nodup) (hd:M.Pairwise (fun p q=>d p≠d q)) (eA:∀i∈M,∀j∈D i,j∈M)
  (hF:∀i v w w',F i v w->Below w.heap.size w w'->F i v w') (hG:∀w w',G w->Below w.heap.size w w'->G w') (hS:S w) (hg:G w)
  (bA:∀i∈M,∀x w,S w->G w->(∀j∈D i,F j (x j) w)->∀K:Act->World->Prop,Shut (∀a' v w',a'=(zAh d x M a).put (some (d i)) v->S w'->F i v w'->Below w.heap.size w w'->K a' w')->wpOp P ops Q i K (zAh d x M a) w)
  (dA:∀x w,S w->G w->(∀i∈M,F i (x i) w)->wpAnyH P md ops Q S aA (zDM (fun _=>true) M l0) (zAh d x M a) w):wpAnyH P md ops Q S (aA+M.length) l0 a w:=
 zZW (fun i=>a.tmps.getD (d i) undef) cA hn hd eA hF hG bA dA (zNk d a M).symm rfl hS hg
end
theorem zWY(v0 v1:Value)(a b c:Int)(w:World):(Instr.field 166 (.agg #[v0,v1,.int .i64 a,.int .i64 b,.int .i64 c]) 0).run Tryz.prog w = .ok (.agg #[v0,v1]) w:=by kernel_rfl
theorem zTO(C lo hi:Nat)(z0 z1 z2 z3 u8:Value)(tm nx id m:Int)(p q:zF)(x:Int×Int)(w:World)(hC:zCE w C z0 z1 (.int .i64 tm) (.int .i64 nx) z2 z3 (.int .i64 id) (.int .i64 m) u8)(hP:zCG w lo hi z0 z1 p)(hn:qs p<=1048576)(hh:zMu p x.1 x.2=⟨q,0,0,0⟩)(hm:0<=m)(iB:m<=1000000) :
  Calls Tryz.prog 94 #[.pointer (some ⟨C,0,none⟩),.agg #[.int .i64 x.1,.int .i64 x.2]] w fun e w'=>(∃v,e = .returned v)/\∃y0 y1,zCE w' C y0 y1 (.int .i64 tm) (.int .i64 nx) z2 z3 (.int .i64 id) (.int .i64 (m+1)) u8/\zAM w' w.heap.size w'.heap.size y0 y1 q/\zJ (fun j=>j=C) w w':=by
 obtain⟨a0,c0,a1,c1,rfl,rfl⟩:=hP.zeQ;have gB:=hC.1.lt;have fA:=zD w (.cells #[.int .i64 x.1,.int .i64 x.2] 38);have HX:=zC (zAT.new w (.int .i64 x.1) (.int .i64 x.2) 38);have HC:=zC (hC.zeF fA);have jB:IntKind.i64.wrap (m+1)=m+1:=by first | exact wrap_small (by omega) (by omega) | exact wrap_small _ (by omega) (by omega)
 have cB:(w.alloc (.cells #[.int .i64 x.1,.int .i64 x.2] 38)).heap.size=w.heap.size+1:=World.size_alloc _ _;have cA:=zC (show ∀w',Below (w.alloc (.cells #[.int .i64 x.1,.int .i64 x.2] 38)).heap.size (w.alloc (.cells #[.int .i64 x.1,.int .i64 x.2] 38)) w'->Calls Tryz.prog 141 #[.agg #[.slice a0 p.n c0,.slice a1 p.hn c1],.agg #[.int .i64 x.1,.int .i64 x.2]] w' fun e mA=>∃b0 d0 b1 d1,e = .returned (.agg #[.slice b0 q.n d0,.slice b1 q.hn d1,.int .i64 0,.int .i64 0,.int .i64 0])/\zAM mA w'.heap.size mA.heap.size (.slice b0 q.n d0) (.slice b1 q.hn d1) q/\Below w'.heap.size w' mA from fun w' tA=>by
  refine(zKn _ _ lo hi p x.1 x.2 w' ((hP.zeF fA).zeF tA) hn).mono ?_;rw[hh];rintro e w2 ⟨y0,y1,rfl,ho,vA⟩;obtain⟨b0,d0,b1,d1,rfl,rfl⟩:=ho.at.zeQ;exact⟨b0,d0,b1,d1,rfl,ho,vA⟩)
 clear hP hh hC hn;go_enter Tryz.func94,Tryz.ntmps94;go_wp2_with fail;generalize w.alloc (.cells #[.int .i64 x.1,.int .i64 x.2] 38)=w1 at fA HX HC cB cA ⊢;have gA:Below w1.heap.size w1 w1.drew:=(Below.refl _ _).drew;have jA:=zC (show ∀w',Below w1.drew.heap.size w1.drew w'->(fun w':World=>w'.cell? ⟨w.heap.size,0,none⟩=some (.int .i64 x.1)/\w'.cell? ⟨w.heap.size,1,none⟩=some (.int .i64 x.2)) w' from fun w' hb=>by
  have h:=(HX.out.zeF gA).zeF hb;exact⟨h.1.1,h.2.1⟩)
 obtain⟨⟨x0,-⟩,⟨x1,-⟩,-⟩:=HC.out.zeF gA;refine wp_region_held_drew (S:=(fun w':World=>w'.cell? ⟨w.heap.size,0,none⟩=some (.int .i64 x.1)/\w'.cell? ⟨w.heap.size,1,none⟩=some (.int .i64 x.2))) (by kernel_rfl) (jA.out _ (Below.refl _ _)) (fun hHeld=>?_);have iA:=gA;generalize w1.drew=q0 at hHeld jA x0 x1 gA iA ⊢;refine tk 0 (h:=tk 1 (h:=tk 2 (h:=tk 3 (h:=tk 4 (h:=tk 6 (h:=?_))))));refine rd [5] (rc (fun K hK=>?_) .nil);go_simp
 (try go_wp2_with fail)
 refine hK.out _ _ (jA.out _ (Below.refl _ _)) ?_;clear hK K;intro hHeld
 try simp only[Act.put,s1,s2,s3]
 refine rd [7] (rc (fun K hK=>?_) .nil);go_simp;go_at_call 141;refine(cA.out q0 iA).mono ?_;rintro e w3 ⟨b0,d0,b1,d1,rfl,rA,sA⟩;have nA:=zC rA;have dA:Below w1.heap.size w1 w3:=zA iA sA;have aA:=zC (HC.out.zeF dA);have eA:=zC (HX.out.zeF dA);clear rA
 (try go_wp2_with fail)
 refine hK.out _ _ ⟨eA.out.1.1,eA.out.2.1⟩ ?_;clear hK K hHeld;intro hHeld
 try simp only[Act.put,s1,s2,s3]
 have bB:=zWY (.slice b0 q.n d0) (.slice b1 q.hn d1) 0 0 0;refine tk 8 (h:=tk 9 (h:=tk 10 (h:=tk 11 (h:=?_))));refine rd [12] (rc (fun K hK=>?_) .nil);obtain⟨⟨t0,eB⟩,⟨t1,fB⟩,-⟩:=aA.out;go_simp
 (try go_wp2_with fail)
 have hT:=(zJ.put w3 C 0 (.slice b0 q.n d0)).trans (zJ.put (w3.setCell ⟨C,0,none⟩ (.slice b0 q.n d0)) C 1 (.slice b1 q.hn d1));have lA:=eA.out.zeG hT (fun h=>by omega);refine hK.out _ _ ⟨lA.1.1,lA.2.1⟩ ?_;clear hK K hHeld t0 eB t1 fB;intro hHeld
 try simp only[Act.put,s1,s2,s3]
 refine wpAnyH_done (by kernel_rfl) ?_ _;have bA:=zC (show zCE ((w3.setCell ⟨C,0,none⟩ (.slice b0 q.n d0)).setCell ⟨C,1,none⟩ (.slice b1 q.hn d1)) C (.slice b0 q.n d0) (.slice b1 q.hn d1) (.int .i64 tm) (.int .i64 nx) z2 z3 (.int .i64 id) (.int .i64 m) u8 from⟨(aA.out.1.set _).other _ (Or.inr (by decide)),(aA.out.2.1.other _ (Or.inr (by decide))).set _,(aA.out.2.2.1.other _ (Or.inr (by decide))).other _ (Or.inr (by decide)),(aA.out.2.2.2.1.other _ (Or.inr (by decide))).other _ (Or.inr (by decide)),(aA.out.2.2.2.2.1.other _ (Or.inr (by decide))).other _ (Or.inr (by decide)),(aA.out.2.2.2.2.2.1.other _ (Or.inr (by decide))).other _ (Or.inr (by decide)),(aA.out.2.2.2.2.2.2.1.other _ (Or.inr (by decide))).other _ (Or.inr (by decide)),(aA.out.2.2.2.2.2.2.2.1.other _ (Or.inr (by decide))).other _ (Or.inr (by decide)),(aA.out.2.2.2.2.2.2.2.2.other _ (Or.inr (by decide))).other _ (Or.inr (by decide))⟩);have aB:Below w.heap.size w w3:=zA fA dA;have pA:=zC (show zJ (fun j=>j=C) w ((w3.setCell ⟨C,0,none⟩ (.slice b0 q.n d0)).setCell ⟨C,1,none⟩ (.slice b1 q.hn d1))from(zJ.zeH aB).trans hT);have lB:=sA.size;have kB:=iA.size;have oA:=zC ((nA.out.zeG hT (fun k e=>by omega)).wide (show w.heap.size<=q0.heap.size by omega) hT.size);clear lA hT bB aA eA nA;generalize ((w3.setCell ⟨C,0,none⟩ (.slice b0 q.n d0)).setCell ⟨C,1,none⟩ (.slice b1 q.hn d1))=w4 at bA pA oA ⊢;obtain⟨y7,mB⟩:=bA.out.2.2.2.2.2.2.2.1;go_wp2_with fail;have kA:=zJ.put w4 C 7 (.int .i64 (m+1));go_end0;refine⟨⟨_,rfl⟩,_,_,⟨bA.out.1.other _ (Or.inr (by decide)),bA.out.2.1.other _ (Or.inr (by decide)),bA.out.2.2.1.other _ (Or.inr (by decide)),bA.out.2.2.2.1.other _ (Or.inr (by decide)),bA.out.2.2.2.2.1.other _ (Or.inr (by decide)),bA.out.2.2.2.2.2.1.other _ (Or.inr (by decide)),bA.out.2.2.2.2.2.2.1.other _ (Or.inr (by decide)),bA.out.2.2.2.2.2.2.2.1.set _,bA.out.2.2.2.2.2.2.2.2.other _ (Or.inr (by decide))⟩,?_,pA.out.trans kA⟩;exact(oA.out.zeG kA (fun k e=>by omega)).wide (Nat.le_refl _) kA.size
theorem zWs(C lo hi n:Nat)(P:Nat->Prop)(z0 z1 z2 z3 u8 v:Value)(tm nx id m t:Int)(p:zF)(f g:Nat->Int)(w:World)(hv:qn w lo hi v n f g)(jA:zA4 n f g)(ht:zDd t)(hH:zBa p (ye f g t n))(hC:zCE w C z0 z1 (.int .i64 tm) (.int .i64 nx) z2 z3 (.int .i64 id) (.int .i64 m) u8)(hP:zB6 w P z0 z1 p)(mB:∀k,P k->C<k/\k<w.heap.size)(hm:0<=m)(rB:m<=900000) :
  Calls Tryz.prog 92 #[v,.int .i64 t,.func (.func 94) #[.pointer (some ⟨C,0,none⟩)] #[]] w fun e w'=>∃vo y0 y1,e = .returned vo/\zBd w' w.heap.size vo (zD4 f g t n)/\zCE w' C y0 y1 (.int .i64 tm) (.int .i64 nx) z2 z3 (.int .i64 id) (.int .i64 (m+((ye f g t n).length:Int))) u8/\zB6 w' (fun j=>P j\/(w.heap.size<=j/\j<w'.heap.size)) y0 y1 (zT p (ye f g t n))/\zJ (fun j=>j=C) w w':=by
 have pB:=hC.1.lt;have mA:(ye f g t n).length<=200:=by have:=zFJ f g t n;have:=jA.1;omega
 have HS:=zC (show Calls Tryz.prog 120 #[v,.int .i64 t] w fun e w'=>∃vy vo,e = .returned (.agg #[vy,vo])/\zHW (ye f g t n) (zD4 f g t n) w w' vy vo by
  refine(zDQ v n lo hi f g t w hv).mono ?_;rintro e w1 ⟨vy,vo,l,l',rfl,hy,ho,hr⟩;rw[hy.1 ⟨jA,ht⟩,ho.1 ⟨jA,ht⟩]at hr;exact⟨vy,vo,rfl,hr⟩)
 have HC:=zC hC;have HP:=zC hP;have HH:=zC hH;obtain⟨-,av,cv,rfl,-,-⟩:=(show qn w lo hi v n f g from hv);clear hv jA ht hC hP hH;generalize ye f g t n=l at HS HH mA ⊢;generalize zD4 f g t n=l' at HS ⊢;go_enter Tryz.func92,Tryz.ntmps92;go_wp2_with fail;refine HS.out.mono ?_;clear HS;rintro e w1 ⟨vy,vo,rfl,nA,oA,-,gB⟩;obtain⟨ay,cy,rfl,-⟩:=zs nA;obtain⟨ao,co,rfl,-⟩:=zs oA;obtain⟨bo,bA,iB⟩:=nA.own (by unfold maxLen;omega);have gA:=zD w1 (.cells #[.slice ay l.length cy,.slice ao l'.length co] 148);have HX:=zC (zAT.new w1 (.slice ay l.length cy) (.slice ao l'.length co) 148);have iA:=zA gB gA;have pA:=zC (HC.out.zeF iA);have tA:=zC (HP.out.zeF iA);have lA:=zC (zBd.zeF oA gA);have sA:=zC (bA.zeF gA);have lB:=zC iB;have sB:=gB.size;have oB:(w1.alloc (.cells #[.slice ay l.length cy,.slice ao l'.length co] 148)).heap.size=w1.heap.size+1:=World.size_alloc _ _;obtain⟨⟨x0,-⟩,⟨x1,-⟩⟩:=HX.out;clear nA oA bA iB HC HP;go_wp2_with fail;clear x0 x1;generalize w1.alloc (.cells #[.slice ay l.length cy,.slice ao l'.length co] 148)=w2 at gA HX iA pA tA lA sA oB ⊢
 go_loopw [16] (fun i wr=>∃(k:Nat) (y0 y1:Value),k<=l.length/\i = .int .i64 k/\zCE wr C y0 y1 (.int .i64 tm) (.int .i64 nx) z2 z3 (.int .i64 id) (.int .i64 (m+(k:Int))) u8/\zB6 wr (fun j=>P j\/(w.heap.size<=j/\j<wr.heap.size)) y0 y1 (zT p (l.take k))/\zJ (fun j=>j=C) w2 wr) (fun i _=>l.length - (intOf i).toNat)
 case atStart=>exact⟨0,_,_,Nat.zero_le _,rfl,by simpa using pA.out,tA.out.mono (fun j h=>Or.inl h),zJ.refl _ _⟩
 case round=>
  obtain⟨k,y0,y1,hk,rfl,bB,eB,fA⟩:=hrel;have rA:=zC bB;have kA:=zC eB;have cA:=zC fA;have aC:=fA.size;have hX:=HX.out.zeG fA (fun h=>by omega);obtain⟨⟨x0,-⟩,⟨x1,-⟩⟩:=hX;clear bB eB fA;by_cases eA:k<l.length
  ·have nB:(k:Int)<(l.length:Int):=(by omega);have bA:=sA.out.zeG cA.out (fun h0 e=>by
    obtain⟨_,h,_⟩:=lB.out h0;omega)
   obtain⟨_,a,c,e1,_,hx⟩:=bA;obtain⟨off,rfl,dA⟩:=hx (by omega);simp only[Value.slice.injEq,true_and]at e1;obtain⟨rfl,rfl⟩:=e1;obtain⟨⟨q0,-⟩,⟨q1,-⟩⟩:=dA k eA;have hn:=HH.out.next eA;have e0:l[k]=(zh l k,zn l k):=by
    unfold zh zn;rw[List.getD_eq_getElem?_getD,List.getElem?_eq_getElem eA];rfl
   rw[e0]at hn;have HN:=zC hn;clear hn e0 dA hx;have aA:=zD wr (.cells #[.int .i64 (zh l k),.int .i64 (zn l k)] 38);obtain⟨⟨r0,-⟩,⟨r1,-⟩⟩:=zAT.new wr (.int .i64 (zh l k)) (.int .i64 (zn l k)) 38;go_wp2_with fail;have tB:=aA.size;refine(zTO C 0 wr.heap.size y0 y1 z2 z3 u8 tm nx id (m+(k:Int)) (zT p (l.take k)) (zT p (l.take (k+1))) (zh l k,zn l k) _ (rA.out.zeF aA) (((kA.out.at (lo:=0) (hi:=wr.heap.size) (fun j h=>⟨Nat.zero_le _,by
    rcases h with h | h
    ·have:=mB j h;omega
    ·omega⟩))).zeF aA) (by have:=zEk HN.out.2;omega) HN.out.1 (by omega) (by omega)).mono ?_
   rintro e w4 ⟨⟨ve,rfl⟩,t0,t1,aB,cB,fB⟩;have jB:=zC aB;have kB:=zC cB;have vA:=zC fB;clear r0 r1 q0 q1 x0 x1 aB cB fB;go_wp2_with fail;go_roundw
   case rel=>
    have vB:=vA.out.size;refine⟨k+1,t0,t1,by omega,by go_num,?_,kB.out.isIn (fun j h1 h2=>Or.inr ⟨by omega,h2⟩),cA.out.trans ((zJ.zeH aA).trans vA.out)⟩;have e:m+((k+1:Nat):Int)=m+(k:Int)+1:=(by omega);rw[e];exact jB.out
   case measure=>simp[intOf];omega
  ·obtain rfl:k=l.length:=(by omega);go_wp2_with fail;rw[List.take_length]at kA;go_ret;refine⟨_,y0,y1,rfl,?_,rA.out,kA.out,((zJ.zeH iA).trans cA.out)⟩;exact lA.out.zeG (row:=some C) ⟨cA.out.os,cA.out.tape,cA.out.output,cA.out.size,fun k hk hn=>cA.out.block k hk (fun e=>hn (by rw[e]))⟩ (fun q hq e=>by
    injection e with e;have:=zBd.lt lA.out hq;omega)
theorem zeA{l:List (Int×Int)}{i:Nat}(hi:i<l.length):(zh l i,zn l i)∈l:=by
 have e:(zh l i,zn l i)=l[i]:=by
  unfold zh zn;rw[List.getD_eq_getElem?_getD,List.getElem?_eq_getElem hi];rfl
 rw[e];exact List.getElem_mem hi
theorem zZ4(l:List (Int×Int)):((List.range l.length).map fun i=>(zh l i,zn l i))=l:=by
 refine List.ext_getElem (by simp) (fun i h1 h2=>?_);rw[List.getElem_map,List.getElem_range];unfold zh zn;rw[List.getD_eq_getElem?_getD,List.getElem?_eq_getElem h2];rfl
theorem zXI{p:zF}{rs rb:Int}(hR:zg p)(hT:za p rs rb):zA4 (zM p rs rb).length (zh (zM p rs rb)) (zn (zM p rs rb)):=by
 refine⟨by have:=qx p rs rb;omega,fun i hi=>?_,fun i hi k hk e=>?_⟩
 ·have h:=zBc hR hT (zeA hi);have hf:=zAg hR h.1;have hb:=hf.1;have h1:=h.1;have h2:=hR.1;unfold qp at h1;unfold zBW at hb;unfold zHK;dsimp only at h1 hb ⊢;have h3:=h1.2.2.2;omega
 ·have hn:=(zBa.tree hR hT).2.2;have aA:i<((zM p rs rb).map Prod.fst).length:=(by rw[List.length_map];exact hi);have bA:k<((zM p rs rb).map Prod.fst).length:=(by rw[List.length_map];omega);have e1:∀j (hj:j<((zM p rs rb).map Prod.fst).length),((zM p rs rb).map Prod.fst)[j]=zh (zM p rs rb) j:=fun j hj=>by
   rw[List.length_map]at hj;rw[List.getElem_map];unfold zh;rw[List.getD_eq_getElem?_getD,List.getElem?_eq_getElem hj];rfl
  have:=(List.getElem_inj (h₀:=bA) (h₁:=aA) hn).1 (by rw[e1,e1];exact e);omega
def zXx(p:zF)(xs xb:Int)(l:List (Int×Int)):Prop:=(yf p xs xb->l=zM p xs xb)/\(¬yf p xs xb->l = [])
def zae(p:zF)(xs xb:Int)(w:World)(e:Ending)(w':World):Prop:=∃v l,e = .returned v/\zXx p xs xb l/\zBd w' w.heap.size v l/\Below w.heap.size w w'
theorem zKq(v0 v1:Value)(lo hi:Nat)(p:zF)(xs xb:Int)(w:World)(h1:zCG w lo hi v0 v1 p) :
  Calls Tryz.prog 93 #[.agg #[v0,v1],.agg #[.int .i64 xs,.int .i64 xb]] w (zae p xs xb w):=by
 have Hp:=qC h1;obtain⟨a,c,a',c',rfl,rfl⟩:∃a c a' c',v0 = .slice a p.n c/\v1 = .slice a' p.hn c':=by
  obtain⟨⟨_,a,c,h1,_⟩,⟨_,a',c',h3,_⟩⟩:=h1;exact⟨a,c,a',c',h1,h3⟩
 clear h1;have eA:=zQ3 w (.slice a p.n c) (.slice a' p.hn c') (.int .i64 xs) (.int .i64 xb) 26 38;go_enter Tryz.func93,Tryz.ntmps93;go_wp2_with fail;generalize (w.alloc (.cells #[.slice a p.n c,.slice a' p.hn c'] 26)).alloc (.cells #[.int .i64 xs,.int .i64 xb] 38)=W at eA ⊢;obtain⟨hB,hX,cA,hz⟩:=eA;refine(zJy _ _ lo hi p xs xb W (Hp.out.zeF cA)).mono ?_;rintro e w1 ⟨⟨t,rfl,ht⟩,bA⟩;have fA:=qC (hB.zeF bA);have gA:=qC (hX.zeF bA);have aA:=zA cA bA;clear hB hX cA bA hz;by_cases hR:yf p xs xb
 ·have HR:=qC hR;obtain rfl:t=true:=ht.2 hR;clear ht hR;have HP:=qC (show Nil xs xb\/qp p xs xb from HR.out.2.imp id (fun h=>h.1.1));obtain⟨⟨x0,x1⟩,⟨x2,x3⟩⟩:=fA.out;obtain⟨⟨y0,y1⟩,⟨y2,y3⟩⟩:=gA.out;go_wp2_with fail;refine(zK0 p HR.out.1 _ lo hi xs xb _ (Hp.out.1.zeF aA) HP.out).mono ?_;rintro e w2 ⟨v,rfl,hr,dA⟩;obtain⟨va,vc,rfl,_⟩:=zs hr;have Hr:=qC (show zBd w2 w1.heap.size (.slice va (zM p xs xb).length vc) (zM p xs xb)from hr);have iA:=zA aA dA;have jA:=aA.size;clear dA hr;go_wp2;go_ret;exact⟨_,zM p xs xb,rfl,⟨fun _=>rfl,fun h=>absurd HR.out h⟩,Hr.out.mono jA,iA⟩
 ·have HR:=qC hR;obtain rfl:t=false:=qj ht hR;clear ht hR;go_wp2;go_ret;exact⟨_,[],rfl,⟨fun h=>absurd h HR.out,fun _=>rfl⟩,zBd.nil _ _,aA⟩
theorem zTf(v:Value)(s:zl)(w:World):(Instr.field 41 (.agg #[.int .i64 s.id,.string s.name,.string s.set,.int .i64 s.zeL,.int .i64 s.time,.int .i64 s.rs,.int .i64 s.rb,v]) 5).run Tryz.prog w = .ok (.agg #[.int .i64 s.rs,.int .i64 s.rb]) w:=by kernel_rfl
theorem zRk(v:Value)(s:zl)(w:World):(Instr.field 41 (.agg #[.int .i64 s.id,.string s.name,.string s.set,.int .i64 s.zeL,.int .i64 s.time,.int .i64 s.rs,.int .i64 s.rb,v]) 4).run Tryz.prog w = .ok (.int .i64 s.time) w:=by kernel_rfl
theorem zLK(C lo hi:Nat)(z0 z1 z2 z3 u6 u7 u8:Value)(W:zB)(x:Int)(w:World)(h:yO w lo hi z0 z1 z2 z3 W)(hC:zCE w C z0 z1 (.int .i64 W.time) (.int .i64 W.next) z2 z3 u6 u7 u8)(hn:W.pn<=20)(eA:zRC W.pn W.zeJ)(hD:zEU W)(hx:(Lit.int .i64 x).wf=true) :
  Calls Tryz.prog 51 #[.pointer (some ⟨C,0,none⟩),.int .i64 x] w fun e w'=>∃a c,e = .returned (zCi (.slice a (zE W x).dn c) (zE W x))/\Below w.heap.size w w':=by
 have Hp:=zC h;obtain⟨l0,iA,l1,jA,l2,kA,l3,lA,rfl,rfl,rfl,rfl⟩:=h.zeQ;have HD:=zC hD;have fA:=zC eA;have Hx:=zC hx;have ha:=zD w (.cells #[.int .i64 0,.string ⟨#[]⟩,.string ⟨#[]⟩,.int .i64 0,.int .i64 0,.int .i64 0,.int .i64 0,.slice none 0 0] 41);obtain⟨⟨x0,-⟩,⟨x1,-⟩,⟨x2,-⟩,⟨x3,-⟩,⟨x4,-⟩,⟨x5,-⟩,-⟩:=hC.zeF ha;have HR:=zC (zF0.new w (.int .i64 0) (.string ⟨#[]⟩) (.string ⟨#[]⟩) (.int .i64 0) (.int .i64 0) (.int .i64 0) (.int .i64 0) (.slice none 0 0) 41);clear h hD eA hx hC;obtain⟨S,hS⟩:∃S,S=zE W x:=⟨_,rfl⟩;rw[<-hS];unfold zCi;have HS:=zC hS;clear hS;go_enter Tryz.func51,Tryz.ntmps51;go_wp2_with fail;clear x0 x1 x2 x3 x4 x5;generalize w.alloc (.cells #[.int .i64 0,.string ⟨#[]⟩,.string ⟨#[]⟩,.int .i64 0,.int .i64 0,.int .i64 0,.int .i64 0,.slice none 0 0] 41)=W1 at ha HR ⊢;refine(zFp _ _ _ _ lo hi W W1 (Hp.out.zeF ha) hn fA.out).mono ?_;rintro e w2 ⟨A,rfl,hA,cA⟩;have HA:=zC hA;clear hA;go_wp2_with fail;refine(zDh lo hi W A x w2 HA.out HD.out Hx.out hn).mono ?_;rw[<-HS.out];unfold zCi;rintro e w3 ⟨a,c,rfl,gA,dA⟩;have hb:=zA (zA ha cA) dA;have bA:=zC ((HR.out.zeF cA).zeF dA);clear gA;obtain⟨⟨⟨r0,g0⟩,⟨r1,g1⟩,⟨r2,g2⟩,⟨r3,g3⟩⟩,⟨r4,g4⟩,⟨r5,g5⟩,⟨r6,g6⟩,⟨r7,g7⟩⟩:=bA.out;go_wp2_with fail;have aA:=bA.out.put (.int .i64 S.id) (.string S.name) (.string S.set) (.int .i64 S.zeL) (.int .i64 S.time) (.int .i64 S.rs) (.int .i64 S.rb) (.slice a S.dn c);have hT:=zJ.put8 w3 w.heap.size (.int .i64 S.id) (.string S.name) (.string S.set) (.int .i64 S.zeL) (.int .i64 S.time) (.int .i64 S.rs) (.int .i64 S.rb) (.slice a S.dn c);clear r0 g0 r1 g1 r2 g2 r3 g3 r4 g4 r5 g5 r6 g6 r7 g7;refine bodyPost_ret (v:=.agg #[.int .i64 S.id,.string S.name,.string S.set,.int .i64 S.zeL,.int .i64 S.time,.int .i64 S.rs,.int .i64 S.rb,.slice a S.dn c]) (by simp[results,Tryz.results51,go_sem,aA.1.1.1,aA.1.2.1.1,aA.1.2.2.1.1,aA.1.2.2.2.1,aA.2.1.1,aA.2.2.1.1,aA.2.2.2.1.1,aA.2.2.2.2.1]) rfl ⟨a,c,rfl,?_⟩
 ·exact hb.trans (hT.zeF (B:=w.heap.size) hb.size (fun k e=>by omega))
end Go.Proofs.YtjganmlaooofoaaGreatDoor

/- A part of the proof. -/
import Derived.Test.YtginldeebkfbgaaGreatF25
set_option linter.unusedVariables false
set_option maxRecDepth 20000
set_option maxHeartbeats 4000000
namespace Go.Proofs.YtginldeebkfbgaaGreat
open Go.RowKit
structure zEw (c:Nat) (s:zB9):Prop where
  dn:s.dn<=450+c
  name:s.name.size<=8000
  zbi:0<=s.zbi/\s.zbi<=1000000
structure zFM (c:Nat) (s:yY):Prop where
  dn:s.dn<=450+c
  name:s.name.size<=8000
  set:s.set.size<=8000
  zbi:0<=s.zbi/\s.zbi<=1000000
  id:0<=s.id/\s.id<=1000000
structure zAd (c:Nat) (W:zB):Prop where
  pool:yI W.pool<=19000+c
  sn:W.sn<=9
  pn:W.pn<=21
  next:0<=W.next/\W.next<=900001
  zbh:∀i,i<W.sn->zEw c (W.zbh i)
  zbg:∀i,i<W.pn->zFM c (W.zbg i)
theorem zC2{c:Nat}{e:Int}:zAd c (qa e).world:=⟨by show yI (zG8 0)<=_;exact Nat.zero_le _,Nat.zero_le _,Nat.zero_le _,by show(0:Int)<=0/\(0:Int)<=900001;omega,fun i hi=>absurd hi (Nat.not_lt_zero _),fun i hi=>absurd hi (Nat.not_lt_zero _)⟩
structure zPk (W:zB):Prop where
  pool:yI W.pool<=10000
  sn:W.sn<=8
  pn:W.pn<=20
  next:1<=W.next/\W.next<=900000
  zbh:∀i,i<W.sn->(W.zbh i).dn<=200/\(W.zbh i).name.size<=20/\0<=(W.zbh i).zbi/\(W.zbh i).zbi<=900000
  zbg:∀i,i<W.pn->(W.zbg i).dn<=200/\(W.zbg i).name.size<=20/\(W.zbg i).set.size<=20/\(0<=(W.zbg i).zbi/\(W.zbg i).zbi<=900000)/\1<=(W.zbg i).id/\(W.zbg i).id<=900000
theorem zGG{W:zB}(h:ql W):zPk W:=by
  obtain⟨n1,n2,n3,n4,n5,n6⟩:=h.zbj;have hp:=h.zbj.zbf;have hd:=zRG h;have pr:∀x,x=0\/zAC W x->0<=x/\x<=900000:=fun x hx=>by
    rcases hx with rfl | hx
    · omega
    · have:=hx.range hp;omega
  refine⟨zE8 h.right,n3,n4,n2,fun i hi=>⟨hd.1 i hi,(n5 i hi).1.2.1,pr _ (hp.zbh i hi)⟩,fun i hi=>⟨hd.2 i hi,(n6 i hi).1.2.2.2.2.1.2.1,?_,pr _ (hp.zbi i hi),by have:=hp.ids i hi;omega⟩⟩;obtain⟨j,hj,e⟩:=(n6 i hi).1.2.2.2.2.2;rw[<-e];exact(n5 j hj).1.2.1
theorem zPk.set{W:zB}(h:zPk W){i:Nat}(hi:i<W.sn):zEw 0 (W.zbh i):=by
  obtain⟨h1,h2,h3,h4⟩:=h.zbh i hi;exact⟨by omega,by omega,h3,by omega⟩
theorem zPk.snap{W:zB}(h:zPk W){i:Nat}(hi:i<W.pn):zFM 0 (W.zbg i):=by
  obtain⟨h1,h2,h3,h4,h5⟩:=h.zbg i hi;exact⟨by omega,by omega,by omega,by omega,by omega⟩
theorem zAd.up{c:Nat}{W:zB}(h:zAd 0 W):zAd c W:=⟨Nat.le_trans h.pool (by omega),h.sn,h.pn,h.next,fun i hi=>⟨Nat.le_trans (h.zbh i hi).dn (by omega),(h.zbh i hi).name,(h.zbh i hi).zbi⟩,fun i hi=>⟨Nat.le_trans (h.zbg i hi).dn (by omega),(h.zbg i hi).name,(h.zbg i hi).set,(h.zbg i hi).zbi,(h.zbg i hi).id⟩⟩
theorem zEp(p:zF)(l:List (Int×Int)):yI (qe p l)=yI p+l.length:=by
  obtain⟨h1,h2,h3⟩:=zBu l p;unfold yI;rw[h1,h2,h3];omega
theorem zMc{f:Nat->zN}{j:Nat}:∀{n:Nat},j<n->zDI (f j)<=zBt f n
  | n+1,h=>by
    have e:zBt f (n+1)=zBt f n+zDI (f n):=rfl;by_cases hj:j=n
    · rw[e,hj];omega
    · have:=zMc (f:=f) (j:=j) (n:=n) (by omega)
      omega
theorem zAd.zbk{c:Nat}{W:zB}(h:zAd c W)(hc:c<=10):yU W:=by
  have hp:=h.pool;have h1:W.pool.n<=yI W.pool:=(by unfold yI;omega);have h2:W.pool.hn<=yI W.pool:=Nat.le_add_left ..;have h3:zBt W.pool.s W.pool.n<=yI W.pool:=(by unfold yI;omega);have hs:=h.sn;have hn:=h.pn;refine⟨⟨by omega,by omega,by omega,by omega,fun i hi=>?_,fun i hi=>?_⟩,fun i hi=>?_⟩
  · have:=(h.zbh i hi).dn;omega
  · have:=(h.zbg i hi).dn;omega
  · have:=zMc (f:=W.pool.s) hi
    have:(W.pool.s i).kn<=zDI (W.pool.s i):=Nat.le_add_right ..;omega
theorem zKJ{f g:Nat->zN}:∀{n:Nat},(∀i,i<n->zDI (f i)<=zDI (g i))->zBt f n<=zBt g n
  | 0,_=>Nat.le_refl _
  | n+1,h=>Nat.add_le_add (zKJ fun i hi=>h i (by omega)) (h n (by omega))
theorem zVT(p:zF):yI (zKM p)<=yI p:=by
  by_cases h:zf p/\zf (zI8 p)
  · rw[zRT h.1 h.2]
    have:zBt (zI8 p).s p.n<=zBt p.s p.n:=zKJ fun i hi=>by
      show zDI ((zDV p p.hn).s i)<=_;unfold zDV;dsimp only;split
      · exact Nat.zero_le _
      · exact Nat.le_refl _
    show p.n+zBt (zI8 p).s p.n+0<=p.n+zBt p.s p.n+p.hn;omega
  · rw[zPa h];exact Nat.le_refl _
theorem zYA(W:zB)(x:ByteArray):zHi W x<=W.sn:=by
  by_cases h:∃k,k<W.sn/\¬zCW (W.zbh k).name x/\∀j,j<k->zCW (W.zbh j).name x
  · obtain⟨k,h1,h2,h3⟩:=h
    rw[zPx h1 h2 h3];omega
  · unfold zHi
    rw[dif_neg h];exact Nat.le_refl _
theorem zQR{W:zB}(L:zPk W){x:ByteArray}(hx:x.size<=8000){o p rs rb:Int}(hp:0<=p/\p<=1000000):zAd 0 (zFw W (zHi W x) (zDp x o p rs rb)):=by
  have hs:=L.sn;refine⟨by have:=L.pool;show yI W.pool<=_;omega,by show W.sn+1<=9;omega,by have:=L.pn;show W.pn<=_;omega,by have:=L.next;show 0<=W.next/\W.next<=_;omega,fun i hi=>?_,fun i hi=>L.snap hi⟩;replace hi:i<W.sn+1:=hi;show zEw 0 (ins W.zbh (zHi W x) (zDp x o p rs rb) i);have hk:zHi W x<=W.sn:=zYA W x;rcases Nat.lt_trichotomy i (zHi W x)with e | e | e
  · rw[zWQ e];exact L.set (by omega)
  · rw[e,zWO];exact⟨Nat.zero_le _,hx,hp⟩
  · rw[zWP e];exact L.set (by omega)
theorem zGu(W:zB)(x:ByteArray):zAd 0 (zDz W x).world:=by
  unfold zDz
  repeat' split
  all_goals first
    | exact zC2
    | exact zQR (zGG (by rename_i h _;exact h.1)) (by omega) (by omega)
theorem zLh(W:zB)(id:Int)(x:ByteArray):zAd 0 (zEW W id x).world:=by
  unfold zEW
  repeat' split
  all_goals first
    | exact zC2
    | (rename_i h8 hR hH _
       have:=hH.range hR.1.zbj.zbf;exact zQR (zGG hR.1) (by omega) (by omega))
theorem zF7(W:zB)(x a:ByteArray):zAd 0 (zEB W x a).world:=by
  unfold zEB
  repeat' split
  all_goals first
    | exact zC2
    | skip
  rename_i h8 hR hH _ h20
  have L:=zGG hR.1;have hp:=L.pn;have hn:=L.next;have hs:=L.sn;refine⟨by have:=L.pool;show yI W.pool<=_;omega,by show W.sn<=9;omega,by show W.pn+1<=21;omega,by show 0<=W.next+1/\W.next+1<=_;omega,fun i hi=>?_,fun i hi=>?_⟩
  · replace hi:i<W.sn:=hi
    show zEw 0 (if i=zB4 W x then {W.zbh (zB4 W x)with zbi:=W.next,dn:=0}else W.zbh i);split
    · rename_i e
      have g:=L.set hi;rw[<-e];exact⟨Nat.zero_le _,g.name,by show 0<=W.next/\W.next<=_;omega⟩
    · exact L.set hi
  · replace hi:i<W.pn+1:=hi
    show zFM 0 (if i=W.pn then zFn W (zB4 W x) a x else W.zbg i);split
    · have hk:=zHG hH
      have aA:=zAp.2 hH;have g:=L.set (i:=zB4 W x) (by show(zA2 W.sn fun k=>(W.zbh k).name=x).toNat<W.sn;omega);exact⟨g.dn,by show a.size<=8000;omega,by show x.size<=8000;omega,g.zbi,by show 0<=W.next/\W.next<=_;omega⟩
    · exact L.snap (by omega)
theorem zMq(W:zB)(k:Nat)(t:Int):(zHg W k t).length<=73:=Nat.le_trans (zBo ..) (qc ..)
theorem zUe(W:zB)(x:ByteArray):zAd 0 (zKH W x).world:=by
  unfold zKH zT7
  repeat' split
  all_goals first
    | exact zC2
    | skip
  rename_i h8 hR hH hK
  have L:=zGG hR;have hy:=zMq W (zB4 W x) (W.zbg (zHv W (W.zbh (zB4 W x)).zbi)).time;refine⟨?_,by have:=L.sn;show W.sn<=9;omega,by have:=L.pn;show W.pn<=21;omega,by have:=L.next;show 0<=W.next/\W.next<=_;omega,fun i hi=>?_,fun i hi=>L.snap hi⟩
  · show yI (qe W.pool _)<=_
    rw[zEp];have:=L.pool;omega
  · replace hi:i<W.sn:=hi
    show zEw 0 (if i=zB4 W x then {W.zbh (zB4 W x)with rs:=_,rb:=_,dn:=0}else W.zbh i);split
    · rename_i e
      have g:=L.set hi;rw[<-e];exact⟨Nat.zero_le _,g.name,g.zbi⟩
    · exact L.set hi
theorem zUd(W:zB)(x:ByteArray):zAd 0 (zJz W x).world:=by
  unfold zJz
  repeat' split
  all_goals first
    | exact zC2
    | skip
  rename_i h8 hR hH hK
  have L:=zGG hR;have hy:=zMq W (zB4 W x) (zE W (W.zbh (zB4 W x)).zbi).time;refine⟨?_,by have:=L.sn;show W.sn - 1<=9;omega,by have:=L.pn;show W.pn<=21;omega,by have:=L.next;show 0<=W.next/\W.next<=_;omega,fun i hi=>?_,fun i hi=>L.snap hi⟩
  · show yI (qe W.pool _)<=_
    rw[zEp];have:=L.pool;omega
  · replace hi:i<W.sn - 1:=hi
    show zEw 0 (if i<zB4 W x then W.zbh i else W.zbh (i+1));split
    · exact L.set (by omega)
    · exact L.set (by omega)
theorem zWB(W:zB)(x:ByteArray):zAd 0 (zRA W x).world:=by
  unfold zRA zXY
  repeat' split
  all_goals first
    | exact zC2
    | skip
  rename_i h8 hR hH _ _
  have L:=zGG hR;refine⟨by have:=L.pool;show yI W.pool<=_;omega,by have:=L.sn;show W.sn<=9;omega,by have:=L.pn;show W.pn<=21;omega,by have:=L.next;show 0<=W.next/\W.next<=_;omega,fun i hi=>?_,fun i hi=>?_⟩
  · replace hi:i<W.sn:=hi
    have g:=L.set hi;unfold zXZ;dsimp only;split
    · rename_i e;rw[<-e];exact⟨g.dn,g.name,g.zbi⟩
    · split
      · rename_i e;rw[<-e];exact⟨g.dn,g.name,g.zbi⟩
      · exact g
  · replace hi:i<W.pn:=hi
    have g:=L.snap hi;unfold zXZ zKa;dsimp only;split
    · exact⟨g.dn,g.name,by show x.size<=8000;omega,g.zbi,g.id⟩
    · exact g
theorem zQS{W:zB}(L:zPk W){k:Nat}{t:zD4}(h1:yI t.pool<=yI W.pool+40)(h2:t.old.length<=3):zAd 0 (zFF W k t).world:=by
  unfold zFF;split;rotate_left
  · exact zC2
  have hy:(zYg W k t).length<=t.old.length:=zBo ..;have ho:(za4 W k t).length<=t.old.length:=zHA ..;refine⟨?_,by have:=L.sn;show W.sn<=9;omega,by have:=L.pn;show W.pn<=21;omega,by have:=L.next;show 0<=W.next/\W.next<=_;omega,fun i hi=>?_,fun i hi=>L.snap hi⟩
  · show yI (qe t.pool _)<=_
    rw[zEp];have:=L.pool;omega
  · replace hi:i<W.sn:=hi
    show zEw 0 (if i=k then zLx W k t else W.zbh i);split
    · rename_i e
      subst e;have g:=L.set hi;have g':=(L.zbh i hi).1;refine⟨?_,g.name,g.zbi⟩;show(zWW W i t).length<=_;unfold zWW;rw[List.length_append,zHb];omega
    · exact L.set hi
theorem zSC(W:zB)(x:ByteArray)(aA:Int)(d:ByteArray):zAd 0 (zHL W x aA d).world:=by
  unfold zHL
  repeat' split
  all_goals first
    | exact zC2
    | (rename_i h8 hR hH
       exact zQS (zGG hR) (zHM ..).1 (zHM ..).2)
theorem zUg(W:zB)(x:ByteArray)(aA:Int):zAd 0 (zKN W x aA).world:=by
  unfold zKN
  repeat' split
  all_goals first
    | exact zC2
    | (rename_i h8 hR hH
       exact zQS (zGG hR) (zIK ..).1 (zIK ..).2)
theorem zWC{W:zB}(L:zPk W){x:Int}{k:Nat}(hk:k<W.pn):zAd 0 (sdK W x k).world:=by
  have gk:=L.snap hk;have bA:=(L.zbg k hk).1;have aA:∀{f:Nat->yY},(∀i,i<W.pn->zFM 0 (f i))->∀i,i<W.pn - 1->zFM 0 (del f k i):=fun {f} hf i hi=>by
    unfold del;split
    · exact hf i (by omega)
    · exact hf (i+1) (by omega)
  have hl:∀(n:Nat) (f h:Nat->Int),(sdD W (W.zbg k) n f h).length<=200+n:=fun n f h=>by
    unfold sdD;rw[List.length_append,zHb];have:(sdO W (W.zbg k) n f h).length<=n:=zHA ..;omega
  have hs:=L.sn;have hp:=L.pn;have hn:=L.next;have hq:=L.pool;unfold sdK;split
  · rename_i h
    have hi:=h.choose_spec.1;generalize h.choose=i at hi ⊢;have g:=L.set hi;have g':=(L.zbh i hi).1;have hy:(zM8 W k i).length<=(W.zbh i).dn:=zBo ..;refine⟨by show yI (qe W.pool _)<=_;rw[zEp];omega,by show W.sn<=9;omega,by show W.pn - 1<=21;omega,by show 0<=W.next/\W.next<=_;omega,fun j hj=>?_,aA fun j hj=>L.snap hj⟩;show zEw 0 (if j=i then zUA W (W.zbg k) (W.zbh i)else W.zbh j);split
    · exact⟨Nat.le_trans (hl ..) (by omega),g.name,gk.zbi⟩
    · exact L.set hj
  split
  · rename_i h
    have hi:=h.choose_spec.1;generalize h.choose=i at hi ⊢;have g:=L.snap hi;have g':=(L.zbg i hi).1;have hy:(zRF W k i).length<=(W.zbg i).dn:=zBo ..;refine⟨by show yI (qe W.pool _)<=_;rw[zEp];omega,by show W.sn<=9;omega,by show W.pn - 1<=21;omega,by show 0<=W.next/\W.next<=_;omega,fun j hj=>L.set hj,aA fun j hj=>?_⟩;show zFM 0 (if j=i then zPU W (W.zbg k) (W.zbg i)else W.zbg j);split
    · exact⟨Nat.le_trans (hl ..) (by omega),g.name,g.set,gk.zbi,g.id⟩
    · exact L.snap hj
  · exact⟨by show yI W.pool<=_;omega,by show W.sn<=9;omega,by show W.pn - 1<=21;omega,by show 0<=W.next/\W.next<=_;omega,fun j hj=>L.set hj,aA fun j hj=>L.snap hj⟩
theorem zYW(W:zB)(x:Int):zAd 0 (sdE W x).world:=by
  unfold sdE
  repeat' split
  all_goals first
    | exact zC2
    | skip
  rename_i hR hH h1
  refine zWC (zGG hR) ?_;have hk:=zNs hH;have aA:=zGX.2 hH;show(zA2 W.pn fun k=>(W.zbg k).id=x).toNat<W.pn;omega
theorem zUf{c:Nat}{W:zB}(h:zAd c W):zAd c {W with pool:=zKM W.pool}:=⟨Nat.le_trans (zVT _) h.pool,h.sn,h.pn,h.next,h.zbh,h.zbg⟩
abbrev tT:List (Bool×List Tr):=[(false,[.v (.bool true)])]
abbrev byT(n:Nat)(f:Nat->Int):Bool×List Tr:=(false,[.s .z 1 n (zEh f)])
def zEJ(n:Nat)(f:Nat->Int):Prop:=n<=2000000/\∀i,i<n->0<=f i/\f i<256
set_option linter.unusedSimpArgs false
set_option maxRecDepth 20000
set_option maxHeartbeats 3200000
theorem zZT{a b:Int}:zAe .mul .i64 a .i64 b=some (True,.int .i64 (IntKind.i64.wrap (a*b))):=rfl
theorem zZU{a b:Int}:zAe .sub .i64 a .i64 b=some (True,.int .i64 (IntKind.i64.wrap (a - b))):=rfl
theorem zNm{c:Nat}{W:zB}(h:zAd c W)(s:yi):zAd c (zB5 s W).2.world:=by
 unfold zB5;generalize nV (nS (nS s (max 1 W.next)) 5) 16=v;generalize nS (nS (nS s (max 1 W.next)) 5) 16=s3;unfold stepAt;split
 ·exact(zGu ..).up
 ·exact(zUg ..).up
 ·exact(zF7 ..).up
 ·exact(zF7 ..).up
 ·exact(zF7 ..).up
 ·exact(zYW ..).up
 ·exact(zLh ..).up
 ·exact(zLh ..).up
 ·exact(zUd ..).up
 ·exact(zUe ..).up
 ·exact(zWB ..).up
 ·exact zUf h
 ·exact(zSC ..).up
theorem zI7{s:yi}(h:qd s)(W:zB):qd (zB5 s W).1:=by
 have h3:=zAk (zAk (zAk h (max 1 W.next)) 5) 16;unfold zB5;generalize nV (nS (nS s (max 1 W.next)) 5) 16=v;generalize nS (nS (nS s (max 1 W.next)) 5) 16=s3 at h3;unfold stepAt;split<;>dsimp only
 all_goals first
  | exact h3
  | exact zAk h3 _
  | exact zPJ h3
  | exact zAk (zAk (zPJ h3) _) _
theorem zXL(x:Int):yU (nwW x):=by
 unfold nwW;split
 ·refine⟨⟨by show x.toNat<=_;omega,Nat.zero_le _,Nat.zero_le _,Nat.zero_le _,fun i hi=>absurd hi (Nat.not_lt_zero _),fun i hi=>absurd hi (Nat.not_lt_zero _)⟩,fun i hi=>Nat.zero_le _⟩
 ·exact⟨⟨Nat.zero_le _,Nat.zero_le _,Nat.zero_le _,Nat.zero_le _,fun i hi=>absurd hi (Nat.not_lt_zero _),fun i hi=>absurd hi (Nat.not_lt_zero _)⟩,fun i hi=>Nat.zero_le _⟩
noncomputable def runW:Nat->yi->zB->yi×zB
 | 0,s,W=>(s,W)
 | r+1,s,W=>if (zB5 s W).2.code=0 then runW r (zB5 s W).1 (zB5 s W).2.world else runW r (zB5 s W).1 W
theorem zPT:∀(r:Nat) {s:yi} {W:zB},qd s->zAd 0 W->qd (runW r s W).1/\zAd 0 (runW r s W).2
 | 0,s,W,hs,hW=>⟨hs,hW⟩
 | r+1,s,W,hs,hW=>by
  unfold runW;split
  ·exact zPT r (zI7 hs W) (zNm hW s)
  ·exact zPT r (zI7 hs W) hW
noncomputable def spoilAt(s:yi)(W:zB):Nat->yi×zB
 | 0=>(nS s 3,{W with time:=[0,900000,900001].getD (nV s 3).toNat 0})
 | 1=>(s,{W with next:=1})
 | 2=>if 0<W.sn then(s,{W with zbh:=fun i=>if i=0 then {W.zbh 0 with dn:=(zDd (W.zbh 0).dn (W.zbh 0).ds (W.zbh 0).db ++ [(1,1)]).length,ds:=zi (zDd (W.zbh 0).dn (W.zbh 0).ds (W.zbh 0).db ++ [(1,1)]),db:=zu (zDd (W.zbh 0).dn (W.zbh 0).ds (W.zbh 0).db ++ [(1,1)])}else W.zbh i})else(s,W)
 | 3=>if 0<W.pn then(nS s 3,{W with zbg:=fun i=>if i=0 then {W.zbg 0 with zbi:=1+nV s 3}else W.zbg i})else(s,W)
 | 4=>if 0<W.sn then((zE7 s W.pool).1,{W with zbh:=fun i=>if i=0 then {W.zbh 0 with rs:=(zE7 s W.pool).2.1,rb:=(zE7 s W.pool).2.2}else W.zbh i})else(s,W)
 | _=>(nS s 5,{W with pool:=zGv W.pool (nV s 5)})
noncomputable def zFA(s:yi)(W:zB):yi×zB:=if nV s 20=0 then spoilAt (nS (nS s 20) 6) W (nV (nS s 20) 6).toNat else(nS s 20,W)
noncomputable def zBW(s:yi):yi×zB:=
 let q:=runW (nV (nS s 60) (12+2*(nS s 60).size)).toNat (nS (nS s 60) (12+2*(nS s 60).size)) (zDz (nwW (20+nV s 60)) ⟨#[97]⟩).world
 zFA q.1 q.2
attribute [local go_sem] qX List.map_cons List.map_nil Tr.cv yq qK yA qz yp yo yn qy zBE zBG zBF zBB zBD zBC zCa zCc zCb qP zr qQ zt qI qH qU zAA zo zp yE qO tmpsOf zAo yD qN zBA yw yu yr yx yv stpP opds opd opdC kap zAB qJ zn coreU bin zAe zCK get put dlO fgt zBR zBK zBO zBP tyT yk yj Op.operands Call.operands evLoad evLen evStore evAlloc zAj and_true true_and List.append_nil List.nil_append List.cons_append Ret resCv zB3 yV cellM zBh zCE qV StW StR hpT hpO hpV hpA hpL hpC sg nin zCU bdO tmW obW AvE CsE CvE Av.tup Av.ids Cv.ids inD ObE Ob.ids TrE.refl qM yB yC qR qS qT zq zb zX yz zBa zCL zBH evCall argL argOf qZ outOb obO yM qA cvO tot Tr.own rid partsOf fillC zS zBf frz frz1 evBuildSlice zc trs Cv.tr evSlice Option.toArray_none Option.toArray_some evMakeSlice evAppend dstOf srcOf zA3 zBQ zBN zBL zBM ikT qx qw qv qu RetP RetN zBr qD evLd evSt evStoreH zAh evAppendM evAppendT tlOf mvOf rowE shp evTake oOf evC evCallP evCallN evCallO unlast zAO zA1 zAa argsF zCR qg pmC varT vT evField evConv dB0 Option.bind_some Option.bind_none Option.map_some Option.map_none Option.isSome_some Option.isSome_none
attribute [local go_sem] yL za zA7 yd qr zAv zAw zAx zAy zAz zA0 zAD zAE zAF zAG zAH zAI zAJ zAK yS qp
attribute [-go_sem] za zAe
attribute [local go_sem] zAV zCF zCG zAf yy zKl zKm zNS zNQ zNR zJN zJO zJP zNL zZT zZU zNP zNO zNN zNM zDk
noncomputable def zXB:zR:=qE (fun s:yi=>[(true,srV s)]) (fun s=>qd s) (fun s=>[(true,srV (zBW s).1),woO (zBW s).2])
theorem zN6(s:yi):zXB [(true,srV s)]=some (qd s,[(true,srV (zBW s).1),woO (zBW s).2]):=zK (fun l=>zGq (nth l 0)) (fun _=>rfl) s
theorem zKA:zBd Tryz.prog 48 zXB:=by
 refine zA8 (A:=fun _=>[]) zl (GOk.cons zPw (zG Tryz.func83 rfl rfl) (GOk.ptr zSX (zG Tryz.func85 rfl rfl) (GOk.ptr zPM (zG Tryz.func86 rfl rfl) (GOk.ptr zPG (zG Tryz.func84 rfl rfl) (GOk.cons zNG (zG Tryz.func82 rfl rfl) (GOk.ptr zUm (zG Tryz.func87 rfl rfl) GOk.nil)))))) zk Tryz.func48 rfl Tryz.ntmps48 Tryz.results48 88 ?_;rintro s hs;replace hs:qd s:=hs;obtain⟨t,ht⟩:∃t,zBW s=t:=⟨_,rfl⟩;obtain⟨s1,e1⟩:∃s1,nS s 60=s1:=⟨_,rfl⟩;have h1:qd s1:=e1▸zAk hs _;have hv:=zG7 s (m:=60) (by omega) (by omega);have hz:=h1.size;have gA:IntKind.i64.wrap (20+nV s 60)=20+nV s 60:=zCN (by omega) (by omega);have iA:IntKind.i64.wrap (2*s1.size)=2*s1.size:=zCN (by omega) (by omega);have jA:IntKind.i64.wrap (12+2*s1.size)=12+2*s1.size:=zCN (by omega) (by omega);have hm:12+2*s1.size<=1000000000000000000:=by omega
 obtain⟨s2,e2⟩:∃s2,nS s1 (12+2*s1.size)=s2:=⟨_,rfl⟩;have h2:qd s2:=e2▸zAk h1 _;obtain⟨K,hK⟩:∃K:Nat,nV s1 (12+2*s1.size)=K:=⟨_,(Int.toNat_of_nonneg (zIz s1 hm).1).symm⟩;have eA:K<40:=by have:=(zG7 s1 (m:=12+2*s1.size) (by omega) hm).2;omega
 have hN:yU (nwW (20+nV s 60)):=zXL _;obtain⟨o,eo⟩:∃o,zDz (nwW (20+nV s 60)) ⟨#[97]⟩=o:=⟨_,rfl⟩;have hg:zAd 0 o.world:=eo▸zGu _ _;have hq:t=zFA (runW K s2 o.world).1 (runW K s2 o.world).2:=by
  rw[<-ht];show zFA (runW (nV (nS s 60) (12+2*(nS s 60).size)).toNat (nS (nS s 60) (12+2*(nS s 60).size)) (zDz (nwW (20+nV s 60)) ⟨#[97]⟩).world).1 (runW (nV (nS s 60) (12+2*(nS s 60).size)).toNat (nS (nS s 60) (12+2*(nS s 60).size)) (zDz (nwW (20+nV s 60)) ⟨#[97]⟩).world).2=_;rw[e1,e2,hK,eo];rfl
 refine⟨by simp,?_⟩;show ev _ _ _ _ _ _ (zPj _ _ [(true,srV (zBW s).1),woO (zBW s).2]);rw[ht];simp[go_sem,zCl,zXA,zL6,hs,h1,e1,e2,gA,iA,jA,hm,hK,hN,eo];refine qY (fun q:Nat×yi×zB=>⟨[(4,true,.i q.1),(3,true,.m false [.p 3 0]),(2,true,.m false [.p 2 0]),(0,true,.m false [.p 0 0])],[(0,.var [.s .z 1 q.2.1.bn (zEh q.2.1.bf),.v (.int .i64 q.2.1.pos),.v (.int .u64 q.2.1.mix),.v (.int .i64 q.2.1.size)]),(3,.var [.h 61,.h 62,.v (.int .i64 q.2.2.time),.v (.int .i64 q.2.2.next),.h 63,.h 64]),(64,.row 8 q.2.2.pn (snapsE .z q.2.2.zbg)),(63,.row 6 q.2.2.sn (setsE .o q.2.2.zbh)),(62,.row 1 q.2.2.pool.hn (qf q.2.2.pool.h)),(61,.row 3 q.2.2.pool.n (zY .z q.2.2.pool.s)),(2,.var [.v n0,.v n0,.v i0,.v i0,.v n0,.v n0])]⟩) (fun q=>q.1) (fun q=>q.1<40/\qd q.2.1/\zAd 0 q.2.2/\t=zFA (runW q.1 q.2.1 q.2.2).1 (runW q.1 q.2.1 q.2.2).2) (K,s2,o.world) (by simp[go_sem]) ⟨eA,h2,hg,hq⟩ ?_;rintro⟨r,s,W⟩ ⟨dA,hs,hW,hq⟩;replace dA:r<40:=dA;replace hs:qd s:=hs;replace hW:zAd 0 W:=hW;replace hq:t=zFA (runW r s W).1 (runW r s W).2:=hq;have hC:=hW.zbk (by omega);have hx:=hW.next;cases r with
 | succ r=>
  have hr:IntKind.i64.wrap (r:Int)=r:=zCN (by omega) (by omega);have cA:=hq;unfold runW at cA;by_cases hc:(zB5 s W).2.code=0
  ·rw[if_pos hc]at cA;simp[go_sem,zQu,hs,hC,show W.next<=1000000000 by omega,hc,hr];exact⟨r,(zB5 s W).1,(zB5 s W).2.world,⟨by omega,zI7 hs W,zNm hW s,cA⟩,by omega,rfl,⟨TrE.refl _,rfl,rfl,rfl⟩,⟨rfl,rfl⟩,TrE.refl _,TrE.refl _,TrE.refl _,TrE.refl _⟩
  ·rw[if_neg hc]at cA;simp[go_sem,zQu,hs,hC,show W.next<=1000000000 by omega,hc,hr];exact⟨r,(zB5 s W).1,W,⟨by omega,zI7 hs W,hW,cA⟩,by omega,rfl,⟨TrE.refl _,rfl,rfl,rfl⟩,⟨rfl,rfl⟩,TrE.refl _,TrE.refl _,TrE.refl _,TrE.refl _⟩
 | zero=>
  replace hq:t=zFA s W:=hq;unfold zFA at hq;by_cases aA:nV s 20=0;rotate_left
  ·rw[if_neg aA]at hq;simp[go_sem,zBp,hs,aA,hq,zh,zQ,zZ,qG,zx]
  rw[if_pos aA]at hq;obtain⟨a,ea⟩:∃a,nS s 20=a:=⟨_,rfl⟩;obtain⟨b,eb⟩:∃b,nS a 6=b:=⟨_,rfl⟩;obtain⟨v,bA⟩:∃v:Nat,nV a 6=v:=⟨_,(Int.toNat_of_nonneg (zIz a (m:=6) (by omega)).1).symm⟩;have ha:qd a:=ea▸zAk hs _;have hb:qd b:=eb▸zAk ha _;rw[ea,eb,bA]at hq;have hn:=hC.n;have lA:=zG7 b (m:=3) (by omega) (by omega);have hw:IntKind.i64.wrap (1+nV b 3)=1+nV b 3:=zCN (by omega) (by omega);have fA:v<6:=(by have:=(zG7 a (m:=6) (by omega) (by omega)).2;omega);have hd:=fun h=>(hW.zbh 0 h).dn
  rcases(show v=0\/v=1\/v=2\/v=3\/v=4\/v=5 by omega)with e | e | e | e | e | e<;>subst e
  ·have q:t=(nS b 3,{W with time:=[0,900000,900001].getD (nV b 3).toNat 0}):=hq;rcases(show nV b 3=0\/nV b 3=1\/nV b 3=2 by omega)with h3 | h3 | h3<;>simp[go_sem,zBp,zCl,hs,ha,hb,aA,ea,eb,bA,h3,q,zh,zQ,zZ,qG,zx]
  ·have q:t=(b,{W with next:=1}):=hq;simp[go_sem,zBp,zCl,hs,ha,hb,aA,ea,eb,bA,q,zh,zQ,zZ,qG,zx]
  ·replace hq:t=if 0<W.sn then _ else _:=hq
   by_cases h0:0<W.sn
   ·rw[if_pos h0]at hq;simp[go_sem,zBp,zCl,hs,ha,hb,aA,ea,eb,bA,h0,hq,zh,zQ,zZ,qG,zx];have kA:=hd h0;refine⟨by omega,by kernel_rfl,⟨.inl rfl,rfl,rfl,fun i j hi hj=>?_⟩⟩;by_cases e:i=0
    ·subst e
     match j,hj with
     | 0,_ | 1,_ | 2,_ | 3,_ | 4,_=>exact TrE.of_eq (by simp[qn,setsE])
     | 5,_=>
      have:=zIh (n:=(W.zbh 0).dn) (m:=(W.zbh 0).dn+1) (f:=(W.zbh 0).ds) (g:=(W.zbh 0).db) (l:=[(1,1)]) (F:=yH (ptrsT (W.zbh 0).ds (W.zbh 0).db) (W.zbh 0).dn fun p q=>(([.v (.int .i64 1),.v (.int .i64 1)]:List Tr)[p*2+q]?.getD (.v (.bool false))).nt) rfl (fun a b ha hb=>by
       unfold yH;split
       ·rfl
       ·have:a - (W.zbh 0).dn=0:=(by omega);rw[this]
        match b,hb with
        | 0,_ | 1,_=>rfl)
      simpa[qn,setsE]using this
    ·exact TrE.of_eq (by unfold setsE;simp[qn,e])
   ·rw[if_neg h0]at hq;simp[go_sem,zBp,zCl,hs,ha,hb,aA,ea,eb,bA,h0,hq,zh,zQ,zZ,qG,zx]
  ·replace hq:t=if 0<W.pn then _ else _:=hq
   by_cases h0:0<W.pn
   ·rw[if_pos h0]at hq;simp[go_sem,zBp,zCl,hs,ha,hb,aA,ea,eb,bA,h0,hq,hw,zh,zQ,zZ,qG,zx];refine⟨by kernel_rfl,⟨.inl rfl,rfl,rfl,fun i j hi hj=>TrE.of_eq ?_⟩⟩;by_cases e:i=0
    ·subst e
     match j,hj with
     | 0,_ | 1,_ | 2,_ | 3,_ | 4,_ | 5,_ | 6,_ | 7,_=>simp[qn,snapsE]
    ·unfold snapsE;simp[qn,e]
   ·rw[if_neg h0]at hq;simp[go_sem,zBp,zCl,hs,ha,hb,aA,ea,eb,bA,h0,hq,zh,zQ,zZ,qG,zx]
  ·replace hq:t=if 0<W.sn then _ else _:=hq
   by_cases h0:0<W.sn
   ·rw[if_pos h0]at hq;simp[go_sem,zBp,zCl,zWr,hs,ha,hb,aA,ea,eb,bA,h0,hq,hn,zh,zQ,zZ,qG,zx];refine⟨by kernel_rfl,⟨.inl rfl,rfl,rfl,fun i j hi hj=>TrE.of_eq ?_⟩⟩;by_cases e:i=0
    ·subst e
     match j,hj with
     | 0,_ | 1,_ | 2,_ | 3,_ | 4,_ | 5,_=>simp[qn,setsE]
    ·unfold setsE;simp[qn,e]
   ·rw[if_neg h0]at hq;simp[go_sem,zBp,zCl,hs,ha,hb,aA,ea,eb,bA,h0,hq,zh,zQ,zZ,qG,zx]
  ·have q:t=(nS b 5,{W with pool:=zGv W.pool (nV b 5)}):=hq;simp[go_sem,zBp,zCl,hs,ha,hb,aA,ea,eb,bA,q,zh,zQ,zZ,qG,zx];have:=hC.hn;exact⟨by omega,by kernel_rfl,TrE.refl _,zJX⟩
set_option maxRecDepth 20000
set_option maxHeartbeats 3200000
theorem zY3{s:yi}(h:qd s)(p:zF):qd (zE7 s p).1:=by
 unfold zE7;split
 ·exact zAk (zAk (zAk h 8) 14) 4
 ·exact zAk (zAk h 8) p.n
theorem zSw{s:yi}{W:zB}(hs:qd s)(h:zAd 0 W)(v:Nat):qd (spoilAt s W v).1/\zAd 1 (spoilAt s W v).2:=by
 have g:zAd 1 W:=h.up;unfold spoilAt;split
 ·exact⟨zAk hs 3,⟨g.pool,g.sn,g.pn,g.next,g.zbh,g.zbg⟩⟩
 ·exact⟨hs,⟨g.pool,g.sn,g.pn,by show(0:Int)<=1/\(1:Int)<=900001;omega,g.zbh,g.zbg⟩⟩
 ·split
  ·rename_i h0
   have h1:=h.zbh 0 h0;refine⟨hs,⟨g.pool,g.sn,g.pn,g.next,fun i hi=>?_,g.zbg⟩⟩;dsimp only;split
   ·refine⟨?_,h1.name,h1.zbi⟩;have:=h1.dn;simp only[List.length_append,zHb,List.length_cons,List.length_nil];omega
   ·exact g.zbh i hi
  ·exact⟨hs,g⟩
 ·split
  ·rename_i h0
   have h1:=g.zbg 0 h0;have hv:=zG7 s (m:=3) (by omega) (by omega);refine⟨zAk hs 3,⟨g.pool,g.sn,g.pn,g.next,g.zbh,fun i hi=>?_⟩⟩;dsimp only;split
   ·exact⟨h1.dn,h1.name,h1.set,by dsimp only;omega,h1.id⟩
   ·exact g.zbg i hi
  ·exact⟨hs,g⟩
 ·split
  ·rename_i h0
   have h1:=g.zbh 0 h0;refine⟨zY3 hs _,⟨g.pool,g.sn,g.pn,g.next,fun i hi=>?_,g.zbg⟩⟩;dsimp only;split
   ·exact⟨h1.dn,h1.name,h1.zbi⟩
   ·exact g.zbh i hi
  ·exact⟨hs,g⟩
 ·refine⟨zAk hs 5,⟨?_,g.sn,g.pn,g.next,g.zbh,g.zbg⟩⟩;have:=h.pool;show W.pool.n+zBt W.pool.s W.pool.n+(W.pool.hn+1)<=19000+1;unfold yI at this;omega
theorem zJD{s:yi}(hs:qd s):qd (zBW s).1/\zAd 1 (zBW s).2:=by
 have h:=zPT (nV (nS s 60) (12+2*(nS s 60).size)).toNat (zAk (zAk hs 60) (12+2*(nS s 60).size)) (zGu (nwW (20+nV s 60)) ⟨#[97]⟩);unfold zBW zFA;dsimp only;split
 ·exact zSw (zAk (zAk h.1 20) 6) h.2 _
 ·exact⟨zAk h.1 20,h.2.up⟩
set_option maxRecDepth 20000
set_option maxHeartbeats 3200000
attribute [local go_sem] qX List.map_cons List.map_nil Tr.cv yq qK yA qz yp yo yn qy zBE zBG zBF zBB zBD zBC zCa zCc zCb qP zr qQ zt qI qH qU zAA zo zp yE qO tmpsOf zAo yD qN zBA yw yu yr yx yv stpP opds opd opdC kap zAB qJ zn coreU bin zAe zCK get put dlO fgt zBR zBK zBO zBP tyT yk yj Op.operands Call.operands evLoad evLen evStore evAlloc zAj and_true true_and List.append_nil List.nil_append List.cons_append Ret resCv zB3 yV cellM zBh zCE qV StW StR hpT hpO hpV hpA hpL hpC sg nin zCU bdO tmW obW AvE CsE CvE Av.tup Av.ids Cv.ids inD ObE Ob.ids TrE.refl qM yB yC qR qS qT zq zb zX yz zBa zCL zBH evCall argL argOf qZ outOb obO yM qA cvO tot Tr.own rid partsOf fillC zS zBf frz frz1 evBuildSlice zc trs Cv.tr evSlice Option.toArray_none Option.toArray_some evMakeSlice evAppend dstOf srcOf zA3 zBQ zBN zBL zBM ikT qx qw qv qu RetP RetN zBr qD evLd evSt evStoreH zAh evAppendM evAppendT tlOf mvOf rowE shp evTake oOf evC evCallP evCallN evCallO unlast zAO zA1 zAa argsF zCR qg pmC varT vT evField evConv dB0 Option.bind_some Option.bind_none Option.map_some Option.map_none Option.isSome_some Option.isSome_none
attribute [local go_sem] yL za zA7 yd qr zAv zAw zAx zAy zAz zA0 zAD zAE zAF zAG zAH zAI zAJ zAK yS qp
attribute [-go_sem] za
attribute [local go_sem] zAV zCF zCG zAf yy
theorem zYi:zd Tryz.prog 17 mIn:=by
 refine zP zl GOk.nil zk Tryz.func17 rfl Tryz.ntmps17 Tryz.results17 6 ?_;rintro⟨⟨n,f,g⟩,a,b⟩ hn;replace hn:n<=1000000:=hn;refine⟨by simp,?_⟩;simp[go_sem];refine qY (fun k:Nat=>⟨[(3,true,.m false [.p 3 0]),(0,true,.m false [.s .b 2 n (ptrsT f g)]),(5,true,.i k)],[(3,.var [.v (.int .i64 a),.v (.int .i64 b)])]⟩) (fun k=>n - k) (fun k=>k<=n/\∀i,i<k->¬(f i=a/\g i=b)) 0 (by simp[go_sem]) (by simp) ?_;rintro k ⟨hk,aA⟩;simp[go_sem,ze (show k<=1000000000 by omega)];refine⟨fun hl=>⟨hl,by kernel_rfl,fun h1 h2=>⟨k,hl,h1,h2⟩,fun h=>⟨k+1,⟨by omega,fun i hi h1 h2=>?_⟩,by omega,rfl⟩⟩,fun hl ⟨j,h1,h2⟩=>aA j (by omega) h2⟩;rcases Nat.lt_succ_iff_lt_or_eq.1 hi with h3 | rfl
 ·exact aA i h3 ⟨h1,h2⟩
 ·exact h h1 h2
theorem zPt:zd Tryz.prog 18 zW4:=by
 refine zP zl (GOk.cons zFv (zG Tryz.func56 rfl rfl) (GOk.cons zBx (zG Tryz.func46 rfl rfl) GOk.nil)) zk Tryz.func18 rfl Tryz.ntmps18 Tryz.results18 5 ?_;rintro⟨p,a,b⟩ ⟨hR,hT⟩;replace hR:zf p:=hR;replace hT:zW p a b:=hT;have hn:p.n<=1000000:=by have:=hR.1;omega
 have hm:p.hn<=1000000:=by have:=zEl hR;omega
 have aA:zAm p a b:=⟨hR,hT⟩;refine⟨by simp,?_⟩;simp[go_sem,zIv,zBl,hn,hm,hR,hT,aA,zCh]
attribute [-go_sem] zAe
attribute [local go_sem] zKl zKm zNS zNQ zNR zJN zJO zJP zNL zZT zZU zNP zNO zNN zNM zDk
noncomputable def zEO(n:Nat)(f:Nat->Int):zB×ByteArray:=((zBW (zDw n f)).2,zKC (zBW (zDw n f)).1)
noncomputable def zL1:zR:=qE (fun q:Nat×(Nat->Int)=>[byT q.1 q.2]) (fun q=>zEJ q.1 q.2) (fun q=>[woO (zEO q.1 q.2).1,sT' (zEO q.1 q.2).2])
theorem zKB(n:Nat)(f:Nat->Int):zL1 [byT n f]=some (zEJ n f,[woO (zEO n f).1,sT' (zEO n f).2]):=zK (fun l=>(zEu (nth l 0 0),fun i=>match zCA (nth l 0 0) i 0 with | .v (.int _ x)=>x | _=>0)) (fun _=>rfl) (n,f)
theorem zOW:zd Tryz.prog 20 zL1:=by
 refine zP zl (GOk.new zIq (zG Tryz.func47 rfl rfl) (GOk.ptr zKA (zG Tryz.func48 rfl rfl) (GOk.ptr zLu (zG Tryz.func58 rfl rfl) GOk.nil))) zk Tryz.func20 rfl Tryz.ntmps20 Tryz.results20 6 ?_;rintro⟨n,f⟩ hb;replace hb:zEJ n f:=hb;have h0:=zHe hb.1 hb.2;have hn:=hb.1;have h1:=zJD h0;obtain⟨q,eq⟩:∃q,zBW (zDw n f)=q:=⟨_,rfl⟩;rw[eq]at h1;have eD:zEO n f=(q.2,zKC q.1):=by unfold zEO;rw[eq]
 refine⟨by simp,?_⟩;simp[go_sem,zL7,zN6,zN3,hn,h0,h1,eq,eD,zh,zQ,zZ,qG,zx];kernel_rfl
theorem zPh:zd Tryz.prog 4 zL1:=by
 refine zP zl (GOk.keep zOW (zG Tryz.func20 rfl rfl) GOk.nil) zk Tryz.func4 rfl Tryz.ntmps4 Tryz.results4 4 ?_;rintro⟨n,f⟩ hb;replace hb:zEJ n f:=hb;refine⟨by simp,?_⟩;simp[go_sem,zKB,hb,zh,zQ,zZ,qG,zx]
def idS(s:yi)(W:zB):yi:=if W.pn=0 then nS s 9 else if nV s 5=0 then nS (nS s 5) 9 else nS (nS s 5) W.pn
def idV(s:yi)(W:zB):Int:=if W.pn=0 then IntKind.i64.wrap (nV s 9 - 1)else if nV s 5=0 then IntKind.i64.wrap (nV (nS s 5) 9 - 1)else(W.zbg (nV (nS s 5) W.pn).toNat).id
noncomputable def mId:zR:=qE (fun q:yi×zB=>(true,srV q.1) :: [woT q.2]) (fun q=>qd q.1/\q.2.pn<=1000000) (fun q=>[(true,srV (idS q.1 q.2)),iT (idV q.1 q.2)])
theorem zaR(s:yi)(W:zB):mId ((true,srV s) :: [woT W])=some (qd s/\W.pn<=1000000,[(true,srV (idS s W)),iT (idV s W)]):=zK (fun l=>(zGq (nth l 0),zB7 (nth l 1))) (fun _=>rfl) (s,W)
theorem zaO{s:yi}(h:qd s)(W:zB):qd (idS s W):=by
 unfold idS
 repeat' split
 all_goals first
  | exact zAk h _
  | exact zAk (zAk h _) _
theorem zWT:zBd Tryz.prog 49 mId:=by
 refine zA8 zl (GOk.ptr zPG (zG Tryz.func84 rfl rfl) (GOk.ptr zPM (zG Tryz.func86 rfl rfl) GOk.nil)) zk Tryz.func49 rfl Tryz.ntmps49 Tryz.results49 5 ?_;rintro⟨s,W⟩ hs;obtain⟨hs,hp⟩:qd s/\W.pn<=1000000:=hs;have h1:=zAk hs 5;refine⟨by simp,?_⟩;by_cases hn:W.pn=0
 ·simp[go_sem,zCl,zBp,hs,h1,hn,idS,idV,zh]
 have aA:0<W.pn:=by omega
 by_cases h0:nV s 5=0
 ·simp[go_sem,zCl,zBp,hs,h1,h0,hn,aA,idS,idV,zh]
 have hv:=zIz (nS s 5) (m:=W.pn) (by omega);simp[go_sem,zCl,zBp,hs,h1,h0,hn,aA,idS,idV,zh];exact⟨by omega,⟨hv.1,by omega⟩,by kernel_rfl⟩
noncomputable def zEG(n:Nat)(f:Nat->Int):zB×Int×Int:=((zBW (zDw n f)).2,idV (zBW (zDw n f)).1 (zBW (zDw n f)).2,idV (idS (zBW (zDw n f)).1 (zBW (zDw n f)).2) (zBW (zDw n f)).2)
noncomputable def zTZ:zR:=qE (fun q:Nat×(Nat->Int)=>[byT q.1 q.2]) (fun q=>zEJ q.1 q.2) (fun q=>[woO (zEG q.1 q.2).1,iT (zEG q.1 q.2).2.1,iT (zEG q.1 q.2).2.2])
theorem zSa(n:Nat)(f:Nat->Int):zTZ [byT n f]=some (zEJ n f,[woO (zEG n f).1,iT (zEG n f).2.1,iT (zEG n f).2.2]):=zK (fun l=>(zEu (nth l 0 0),fun i=>match zCA (nth l 0 0) i 0 with | .v (.int _ x)=>x | _=>0)) (fun _=>rfl) (n,f)
theorem zKv:zd Tryz.prog 11 zTZ:=by
 refine zP zl (GOk.new zIq (zG Tryz.func47 rfl rfl) (GOk.ptr zKA (zG Tryz.func48 rfl rfl) (GOk.ptr zWT (zG Tryz.func49 rfl rfl) GOk.nil))) zk Tryz.func11 rfl Tryz.ntmps11 Tryz.results11 8 ?_;rintro⟨n,f⟩ hb;replace hb:zEJ n f:=hb;have h0:=zHe hb.1 hb.2;have hn:=hb.1;obtain⟨q,eq⟩:∃q,zBW (zDw n f)=q:=⟨_,rfl⟩;have h1:=eq▸zJD h0;have h2:=zaO h1.1 q.2;have h3:=(h1.2.zbk (c:=1) (by omega)).pn;have eD:zEG n f=(q.2,idV q.1 q.2,idV (idS q.1 q.2) q.2):=by unfold zEG;rw[eq]
 refine⟨by simp,?_⟩;simp[go_sem,zL7,zN6,zaR,hn,h0,h1,h2,h3,eq,eD,zh,zQ,zZ,qG,zx];kernel_rfl
section
variable {w : World} {g : Nat -> Bs} {fl : Fl}
theorem zHH{k n:Nat}{f:Nat->Nat->Tr}{u:Value}(hs:Sh w g (.s fl k n f) u):∃a c,u = .slice a n c/\n<=c/\(0<n->∃b o,a=some ⟨b,o,none⟩/\0<=b/\b<w.heap.size/\∀i,i<n->∀j,j<k->∃u,w.cell? ⟨b,o+i*k+j,none⟩=some u/\Sh w g (f i j) u):=by
 obtain⟨a,c,rfl,hc,hx⟩:=hs;refine⟨a,c,rfl,hc,fun h0=>?_⟩;obtain⟨b,o,ha,hb,-,aA⟩:=hx h0;refine⟨b,o,ha,Nat.zero_le _,hb,fun i hi j hj=>?_⟩;rw[Nat.add_assoc];exact aA i j hi hj
theorem zS8{n:Nat}{h:Nat->Int}{u:Value}(hs:Sh w g (.s fl 1 n (qf h)) u)(hn:n<=maxLen):zC6 w 0 w.heap.size u n h:=by
 obtain⟨a,c,rfl,hc,hx⟩:=zHH hs;refine⟨hn,a,c,rfl,hc,fun h0=>?_⟩;obtain⟨b,o,ha,h1,h2,aA⟩:=hx h0;refine⟨b,o,ha,h1,h2,fun i hi=>?_⟩;obtain⟨u,hu,e⟩:=aA i hi 0 (by omega);rw[Nat.mul_one,Nat.add_zero]at hu;rw[hu,e.1]
theorem zOm{n:Nat}{f h:Nat->Int}{u:Value}(hs:Sh w g (.s fl 2 n (ptrsT f h)) u)(hn:n<=maxLen):qk w 0 w.heap.size u n f h:=by
 obtain⟨a,c,rfl,hc,hx⟩:=zHH hs;refine⟨hn,a,c,rfl,hc,fun h0=>?_⟩;obtain⟨b,o,ha,h1,h2,aA⟩:=hx h0;refine⟨b,o,ha,h1,h2,fun i hi=>?_⟩;obtain⟨u,hu,e⟩:=aA i hi 0 (by omega);obtain⟨u',bA,e'⟩:=aA i hi 1 (by omega);rw[Nat.add_zero]at hu;exact⟨by rw[hu,e.1],by rw[bA,e'.1]⟩
theorem zP2{n:Nat}{s:Nat->zN}{u:Value}(hs:Sh w g (.s fl 3 n (zY fl s)) u)(hn:n<=maxLen)(hk:∀i,i<n->(s i).kn<=maxLen/\(s i).data.size<=maxLen):yJ w 0 w.heap.size u n s:=by
 obtain⟨a,c,rfl,hc,hx⟩:=zHH hs;refine⟨hn,a,c,rfl,hc,fun h0=>?_⟩;obtain⟨b,o,ha,h1,h2,aA⟩:=hx h0;refine⟨b,o,ha,h1,h2,fun i hi=>?_⟩;obtain⟨u,hu,e⟩:=aA i hi 0 (by omega);obtain⟨u',bA,e'⟩:=aA i hi 1 (by omega);obtain⟨u2,cA,e2⟩:=aA i hi 2 (by omega);rw[Nat.add_zero]at hu;exact⟨u,u',u2,hu,bA,cA,e.1,zOm e' (hk i hi).1,e2.1,(hk i hi).2⟩
theorem zYH{n:Nat}{s:Nat->zB9}{u:Value}(hs:Sh w g (.s fl 6 n (setsE fl s)) u)(hn:n<=maxLen)(hk:∀i,i<n->(s i).dn<=maxLen/\(s i).name.size<=maxLen):zFD w 0 w.heap.size u n s:=by
 obtain⟨a,c,rfl,hc,hx⟩:=zHH hs;refine⟨hn,a,c,rfl,hc,fun h0=>?_⟩;obtain⟨b,o,ha,h1,h2,aA⟩:=hx h0;refine⟨b,o,ha,h1,h2,fun i hi=>?_⟩;obtain⟨u0,bA,e0⟩:=aA i hi 0 (by omega);obtain⟨u1,cA,e1⟩:=aA i hi 1 (by omega);obtain⟨u2,dA,e2⟩:=aA i hi 2 (by omega);obtain⟨u3,eA,e3⟩:=aA i hi 3 (by omega);obtain⟨u4,fA,e4⟩:=aA i hi 4 (by omega);obtain⟨u5,gA,e5⟩:=aA i hi 5 (by omega);rw[Nat.add_zero]at bA;exact⟨u5,by rw[bA,e0.1],by rw[cA,e1.1],by rw[dA,e2.1],by rw[eA,e3.1],by rw[fA,e4.1],gA,zOm e5 (hk i hi).1,(hk i hi).2⟩
theorem zVv{n:Nat}{s:Nat->yY}{u:Value}(hs:Sh w g (.s fl 8 n (snapsE fl s)) u)(hn:n<=maxLen)(hk:∀i,i<n->(s i).dn<=maxLen/\(s i).name.size<=maxLen/\(s i).set.size<=maxLen):zDQ w 0 w.heap.size u n s:=by
 obtain⟨a,c,rfl,hc,hx⟩:=zHH hs;refine⟨hn,a,c,rfl,hc,fun h0=>?_⟩;obtain⟨b,o,ha,h1,h2,aA⟩:=hx h0;refine⟨b,o,ha,h1,h2,fun i hi=>?_⟩;obtain⟨u0,bA,e0⟩:=aA i hi 0 (by omega);obtain⟨u1,cA,e1⟩:=aA i hi 1 (by omega);obtain⟨u2,dA,e2⟩:=aA i hi 2 (by omega);obtain⟨u3,eA,e3⟩:=aA i hi 3 (by omega);obtain⟨u4,fA,e4⟩:=aA i hi 4 (by omega);obtain⟨u5,gA,e5⟩:=aA i hi 5 (by omega);obtain⟨u6,iA,e6⟩:=aA i hi 6 (by omega);obtain⟨u7,jA,e7⟩:=aA i hi 7 (by omega);rw[Nat.add_zero]at bA;exact⟨u7,by rw[bA,e0.1],by rw[cA,e1.1],by rw[dA,e2.1],by rw[eA,e3.1],by rw[fA,e4.1],by rw[gA,e5.1],by rw[iA,e6.1],jA,zOm e7 (hk i hi).1,(hk i hi).2⟩
end
def zX6(w:World)(g:Nat->Bs)(lo:Nat):Prop:=∀b,lo<=b->b<w.heap.size->g b = .fz none
section
variable {w : World} {g : Nat -> Bs} {lo hi : Nat}
theorem zX6.ok(h:zX6 w g lo){b e:Nat}(h1:lo<=b)(h2:b<w.heap.size):(g b).ok .z e:=by
 rw[h b h1 h2];exact .inr fun l e=>by cases e
theorem zYL{b j:Nat}{v:Value}(h:w.cell? ⟨b,j,none⟩=some v):b<w.heap.size:=zO h
theorem zYz(hk:zX6 w g lo){v:Value}{n:Nat}{f:Nat->Int}(h:zC6 w lo hi v n f):Sh w g (.s .z 1 n (qf f)) v:=by
 obtain⟨h0,a,cap,rfl,hc,hx⟩:=h;refine⟨a,cap,rfl,hc,fun hn=>?_⟩;obtain⟨b,o,ha,h1,h2,h3⟩:=hx hn;have hb:=zYL (h3 0 hn);refine⟨b,o,ha,hb,hk.ok h1 hb,fun i j hi hj=>?_⟩;cases (show j=0 by omega);exact⟨_,by rw[Nat.mul_one,Nat.add_zero];exact h3 i hi,rfl,rfl⟩
end
theorem zDC{P:Program}{f:Nat}{ι : Type}{A:ι->List (Bool×List Tr)}{C:ι->Prop}{R:ι->List (Bool×List Tr)}{w:World}
  (h:∀x,C x->∀(g0:Nat->Bs) (ys:List Value),(∀b,∃r,g0 b = .fz r)->zm (zKP w g0) (A x) ys->Calls P f ys.toArray w fun e w'=>∃v g,e = .returned v/\Kp w g0 w' g/\zPn w' g (R x) v):zEy P f (qE A C R) w:=by
 intro al c rs aA hc g0 ys hz hy;unfold qE at aA;split at aA
 ·rename_i hx
  cases aA;exact h hx.choose hc g0 ys hz (by rw[hx.choose_spec];exact hy)
 ·cases aA
def zaM(w:World)(g:Nat->Bs):Nat->Bs:=fun b=>if b<w.heap.size then g b else .fz none
theorem zLr{w w':World}{g:Nat->Bs}(hz:∀b,∃r,g b = .fz r)(h:Below w.heap.size w w'):Kp w g w' (zaM w g):=
 ⟨h.os,h.tape,h.output,h.size,fun b r hb hl=>⟨h.block b hl,by unfold zaM;rw[if_pos hl];exact hb⟩,fun b o aA hb=>by obtain⟨r,hr⟩:=hz b;rw[hr]at hb;cases hb⟩
theorem zWR{w w':World}{g:Nat->Bs}:zX6 w' (zaM w g) w.heap.size:=fun b h _=>if_neg (by omega)
theorem zAd.wf{c:Nat}{W:zB}(h:zAd c W):zDN W:=fun i hi=>by
 have hp:0<=(zI W i).zbi/\(zI W i).zbi<=1000000:=by
  by_cases hs:i<W.pn
  ·rw[qq hs];exact(h.zbg i hs).zbi
  ·obtain⟨k,rfl⟩:∃k,i=W.pn+k:=⟨i - W.pn,by omega⟩;rw[zAi];exact(h.zbh k (by unfold zj at hi;omega)).zbi
 show(decide (IntKind.min .i64<=_) && decide (_<=IntKind.max .i64))=true;simp[IntKind.min,IntKind.max,IntKind.signed,IntKind.bits];omega
theorem zAd.bounds{c:Nat}{W:zB}(h:zAd c W)(hc:c<=10):yI W.pool<=1048576/\W.sn<=1048576/\W.pn<=1048576/\zaB W:=by
 have h1:=h.pool;have h2:=h.sn;have h3:=h.pn;exact⟨by omega,by omega,by omega,fun i hi=>by have:=(h.zbh i hi).dn;omega,fun i hi=>by have:=(h.zbg i hi).dn;omega⟩
theorem zAd.slot{c:Nat}{W:zB}(h:zAd c W)(hc:c<=10){i:Nat}(hi:i<W.pool.n):(W.pool.s i).kn<=maxLen/\(W.pool.s i).data.size<=maxLen:=by
 have h1:=h.pool;have h2:=zMc (f:=W.pool.s) hi;have h3:zBt W.pool.s W.pool.n<=yI W.pool:=by unfold yI;omega
 have h4:zDI (W.pool.s i)=(W.pool.s i).kn+(W.pool.s i).data.size:=rfl;unfold maxLen;omega
theorem zAd.at{c:Nat}{W:zB}(h:zAd c W)(hc:c<=10){w:World}{g:Nat->Bs}{u0 u1 u4 u5:Value}(h0:Sh w g (.s .b 3 W.pool.n (zY .b W.pool.s)) u0)(h1:Sh w g (.s .b 1 W.pool.hn (qf W.pool.h)) u1)(h4:Sh w g (.s .b 6 W.sn (setsE .b W.zbh)) u4)(h5:Sh w g (.s .b 8 W.pn (snapsE .b W.zbg)) u5):ye w 0 w.heap.size u0 u1 u4 u5 W:=by
 have b:=h.bounds hc;have n1:W.pool.n<=yI W.pool:=by unfold yI;omega
 have n2:W.pool.hn<=yI W.pool:=Nat.le_add_left ..;have hm:1048576<=maxLen:=by decide
 exact⟨⟨zP2 h0 (by omega) (fun i hi=>h.slot hc hi),zS8 h1 (by omega)⟩,zYH h4 (by omega) (fun i hi=>by have g:=h.zbh i hi;have:=g.dn;have:=g.name;exact⟨by omega,by omega⟩),zVv h5 (by omega) (fun i hi=>by have g:=h.zbg i hi;have:=g.dn;have:=g.name;have:=g.set;exact⟨by omega,by omega,by omega⟩)⟩
theorem zSL{n:Nat}{h:Nat->Int}:(Tr.s .z 1 n (qf h)).kept:=⟨by simp,fun _ _ _ _=>trivial⟩
theorem zaG{α β : Type}{R:α->β->Prop}{x0 x1 x2 x3 x4 x5:α}{ys:List β}(h:zm R [x0,x1,x2,x3,x4,x5] ys):∃y0 y1 y2 y3 y4 y5,ys = [y0,y1,y2,y3,y4,y5]/\R x0 y0/\R x1 y1/\R x2 y2/\R x3 y3/\R x4 y4/\R x5 y5:=by
 cases h with
 | cons a0 h=>cases h with
  | cons a1 h=>cases h with
   | cons a2 h=>cases h with
    | cons a3 h=>
     obtain⟨y4,y5,rfl,a4,a5⟩:=zBZ h;exact⟨_,_,_,_,y4,y5,rfl,a0,a1,a2,a3,a4,a5⟩
theorem zX1{w:World}{g:Nat->Bs}{W:zB}{cs:List Value}{c:Nat}(hc:c<=10)(hW:zAd c W)(h:zm (Sh w g) (woT W).2 cs):∃v0 v1 v2 v3,cs = [v0,v1,.int .i64 W.time,.int .i64 W.next,v2,v3]/\ye w 0 w.heap.size v0 v1 v2 v3 W:=by
 obtain⟨y0,y1,y2,y3,y4,y5,rfl,a0,a1,a2,a3,a4,a5⟩:=zaG h;exact⟨y0,y1,y4,y5,by rw[a2.1,a3.1],hW.at hc a0 a1 a4 a5⟩
open Go.Maps
theorem zO0(v0 v1 v2 v3:Value)(lo hi:Nat)(W:zB)(x:ByteArray)(w:World)(h:ye w lo hi v0 v1 v2 v3 W)(hh:hi<=w.heap.size)(gA:zDN W)(hx:x.size<=maxLen):Calls Tryz.prog 9 #[zAY v0 v1 v2 v3 W,.string x] w fun e w'=>e = .returned (.int .i64 (zD2 W x))/\Below w.heap.size w w':=by
 have Hp:=zC h;have iA:=zC gA;have Hx:=zC hx;clear h gA hx;have dA:=zD w (.cells #[v0,v1,.int .i64 W.time,.int .i64 W.next,v2,v3] 30);have HX:=zC (zAb.new w v0 v1 (.int .i64 W.time) (.int .i64 W.next) v2 v3 30);obtain⟨x0,x1,x2,x3,x4,x5⟩:=HX.out.c;go_enter Tryz.func9,Tryz.ntmps9;go_wp2_with fail;generalize w.alloc (.cells #[v0,v1,.int .i64 W.time,.int .i64 W.next,v2,v3] 30)=W0 at HX dA x0 x1 x2 x3 x4 x5 ⊢;refine(zA6 v0 v1 v2 v3 lo hi W W0 (Hp.out.zbd dA) iA.out).mono ?_;rintro e w1 ⟨⟨t,rfl,ht⟩,fA⟩;have Ht:=zC (ht.trans (zCv W));have bA:=zA dA fA;have eA:=zC (HX.out.zbd fA);clear x0 x1 x2 x3 x4 x5 fA dA HX ht;cases t
 ·have HA:=zC (show zD2 W x=0 from zMk (fun h=>absurd (Ht.out.2 h) (by simp)));go_wp2;go_ret;exact⟨by rw[HA.out];rfl,bA⟩
 ·have HW:=zC (Ht.out.1 rfl);have HA:=zC (show zD2 W x=zA5 (fun _=>False) (zH W.pool (zBc W x).rs (zBc W x).rb)by rw[zHK HW.out,zRv]);have HT:=zC (zRI HW.out x);have hf:=zNg;obtain⟨x0,x1,x2,x3,x4,x5⟩:=eA.out.c;go_wp2_with fail;go_region_held3 (fun w'=>w'.cell? ⟨w.heap.size,0,none⟩=some v0/\w'.cell? ⟨w.heap.size,1,none⟩=some v1/\w'.cell? ⟨w.heap.size,2,none⟩=some (.int .i64 W.time)/\w'.cell? ⟨w.heap.size,3,none⟩=some (.int .i64 W.next)/\w'.cell? ⟨w.heap.size,4,none⟩=some v2/\w'.cell? ⟨w.heap.size,5,none⟩=some v3) (go_keep)
   (first
    | (go_at_call 22;refine(zEq v0 v1 v2 v3 lo hi W _ ((Hp.out.zbd bA).zbd (Below.refl _ _).drew) HW.out.zbj.2.2.1).mono ?_;rintro e w2 ⟨vd,rfl,hm,hd,kA⟩;have aA:=qW kA;obtain⟨a,c,jA,hp⟩:=zHt (HW.out.zbj.dist) hd x;have mA:=zRK (M:=w1.heap.size+1) hm Hx.out jA;obtain⟨z0,z1,z2,z3,z4,z5⟩:=(eA.out.zbd aA).c)
    | (go_at_call 45;refine(zF2 v0 v1 v2 v3 lo hi W _ _ _ (fun _=>False) _ ((Hp.out.zbd bA).zbd aA) (by have:=aA.size;have:=bA.size;omega) HW.out.right HT.out (fun w' _=>zRY v0 v1 v2 v3 W w')).mono ?_;rintro e w3 ⟨rfl,lA⟩;have cA:=zA aA lA;obtain⟨k0,k1,k2,k3,k4,k5⟩:=(eA.out.zbd cA).c))
  go_wp2;go_ret;exact⟨by rw[HA.out];rfl,zA bA cA⟩
open Go.Shelf
attribute [local go_sem] Oper.semAt_some
def zFO(X:World)(V:Nat)(f:Nat->Int×Int):Prop:=∀n,n<64->yT X V (n*2) (.int .i64 (f n).1)/\yT X V (n*2+1) (.int .i64 (f n).2)
theorem zFO.zbd{X Y:World}{V:Nat}{f:Nat->Int×Int}(h:zFO X V f)(t:Below X.heap.size X Y):zFO Y V f:=fun n hn=>⟨(h n hn).1.zbd t,(h n hn).2.zbd t⟩
theorem zFO.own{B:Nat}{X Y:World}{row:Option Nat}{V:Nat}{f:Nat->Int×Int}(h:zFO X V f)(hg:X.grownBy Y row)(hr:∀r,row=some r->B<=r/\∃ob:Obj,X.heap[r]?=some ob/\ob.isCells=false):zFO Y V f:=fun n hn=>⟨zAn (h n hn).1 hg hr,zAn (h n hn).2 hg hr⟩
theorem zFO.put{X:World}{V:Nat}{f g:Nat->Int×Int}(h:zFO X V f){k:Nat}(hk:k<64)(y:Int×Int)(hg:∀n,n<64->g n=if n=k then y else f n):zFO ((X.setCell ⟨V,k*2,none⟩ (.int .i64 y.1)).setCell ⟨V,k*2+1,none⟩ (.int .i64 y.2)) V g:=fun n hn=>by
 rw[hg n hn];by_cases e:n=k
 ·subst e;rw[if_pos rfl];exact⟨((h n hn).1.set _).other _ (Or.inr (by omega)),((h n hn).2.other _ (Or.inr (by omega))).set _⟩
 ·rw[if_neg e];exact⟨((h n hn).1.other _ (Or.inr (by omega))).other _ (Or.inr (by omega)),((h n hn).2.other _ (Or.inr (by omega))).other _ (Or.inr (by omega))⟩
theorem zUK:Tryz.zeroCells85=Array.replicate 128 (.int .i64 0):=by kernel_rfl
theorem zUJ{i:Nat}(h:i<128):Tryz.zeroCells85[i]?=some (.int .i64 0):=by
 rw[zUK,Array.getElem?_replicate,if_pos h]
theorem zFO.new(w:World):zFO (w.alloc (.cells Tryz.zeroCells85 85)) w.heap.size (fun _=>(0,0)):=fun n hn=>by
 have hb:(w.alloc (.cells Tryz.zeroCells85 85)).heap[w.heap.size]?=some (.cells Tryz.zeroCells85 85):=heap_alloc_new _ _;exact⟨zL hb (zUJ (by omega)),zL hb (zUJ (by omega))⟩
attribute [local go_sem] Oper.semAt_some
def pgV(f:Nat->Int×Int)(j:Nat):Value:=.int .i64 (if j % 2=0 then(f (j / 2)).1 else(f (j / 2)).2)
def pgC(f:Nat->Int×Int):Array Value:=((List.range 128).map (pgV f)).toArray
theorem pgU:Tryz.prog.underlying 85=some (.array 64 44):=by kernel_rfl
theorem pgI:(Tryz.prog.info? 85).map (·.size)=some 128:=by kernel_rfl
theorem zFO.cell{X:World}{V:Nat}{f:Nat->Int×Int}(h:zFO X V f){j:Nat}(hj:j<128):yT X V j (pgV f j):=by
 unfold pgV;by_cases e:j % 2=0
 ·rw[if_pos e];have:=(h (j / 2) (by omega)).1;rw[show j / 2*2=j by omega]at this;exact this
 ·rw[if_neg e];have:=(h (j / 2) (by omega)).2;rw[show j / 2*2+1=j by omega]at this;exact this
theorem zSq{X:World}{V:Nat}{f:Nat->Int×Int}(h:zFO X V f):(loadVar 85 ⟨V,0,none⟩).run Tryz.prog X = .ok (.agg (pgC f)) X:=by
 have hl:(loadCells ⟨V,0,none⟩ (pgC f).toList.length).run Tryz.prog X = .ok (pgC f).toList.toArray X:=
  run_loadCells_list (P:=Tryz.prog) X ⟨V,0,none⟩ (pgC f).toList (fun j v hv=>by
   have aA:(⟨V,0,none⟩:Addr).add j=⟨V,j,none⟩:=(by unfold Addr.add;split<;>simp_all);have hj:j<128:=by
    have:=(List.getElem?_eq_some_iff.1 hv).1;simp[pgC]at this;exact this
   simp[pgC,hj]at hv;rw[aA,<-hv];exact(h.cell hj).1)
 cases hq:Tryz.prog.info? 85 with
 | none=>have:=pgI;simp[hq]at this
 | some i=>
  have hs:i.size=128:=(by have:=pgI;simpa[hq]using this);have bA:(isAgg 85).run Tryz.prog X = .ok true X:=by
   unfold isAgg;rw[Sem.run_bind,run_underlying pgU X];simp
  have h8:(pgC f).size=128:=(by simp[pgC]);simp only[Array.length_toList,Array.toArray_toList,h8]at hl;simp[loadVar,Sem.run_bind,bA,sizeOf,typeInfo,hq,hs,hl]
end Go.Proofs.YtginldeebkfbgaaGreat

/- New slots that hold the same: what spec.l01Slot and impl.cloneSlot leave. -/
import Derived.Test.YtmgeglgboadfiaaGreatDoorT18
set_option linter.unusedVariables false
set_option maxRecDepth 20000
set_option maxHeartbeats 4000000
namespace Go.Proofs.YtmgeglgboadfiaaGreatDoor
open Go.RowKit
theorem zIv(v0 v1 v2:Value)(lo hi:Nat)(s:zL)(w:World)(h1:qI w lo hi v0 v1 v2 s)(hn:s.kn<=1048576) :
  Calls Tryz.prog 219 #[.agg #[v0,v1,v2]] w(zNZ s w):=by
 obtain⟨rfl,p1,rfl,m1⟩:=h1;have q1:=p1;obtain⟨_,a,c,rfl,_⟩:=p1;go_enter Tryz.func219,Tryz.ntmps219;go_wp2_with fail;have cA:=zC w(.cells #[.int .i64 s.zRU,.slice a s.kn c,.string s.data] 127);have bA:=zA cA(zC _(.cells #[.int .i64 0,.slice none 0 0,.string ⟨#[]⟩] 127));refine(zI2 _ s.kn lo hi _ _ _(q1.zRJ bA) hn).mono ?_;rintro e w1 ⟨⟨kv,kb,rfl,hp,hk⟩,hb1⟩;have HB:Hid(yT w1 w.heap.size(.int .i64 s.zRU)(.slice a s.kn c)(.string s.data)):=((yT.zRL w _ _ _ _).zRJ(zC _ _)).zRJ hb1;have HR:Hid(yT w1(w.heap.size+1)(.int .i64 0)(.slice none 0 0)(.string ⟨#[]⟩)):=by
  have:=((yT.zRL(w.alloc(.cells #[.int .i64 s.zRU,.slice a s.kn c,.string s.data] 127))(.int .i64 0)(.slice none 0 0)(.string ⟨#[]⟩) 127).zRJ hb1);rw [World.size_alloc] at this;exact this
 have dA:=zA bA hb1;rw [World.size_alloc,World.size_alloc] at hk;have Hp:Hid(zj w1 kb kv s.kn s.ks s.kb/\(0<s.kn->w.heap.size+1+1<=kb/\kb<w1.heap.size)):=⟨hp,hk⟩;obtain⟨_,ka,kc',rfl,_⟩:=hp;clear cA bA hb1 hk;obtain⟨⟨x0,x1⟩,⟨x2,x3⟩,⟨x4,x5⟩⟩:=HB.out;obtain⟨⟨y0,y1⟩,⟨y2,y3⟩,⟨y4,y5⟩⟩:=HR.out;go_wp2;have aA:=(HR.out.zRK(b':=w.heap.size)(o':=1)(.slice ka s.kn kc')(by omega)).put(.int .i64 s.zRU)(.slice ka s.kn kc')(.string s.data);refine bodyPost_ret(v:=.agg #[.int .i64 s.zRU,.slice ka s.kn kc',.string s.data])(by simp [results,Tryz.results219,go_sem,aA.1.1,aA.2.1.1,aA.2.2.1]) rfl ⟨_,kb,rfl,?_,?_,?_⟩
 ·have hk:=Hp.out.2;refine(((Hp.out.1.zRR(zF.put _ _ _ _) ?_).zRR(zF.put _ _ _ _) ?_).zRR(zF.put _ _ _ _) ?_).zRR(zF.put _ _ _ _) ?_
  all_goals exact fun h0 e=>by have:=hk h0;omega
 ·intro h0;have:=Hp.out.2 h0;simp only [World.size_setCell];omega
 ·exact(((dA.setCell(by show _<=w.heap.size;omega) _).setCell(by show _<=w.heap.size+1;omega) _).setCell(by show _<=w.heap.size+1;omega) _).setCell(by show _<=w.heap.size+1;omega) _
theorem zL3(v0 v1 v2:Value)(lo hi:Nat)(s:zL)(w:World)(h1:qI w lo hi v0 v1 v2 s)(hn:s.kn<=1048576) :
  Calls Tryz.prog 146 #[.agg #[v0,v1,v2]] w(zNZ s w):=by
 obtain⟨rfl,⟨m1,a,c,rfl,mc,g1⟩,rfl,m2⟩:=h1;have G1:Hid(0<s.kn->∃b off,a=some ⟨b,off,none⟩/\lo<=b/\b<hi/\∀i,i<s.kn->w.cell? ⟨b,off+i*2,none⟩=some(.int .i64(s.ks i))/\w.cell? ⟨b,off+i*2+1,none⟩=some(.int .i64(s.kb i))):=g1;have Hm:Hid(s.kn<=maxLen):=m1;clear g1 m1;obtain⟨i0,hi',hzz⟩:=Option.map_eq_some_iff.1 zCR;simp only [Prod.mk.injEq] at hzz;obtain⟨hz,hs,hby⟩:=hzz;have HI:Hid(Tryz.prog.info? 61=some i0/\i0.zero=some(.agg #[.int .i64 0,.int .i64 0])/\i0.size=2/\i0.bytes=16):=⟨hi',hz,hs,hby⟩;clear hi' hz hs hby;have rA:=zC w(.cells #[.int .i64 s.zRU,.slice a s.kn c,.string s.data] 127);have pA:=zA rA(zC _(.cells #[.int .i64 0,.slice none 0 0,.string ⟨#[]⟩] 127));have sA:=zA pA(zC _(.cells #[] 61));have oA:Hid(Below w.heap.size w(((w.alloc(.cells #[.int .i64 s.zRU,.slice a s.kn c,.string s.data] 127)).alloc(.cells #[.int .i64 0,.slice none 0 0,.string ⟨#[]⟩] 127)).alloc(.cells #[] 61))):=sA;have bA:=World.ownsRow_made(base:=w.heap.size+1+1)(e:=61)(size:=2)((w.alloc(.cells #[.int .i64 s.zRU,.slice a s.kn c,.string s.data] 127)).alloc(.cells #[.int .i64 0,.slice none 0 0,.string ⟨#[]⟩] 127)) #[] 0(by simp)(Nat.zero_le _)(by simp);rw [World.size_alloc,World.size_alloc] at bA;have aA:Hid((((w.alloc(.cells #[.int .i64 s.zRU,.slice a s.kn c,.string s.data] 127)).alloc(.cells #[.int .i64 0,.slice none 0 0,.string ⟨#[]⟩] 127)).alloc(.cells #[] 61)).ownsRow(w.heap.size+1+1) 61 2(.slice(some ⟨w.heap.size+1+1,0,none⟩) 0 0) 0 []):=bA;have iA:Hid(yT(((w.alloc(.cells #[.int .i64 s.zRU,.slice a s.kn c,.string s.data] 127)).alloc(.cells #[.int .i64 0,.slice none 0 0,.string ⟨#[]⟩] 127)).alloc(.cells #[] 61)) w.heap.size(.int .i64 s.zRU)(.slice a s.kn c)(.string s.data)):=((yT.zRL w _ _ _ _).zRJ(zC _ _)).zRJ(zC _ _);have jA:Hid(yT(((w.alloc(.cells #[.int .i64 s.zRU,.slice a s.kn c,.string s.data] 127)).alloc(.cells #[.int .i64 0,.slice none 0 0,.string ⟨#[]⟩] 127)).alloc(.cells #[] 61))(w.heap.size+1)(.int .i64 0)(.slice none 0 0)(.string ⟨#[]⟩)):=by
  have:=((yT.zRL(w.alloc(.cells #[.int .i64 s.zRU,.slice a s.kn c,.string s.data] 127))(.int .i64 0)(.slice none 0 0)(.string ⟨#[]⟩) 127).zRJ(zC _(.cells #[] 61)));rw [World.size_alloc] at this;exact this
 clear rA pA sA bA;go_enter Tryz.func146,Tryz.ntmps146;cases a with
 |none=>
  have tA:s.kn=0:=by
   by_cases h:0<s.kn
   ·obtain⟨b,off,ha,_⟩:=G1.out h;simp at ha
   ·omega
  have gA:Hid(s.kn=0):=tA;clear tA;go_wp2_with(first
   |(at_builtin;refine zF3 rfl _ _ 62 rfl(w.heap.size+1+1) 61 i0 2 c s.kn(by kernel_rfl) HI.out.1(.slice(some ⟨w.heap.size+1+1,0,none⟩) 0 0) 0 [] rfl ?c0 gA.out rfl ?_))
  case c0=>exact aA.out
  refine bodyPost_ret(v:=.agg #[.int .i64 s.zRU,.slice(some ⟨w.heap.size+1+1,0,none⟩) 0 0,.string s.data])(by simp [results,Tryz.results146,go_sem]) rfl ⟨_,0,rfl,?_,?_,?_⟩
  ·exact⟨Hm.out,_,0,by rw [gA.out],by rw [gA.out];exact Nat.le_refl _,fun h=>absurd h(by rw [gA.out];exact Nat.lt_irrefl _)⟩
  ·exact fun h=>absurd h(by rw [gA.out];exact Nat.lt_irrefl _)
  ·exact zA(zA(zC _ _)(zC _ _))(zC _ _)
 |some ad=>
  have mA:Hid(∀(w':World),Below w.heap.size w w'->∀j u,(kc s.ks s.kb s.kn)[j]?=some u->w'.cell?(ad.add j)=some u):=fun w' hb j u hj=>by
   by_cases h0:0<s.kn
   ·obtain⟨b,off,ha,_,_,hc⟩:=G1.out h0;simp only [Option.some.injEq] at ha;subst ha;have:=zFu hc j u hj;have nA:(⟨b,off,none⟩:Addr).add j=⟨b,off+j,none⟩:=(by unfold Addr.add;split<;>simp_all);rw [nA] at this ⊢;exact(hb.cell(zD this)).trans this
   ·have aB:s.kn=0:=(by omega);rw [aB] at hj;simp [kc] at hj
  go_wp2_with(first
   |(at_builtin;refine wpList_append_own _ rfl _ _ 62 rfl(w.heap.size+1+1) 61 i0(.agg #[.int .i64 0,.int .i64 0]) 2 16(by kernel_rfl) HI.out.1 HI.out.2.1 HI.out.2.2.1 HI.out.2.2.2 rfl(by decide) _ 0 [] rfl ?c0 ad s.kn c(kc s.ks s.kb s.kn) rfl(zEH _ _ _) ?c1(zKF _ _ _) ?c3 ?c4 ?c5 ?_))
  case c0=>exact aA.out
  case c1=>exact mA.out _ oA.out
  case c3=>unfold maxLen;omega
  case c4=>omega
  case c5=>simp
  intro v' w1 dA cA kA;have eA:w1.ownsRow(w.heap.size+1+1) 61 2 v' s.kn(kc s.ks s.kb s.kn):=(by simpa using dA);have bB:Below w.heap.size w w1:=oA.out.grown cA(by simp;omega)(fun q hq=>by have:=aA.out.lt q hq;omega);have fA:∀b,b<w.heap.size+1+1->∀o x,zX(((w.alloc(.cells #[.int .i64 s.zRU,.slice(some ad) s.kn c,.string s.data] 127)).alloc(.cells #[.int .i64 0,.slice none 0 0,.string ⟨#[]⟩] 127)).alloc(.cells #[] 61)) b o x->zX w1 b o x:=fun b hb o x hx=>by
   have e:=zLU cA aA.out hb hx.lt;exact⟨(World.cell?_of_block(a:=⟨b,o,none⟩) e).trans hx.1,(World.frozen?_of_block(a:=⟨b,o,none⟩) e).trans hx.2⟩
  have cB:Hid(yT w1 w.heap.size(.int .i64 s.zRU)(.slice(some ad) s.kn c)(.string s.data)):=⟨fA _(by omega) _ _ iA.out.1,fA _(by omega) _ _ iA.out.2.1,fA _(by omega) _ _ iA.out.2.2⟩;have vA:Hid(yT w1(w.heap.size+1)(.int .i64 0)(.slice none 0 0)(.string ⟨#[]⟩)):=⟨fA _(by omega) _ _ jA.out.1,fA _(by omega) _ _ jA.out.2.1,fA _(by omega) _ _ jA.out.2.2⟩;obtain⟨kb,hp,hk⟩:=zCG Hm.out eA;have Hp:Hid(zj w1 kb v' s.kn s.ks s.kb/\(0<s.kn->w.heap.size+1+1<=kb/\kb<w1.heap.size)):=⟨hp,hk⟩;obtain⟨_,ka,kc',rfl,_⟩:=hp;clear hk dA eA cA kA fA iA jA aA oA;obtain⟨⟨x0,x1⟩,⟨x2,x3⟩,⟨x4,x5⟩⟩:=cB.out;obtain⟨⟨y0,y1⟩,⟨y2,y3⟩,⟨y4,y5⟩⟩:=vA.out;go_wp2;have lA:=(vA.out.zRK(b':=w.heap.size)(o':=1)(.slice ka s.kn kc')(by omega)).put(.int .i64 s.zRU)(.slice ka s.kn kc')(.string s.data);refine bodyPost_ret(v:=.agg #[.int .i64 s.zRU,.slice ka s.kn kc',.string s.data])(by simp [results,Tryz.results146,go_sem,lA.1.1,lA.2.1.1,lA.2.2.1]) rfl ⟨_,kb,rfl,?_,?_,?_⟩
  ·have hk:=Hp.out.2;refine(((Hp.out.1.zRR(zF.put _ _ _ _) ?_).zRR(zF.put _ _ _ _) ?_).zRR(zF.put _ _ _ _) ?_).zRR(zF.put _ _ _ _) ?_
   all_goals exact fun h0 e=>by have:=hk h0;omega
  ·intro h0;have:=Hp.out.2 h0;simp only [World.size_setCell];omega
  ·exact(((bB.setCell(by show _<=w.heap.size;omega) _).setCell(by show _<=w.heap.size+1;omega) _).setCell(by show _<=w.heap.size+1;omega) _).setCell(by show _<=w.heap.size+1;omega) _
theorem zIj(a:Option Addr)(n c:Nat)(xs:List Value)(w:World)(hl:xs.length=n*1)(gA:∀u∈xs,u.oneCell'=true)(hn:n<=1048576)
    (hc:0<n->∃b off,a=some ⟨b,off,none⟩/\∀j u,xs[j]?=some u->w.cell? ⟨b,off+j,none⟩=some u) :
    Calls Tryz.prog 211 #[.slice a n c] w fun e w'=>∃v',e = .returned v'/\w'.ownsRow w.heap.size 2 1 v' n xs/\Below w.heap.size w w'/\(n=0->∃a,v' = .slice a 0 0):=by
  have Hc:Hid(0<n->∃b off,a=some ⟨b,off,none⟩/\∀j u,xs[j]?=some u->w.cell? ⟨b,off+j,none⟩=some u):=hc;have Hl:Hid(xs.length=n*1/\∀u∈xs,u.oneCell'=true):=⟨hl,gA⟩;clear hc hl gA;have mA:=fun w=>Lib.run_eql_slice_nil(P:=Tryz.prog) w 23 2 a n c 0 0(by kernel_rfl)
  cases a with
  |none=>
    have lA:n=0:=by
      by_cases h:0<n
      · obtain⟨b,off,ha,_⟩:=Hc.out h;simp at ha
      · omega
    subst lA;have jA:xs = []:=List.eq_nil_of_length_eq_zero(by simpa using Hl.out.1);subst jA;go_enter Tryz.func211,Tryz.ntmps211;go_wp2;go_ret;exact⟨_,rfl,World.ownsRow_nil _ _ _ _,Below.refl _ _,fun _=>⟨_,rfl⟩⟩
  |some ad=>
    obtain⟨i0,hi,hzz⟩:=Option.map_eq_some_iff.1 zDM;simp only [Prod.mk.injEq] at hzz;obtain⟨hz,hs,hby⟩:=hzz;have HI:Hid(Tryz.prog.info? 2=some i0/\i0.zero=some(.int .i64 0)/\i0.size=1/\i0.bytes=8):=⟨hi,hz,hs,hby⟩;have cA:Hid((w.alloc(.cells #[] 2)).ownsRow w.heap.size 2 1(.slice(some ⟨w.heap.size,0,none⟩) 0 0) 0 []):=World.ownsRow_made w #[] 0(Nat.le_refl _)(Nat.zero_le _)(by simp);clear hi hz hs hby;go_enter Tryz.func211,Tryz.ntmps211;go_wp2_with(first
      |(at_builtin;refine qJ rfl _ _ 23 rfl w.heap.size 2 i0(.int .i64 0) 1 8(by kernel_rfl) HI.out.1 HI.out.2.1 HI.out.2.2.1 HI.out.2.2.2 rfl(by decide) _ _ _ rfl cA.out(some ad) n c xs rfl Hl.out.1 Hl.out.2 ?c1 ?c3 ?c4 ?c5 ?_))
    case c1=>
      intro h0;obtain⟨b,off,ha,hcell⟩:=Hc.out h0;exact⟨b,off,ha,fun j u hj=>(((Below.refl _ _).alloc(Nat.le_refl _) _).cell(zD(hcell j u hj))).trans(hcell j u hj)⟩
    case c3=>unfold maxLen;omega
    case c4=>omega
    case c5=>simp
    intro v' w1 bA aA fA;have kA:Below w.heap.size w w1:=((Below.refl _ _).alloc(Nat.le_refl _) _).grown aA(by simp)(fun q hq=>by have:=cA.out.lt q hq;omega);have dA:w1.ownsRow w.heap.size 2 1 v' n xs:=(by simpa using bA);have eA:Hid(w1.ownsRow w.heap.size 2 1 v' n xs):=dA;have iA:Hid(n=0->v' = .slice(some ⟨w.heap.size,0,none⟩) 0 0):=fA;clear bA dA aA fA;go_wp2;go_ret;exact⟨v',rfl,eA.out,kA,fun e=>⟨_,iA.out e⟩⟩
theorem zIJ(a:Option Addr)(n c:Nat)(xs:List Value)(w:World)(hl:xs.length=n*3)(gA:∀u∈xs,u.oneCell'=true)(hn:n<=1048576)
    (hc:0<n->∃b off,a=some ⟨b,off,none⟩/\∀j u,xs[j]?=some u->w.cell? ⟨b,off+j,none⟩=some u) :
    Calls Tryz.prog 218 #[.slice a n c] w fun e w'=>∃v',e = .returned v'/\w'.ownsRow w.heap.size 127 3 v' n xs/\Below w.heap.size w w'/\(n=0->∃a,v' = .slice a 0 0):=by
  have Hc:Hid(0<n->∃b off,a=some ⟨b,off,none⟩/\∀j u,xs[j]?=some u->w.cell? ⟨b,off+j,none⟩=some u):=hc;have Hl:Hid(xs.length=n*3/\∀u∈xs,u.oneCell'=true):=⟨hl,gA⟩;clear hc hl gA;have mA:=fun w=>Lib.run_eql_slice_nil(P:=Tryz.prog) w 31 127 a n c 0 0(by kernel_rfl)
  cases a with
  |none=>
    have lA:n=0:=by
      by_cases h:0<n
      · obtain⟨b,off,ha,_⟩:=Hc.out h;simp at ha
      · omega
    subst lA;have jA:xs = []:=List.eq_nil_of_length_eq_zero(by simpa using Hl.out.1);subst jA;go_enter Tryz.func218,Tryz.ntmps218;go_wp2;go_ret;exact⟨_,rfl,World.ownsRow_nil _ _ _ _,Below.refl _ _,fun _=>⟨_,rfl⟩⟩
  |some ad=>
    obtain⟨i0,hi,hzz⟩:=Option.map_eq_some_iff.1 zEX;simp only [Prod.mk.injEq] at hzz;obtain⟨hz,hs,hby⟩:=hzz;have HI:Hid(Tryz.prog.info? 127=some i0/\i0.zero=some(.agg #[.int .i64 0,.slice none 0 0,.string ⟨#[]⟩])/\i0.size=3/\i0.bytes=48):=⟨hi,hz,hs,hby⟩;have cA:Hid((w.alloc(.cells #[] 127)).ownsRow w.heap.size 127 3(.slice(some ⟨w.heap.size,0,none⟩) 0 0) 0 []):=World.ownsRow_made w #[] 0(Nat.le_refl _)(Nat.zero_le _)(by simp);clear hi hz hs hby;go_enter Tryz.func218,Tryz.ntmps218;go_wp2_with(first
      |(at_builtin;refine qJ rfl _ _ 31 rfl w.heap.size 127 i0(.agg #[.int .i64 0,.slice none 0 0,.string ⟨#[]⟩]) 3 48(by kernel_rfl) HI.out.1 HI.out.2.1 HI.out.2.2.1 HI.out.2.2.2 rfl(by decide) _ _ _ rfl cA.out(some ad) n c xs rfl Hl.out.1 Hl.out.2 ?c1 ?c3 ?c4 ?c5 ?_))
    case c1=>
      intro h0;obtain⟨b,off,ha,hcell⟩:=Hc.out h0;exact⟨b,off,ha,fun j u hj=>(((Below.refl _ _).alloc(Nat.le_refl _) _).cell(zD(hcell j u hj))).trans(hcell j u hj)⟩
    case c3=>unfold maxLen;omega
    case c4=>omega
    case c5=>simp
    intro v' w1 bA aA fA;have kA:Below w.heap.size w w1:=((Below.refl _ _).alloc(Nat.le_refl _) _).grown aA(by simp)(fun q hq=>by have:=cA.out.lt q hq;omega);have dA:w1.ownsRow w.heap.size 127 3 v' n xs:=(by simpa using bA);have eA:Hid(w1.ownsRow w.heap.size 127 3 v' n xs):=dA;have iA:Hid(n=0->v' = .slice(some ⟨w.heap.size,0,none⟩) 0 0):=fA;clear bA dA aA fA;go_wp2;go_ret;exact⟨v',rfl,eA.out,kA,fun e=>⟨_,iA.out e⟩⟩
theorem zIk(v0 v1:Value)(lo hi:Nat)(p:zJ)(w:World)(h1:zy w lo hi v0 v1 p)(hn:qE p<=1048576):Calls Tryz.prog 82 #[.agg #[v0,v1]] w(zPv p w):=by
  have Hp:=zU h1;obtain⟨⟨m1,a,c,rfl,mc,g1⟩,⟨m2,a',c',rfl,mc',g2⟩⟩:=h1;have Hm:=zU(And.intro m1 m2);clear g1 g2 m1 m2;unfold qE at hn;have Hn:Hid(∀j,j<p.n->(p.s j).kn<=1048576):=fun j hj=>by have h2:=zFr p.s hj;unfold zAY at h2;omega
  have gC:p.n<=1048576:=(by omega);have dC:p.hn<=1048576:=(by omega);clear hn;obtain⟨i0,hi0,hzz⟩:=Option.map_eq_some_iff.1 zDM;simp only [Prod.mk.injEq] at hzz;have HI:=zU(And.intro hi0 hzz);obtain⟨i1,hi1,hzz1⟩:=Option.map_eq_some_iff.1 zEX;simp only [Prod.mk.injEq] at hzz1;have pA:=zU(And.intro hi1 hzz1);clear hi0 hzz hi1 hzz1;have kB:=zC w(.cells #[.slice a p.n c,.slice a' p.hn c'] 33);have dB:=zA kB(zC _(.cells #[.slice none 0 0,.slice none 0 0] 33));have bB:=zU(zA dB(zC _(.cells #[] 2)));have fA:=World.ownsRow_made(base:=w.heap.size+1+1)(e:=2)(size:=1)((w.alloc(.cells #[.slice a p.n c,.slice a' p.hn c'] 33)).alloc(.cells #[.slice none 0 0,.slice none 0 0] 33)) #[] 0(by simp)(Nat.zero_le _)(by simp);rw [World.size_alloc,World.size_alloc] at fA;have cA:=zU fA;have cB:=zU(((zc.zRL w(.slice a p.n c)(.slice a' p.hn c') 33).zRJ(zC _(.cells #[.slice none 0 0,.slice none 0 0] 33))).zRJ(zC _(.cells #[] 2)));have sA:=(zc.zRL(w.alloc(.cells #[.slice a p.n c,.slice a' p.hn c'] 33))(.slice none 0 0)(.slice none 0 0) 33).zRJ(zC _(.cells #[] 2));rw [World.size_alloc] at sA;have eB:=zU sA;clear kB dB fA sA;go_enter Tryz.func82,Tryz.ntmps82;go_wp2_with(first
    |(at_builtin;refine qJ rfl _ _ 23 rfl(w.heap.size+1+1) 2 i0(.int .i64 0) 1 8(by kernel_rfl) HI.out.1 HI.out.2.1 HI.out.2.2.1 HI.out.2.2.2 rfl(by decide)(.slice(some ⟨w.heap.size+1+1,0,none⟩) 0 0) 0 [] rfl ?c0 a' p.hn c'(ic p.h p.hn) rfl(zBe _ _)(zO4 _ _) ?c1 ?c3 ?c4 ?c5 ?_))
  case c0=>exact cA.out
  case c1=>exact zJw Hp.out.2 rfl bB.out
  case c3=>unfold maxLen;omega
  case c4=>omega
  case c5=>simp
  intro v' w1 gA dA jA;have eA:w1.ownsRow(w.heap.size+1+1) 2 1 v' p.hn(ic p.h p.hn):=(by simpa using gA);obtain⟨ha,hc,rfl,_⟩:=zW eA;have oB:Hid(p.hn=0->∃a,Value.slice ha p.hn hc = .slice a 0 0):=fun e=>⟨_,jA e⟩
  clear jA;have nA:=zU eA;have vB:=zU(cB.out.grown dA cA.out(by omega));have cC:=zU(eB.out.grown dA cA.out(by omega));have pB:Below w.heap.size w w1:=bB.out.grown dA(by simp;omega)(fun q hq=>by have:=cA.out.lt q hq;omega);have eC:w.heap.size+3<=w1.heap.size:=(by have:=dA.size;simp at this;omega);clear gA eA dA cB eB cA bB;have aB:=zU(And.intro((vB.out.zRJ(zC w1(.cells #[.slice none 0 0,.slice ha p.hn hc] 33))))(And.intro(zc.zRL w1(.slice none 0 0)(.slice ha p.hn hc) 33)(zC w1(.cells #[.slice none 0 0,.slice ha p.hn hc] 33))));go_wp2
  go_loopw [4](fun i wr=>∃(k:Nat)(va:Option Addr)(vc:Nat)(kb:Nat->Nat)(kv:Nat->Value),k<=p.n/\i = .int .i64 k/\zc wr w.heap.size(.slice a p.n c)(.slice a' p.hn c')/\zc wr w1.heap.size(.slice va k vc)(.slice ha p.hn hc)/\zEs wr(w1.heap.size+1) k p.s kb kv(.slice va k vc)/\Below w1.heap.size w1 wr/\w1.heap.size+1<=wr.heap.size)(fun i _=>p.n - (intOf i).toNat)
  case atStart=>exact⟨0,none,0,_,_,Nat.zero_le _,rfl,aB.out.1,aB.out.2.1,zEs.nil _ _ _,aB.out.2.2,by simp⟩
  case round=>
    obtain⟨k,va,vc,kb,kv,hk,rfl,hx,ho,hl,hbr,hzr⟩:=hrel;have Hx:=zU hx;have Ho:=zU ho;have Hl:=zU hl;have iB:=zA pB hbr;clear hx ho hl;by_cases tA:k<p.n
    · have aC:(k:Int)<(p.n:Int):=by omega
      obtain⟨b,off,ka,kc,rfl,hs⟩:=(Hp.out.1.zRJ iB).cells tA;have Hs:=zU hs;obtain⟨q0,q1,q2,_⟩:=hs;obtain⟨⟨x0,x1⟩,⟨x2,x3⟩⟩:=Hx.out;obtain⟨⟨y0,y1⟩,⟨y2,y3⟩⟩:=Ho.out;have fC:b<w.heap.size:=by
        obtain⟨b',off',_,_,he,hs0⟩:=Hp.out.1.cells tA;simp only [Option.some.injEq,Addr.mk.injEq,and_true] at he;rw [he.1];exact zD hs0.c0
      have n0:w1.heap.size≠w.heap.size:=(by omega);have n1:w1.heap.size≠b:=(by omega);go_wp2_with fail
      go_region_law
        (first
          |(refine step_append_lies _ rfl(.tmp 18)(.tmp 25) 31 rfl(w1.heap.size+1) 127 i1(.agg #[.int .i64 0,.slice none 0 0,.string ⟨#[]⟩]) 3 48(by kernel_rfl) pA.out.1 pA.out.2.1 pA.out.2.2.1 pA.out.2.2.2 rfl(by decide)(.slice va k vc) k(sc p.s kv k)(by simp [Act.eval]) ?_ ⟨w2.heap.size,0,none⟩ 1 1 [.int .i64(p.s k).zRU,.slice na(p.s k).kn nc,.string(p.s k).data](by simp [Act.eval]) rfl ?_ ?_(by decide) ?_ ?_ ?_ _ rfl ?_
             exact((Hl.out.zRJ aA).zRJ(zC w2 _)).row;exact zQS _ _ _ _ _;exact zQz _ _ _ _ _
             (unfold maxLen;omega)
             omega
             (have:=aA.size;rw [World.size_alloc];omega)
             intro g tB w3 iA bA mA vA;have oA:=(Hl.out.zRJ aA).zRJ(zC w2(.cells #[.int .i64(p.s k).zRU,.slice na(p.s k).kn nc,.string(p.s k).data] 127));have t3:=zB9 bA;have lA:∀b,b<w1.heap.size+1->¬(Value.slice va k vc).ownBlock=some b:=fun b hb e=>by have:=oA.row.lt b e;omega
             have gB:=((Hx.out.zRJ aA).zRJ(zC w2(.cells #[.int .i64(p.s k).zRU,.slice na(p.s k).kn nc,.string(p.s k).data] 127))).zRR t3(lA _(by omega));have jB:=((Ho.out.zRJ aA).zRJ(zC w2(.cells #[.int .i64(p.s k).zRU,.slice na(p.s k).kn nc,.string(p.s k).data] 127))).zRR t3(lA _(by omega));have kA:=(Hs.out.zRJ aA).zRJ(zC w2(.cells #[.int .i64(p.s k).zRU,.slice na(p.s k).kn nc,.string(p.s k).data] 127));have z5:=(t3.cell(zD kA.c0)(lA _(by omega))).trans kA.c0;have z6:=(t3.cell(zD kA.c1)(lA _(by omega))).trans kA.c1;have z7:=(t3.cell(zD kA.c2)(lA _(by omega))).trans kA.c2;have nB:=zU gB;have lB:=zU jB;obtain⟨⟨z8,z9⟩,⟨z10,z11⟩⟩:=gB;obtain⟨⟨iC,z13⟩,⟨z14,z15⟩⟩:=jB;have sB:=zU(oA.next(hp2.zRJ(zC w2 _))(zMU Hl.out hzr(fun h0=>by have:=hpl2 h0;rw [World.size_alloc];exact⟨this.1,by omega⟩)) Hs.out.slot.2.2.2 iA bA mA);have rB:Below w1.heap.size w1 w3:=(zA(zA hbr aA)(zC w2 _)).grown bA(by have:=aA.size;rw [World.size_alloc];omega)(fun q hq=>by have:=oA.row.lt q hq;omega);have bC:w1.heap.size+1<=w3.heap.size:=(by have:=bA.size;have:=aA.size;rw [World.size_alloc] at *;omega);clear oA t3 lA kA iA bA mA vA hp2 hpl2)
          |(go_simp;go_at_call 146;refine(zL3 _ _ _ lo hi(p.s k) _ ?_(Hn.out k tA)).mono ?_;(first | exact Hs.out.slot | exact Hs.out.slot.zRJ(Below.refl _ _).drew);rintro e w2 ⟨nv,nb,rfl,hp2,hpl2,hb2⟩;obtain⟨_,na,nc,rfl,_⟩:=id hp2;have aA:Below wr.heap.size wr w2:=(by first | exact hb2 | exact zK hb2);have jC:=((Ho.out.zRJ aA).zRJ(zC w2(.cells #[.int .i64(p.s k).zRU,.slice na(p.s k).kn nc,.string(p.s k).data] 127))).1.1;have z0:=(Hx.out.zRJ aA).1.1;have z1:=(Ho.out.zRJ aA).1.1;have z2:=(Hs.out.zRJ aA).c0;have z3:=(Hs.out.zRJ aA).c1;have z4:=(Hs.out.zRJ aA).c2))
      all_goals
        go_wp2;go_roundw
        case rel=>exact⟨k+1,some ⟨g,0,none⟩,tB,_,_,by omega,by go_num,nB.out.zRK _(by omega),⟨lB.out.1.set _,lB.out.2.zRK _(Or.inr(by omega))⟩,sB.out.put(by omega) _,rB.setCell(Nat.le_refl _) _,by rw [World.size_setCell];exact bC⟩
        case measure=>simp [intOf];omega
    · obtain rfl:k=p.n:=by omega
      obtain⟨⟨x0,x1⟩,⟨x2,x3⟩⟩:=Hx.out;obtain⟨⟨y0,y1⟩,⟨y2,y3⟩⟩:=Ho.out;have mB:=zU(cC.out.zRJ hbr);obtain⟨⟨u0,u1⟩,⟨u2,u3⟩⟩:=mB.out;go_wp2;have fB:=mB.out.put(.slice va p.n vc)(.slice ha p.hn hc);have t:=(zF.put wr(w.heap.size+1) 0(.slice va p.n vc)).trans(zF.put _(w.heap.size+1) 1(.slice ha p.hn hc));have hz:=t.size;obtain⟨bs,hso,hspl⟩:=Hl.out.own Hm.out.1;have rA:=nA.out.kept(zBV hbr none)(by cases hv:(Value.slice ha p.hn hc).ownBlock<;>simp);refine bodyPost_ret(v:=.agg #[.slice va p.n vc,.slice ha p.hn hc])(by simp [results,Tryz.results82,go_sem,fB.1.1,fB.2.1]) rfl ⟨_,_,w1.heap.size+1,bs,kb,kv,rfl,?_,Hl.out.zRW,?_,?_,?_,by omega,by omega,?_,oB.out⟩
      · exact hso.zRR t(fun h0 e=>by have:=hspl bs(Or.inl ⟨h0,rfl⟩);omega)(fun i hi h0 e=>by have:=hspl _(Or.inr ⟨i,hi,h0,rfl⟩);omega)
      · intro k hk
        have:=hspl k hk;omega
      · exact zER(ownsRow_setCell_below(ownsRow_setCell_below rA(by show w.heap.size+1<_;omega) _)(by show w.heap.size+1<_;omega) _)(by omega)
      · intro k hk
        have:=nA.out.lt k hk;omega
      · exact(iB.setCell(by show _<=w.heap.size+1;omega) _).setCell(by show _<=w.heap.size+1;omega) _
theorem zG6(v0 v1:Value)(lo hi:Nat)(p:zJ)(w:World)(h1:zy w lo hi v0 v1 p)(hn:qE p<=1048576):Calls Tryz.prog 82 #[.agg #[v0,v1]] w(zHP p w):=by
  refine(zIk v0 v1 lo hi p w h1 hn).mono ?_;rintro e w' ⟨u0,u1,M,bs,kb,kv,rfl,g1,g2,g3,g4,g5,g6,g7,g8,g9⟩;exact⟨u0,u1,rfl,zJX g1 g2 g3 h1.2.1 g4(fun k hk=>⟨(g5 k hk).1,Or.inl(g5 k hk).2⟩) g6 g9,g8⟩
def zFG(w:World)(b:Nat)(v0 v1 v2 v3 v4:Value):Prop:=zX w b 0 v0/\zX w b 1 v1/\zX w b 2 v2/\zX w b 3 v3/\zX w b 4 v4
theorem zFG.zRJ{w w':World}{b:Nat}{v0 v1 v2 v3 v4:Value}(h:zFG w b v0 v1 v2 v3 v4)(t:Below w.heap.size w w'):zFG w' b v0 v1 v2 v3 v4:=⟨h.1.zRJ t,h.2.1.zRJ t,h.2.2.1.zRJ t,h.2.2.2.1.zRJ t,h.2.2.2.2.zRJ t⟩
theorem zFG.zRL(w:World)(v0 v1 v2 v3 v4:Value)(t:TypeId):zFG(w.alloc(.cells #[v0,v1,v2,v3,v4] t)) w.heap.size v0 v1 v2 v3 v4:=by
 have hb:(w.alloc(.cells #[v0,v1,v2,v3,v4] t)).heap[w.heap.size]?=some(.cells #[v0,v1,v2,v3,v4] t):=heap_alloc_new _ _;exact⟨zI hb rfl,zI hb rfl,zI hb rfl,zI hb rfl,zI hb rfl⟩
abbrev put5(w:World)(b:Nat)(u0 u1 u2 u3 u4:Value):World:=((((w.setCell ⟨b,0,none⟩ u0).setCell ⟨b,1,none⟩ u1).setCell ⟨b,2,none⟩ u2).setCell ⟨b,3,none⟩ u3).setCell ⟨b,4,none⟩ u4
theorem zFG.put{w:World}{b:Nat}{v0 v1 v2 v3 v4:Value}(h:zFG w b v0 v1 v2 v3 v4)(u0 u1 u2 u3 u4:Value):zFG(put5 w b u0 u1 u2 u3 u4) b u0 u1 u2 u3 u4:=by
 obtain⟨h0,h1,h2,h3,h4⟩:=h;refine⟨?_,?_,?_,?_,?_⟩
 ·exact((((h0.set _).zRK _(Or.inr(by omega))).zRK _(Or.inr(by omega))).zRK _(Or.inr(by omega))).zRK _(Or.inr(by omega))
 ·exact((((h1.zRK _(Or.inr(by omega))).set _).zRK _(Or.inr(by omega))).zRK _(Or.inr(by omega))).zRK _(Or.inr(by omega))
 ·exact((((h2.zRK _(Or.inr(by omega))).zRK _(Or.inr(by omega))).set _).zRK _(Or.inr(by omega))).zRK _(Or.inr(by omega))
 ·exact((((h3.zRK _(Or.inr(by omega))).zRK _(Or.inr(by omega))).zRK _(Or.inr(by omega))).set _).zRK _(Or.inr(by omega))
 ·exact((((h4.zRK _(Or.inr(by omega))).zRK _(Or.inr(by omega))).zRK _(Or.inr(by omega))).zRK _(Or.inr(by omega))).set _
theorem zF.put5(w:World)(b:Nat)(u0 u1 u2 u3 u4:Value):zF(fun k=>k=b) w(put5 w b u0 u1 u2 u3 u4):=
 ((((zF.put w b 0 u0).trans(zF.put _ b 1 u1)).trans(zF.put _ b 2 u2)).trans(zF.put _ b 3 u3)).trans(zF.put _ b 4 u4)
structure zDe where
 zRQ:zJ
 ps:Int
 pb:Int
 code:Int
def zMi(o:zDe)(w:World)(e:Ending)(w':World):Prop:=∃v0 v1,e = .returned(.agg #[v0,v1,.int .i64 o.ps,.int .i64 o.pb,.int .i64 o.code])/\zt w' w.heap.size w'.heap.size v0 v1 o.zRQ/\Below w.heap.size w w'
theorem zHV{w:World}{lo hi:Nat}:zt w lo hi(.slice none 0 0)(.slice none 0 0)(zDi 0):=
 zOx(g:=0)(Nat.zero_le _) ⟨none,0,rfl,Nat.le_refl _,fun h=>absurd h(Nat.lt_irrefl _)⟩(fun i h=>absurd h(Nat.not_lt_zero _))
def noW:zH:={zRQ:=zDi 0,time:=0,next:=0,sn:=0,zRS:=fun _=>⟨⟨#[]⟩,0,0,0,0,0,fun _=>0,fun _=>0⟩,pn:=0,zRP:=fun _=>⟨0,⟨#[]⟩,⟨#[]⟩,0,0,0,0,0,fun _=>0,fun _=>0⟩}
theorem zEh{w:World}{lo hi:Nat}:qO w lo hi(.slice none 0 0)(.slice none 0 0)(.slice none 0 0)(.slice none 0 0) noW:=by
 refine⟨fun k=>lo<=k/\k<hi,fun _=>False,fun _=>False,⟨(zHV(lo:=lo)(hi:=hi)).isIn(fun k h1 h2=>⟨h1,h2⟩),?_,?_,fun _ _ h=>h,fun _ _ h=>h,fun _ h=>h.elim⟩,fun k hk=>?_⟩
 ·exact⟨0,fun _=>0,fun _=>.slice none 0 0,⟨Nat.zero_le _,none,0,rfl,Nat.le_refl _,fun h=>absurd h(Nat.lt_irrefl _)⟩,fun i j hi=>absurd hi(Nat.not_lt_zero _),fun k hk=>by
   rcases hk with⟨h,_⟩ | ⟨i,h,_⟩
   ·exact absurd h(Nat.lt_irrefl _)
   ·exact absurd h(Nat.not_lt_zero _)⟩
 ·exact⟨0,fun _=>0,fun _=>.slice none 0 0,⟨Nat.zero_le _,none,0,rfl,Nat.le_refl _,fun h=>absurd h(Nat.lt_irrefl _)⟩,fun i j hi=>absurd hi(Nat.not_lt_zero _),fun k hk=>by
   rcases hk with⟨h,_⟩ | ⟨i,h,_⟩
   ·exact absurd h(Nat.lt_irrefl _)
   ·exact absurd h(Nat.not_lt_zero _)⟩
 ·rcases hk with h | h | h
  ·exact h
  ·exact h.elim
  ·exact h.elim
def yq(w:World)(b:Nat)(v0 v1 v2 v3 v4 v5 v6 v7 v8:Value):Prop:=zX w b 0 v0/\zX w b 1 v1/\zX w b 2 v2/\zX w b 3 v3/\zX w b 4 v4/\zX w b 5 v5/\zX w b 6 v6/\zX w b 7 v7/\zX w b 8 v8
theorem yq.zRJ{w w':World}{b:Nat}{v0 v1 v2 v3 v4 v5 v6 v7 v8:Value}(h:yq w b v0 v1 v2 v3 v4 v5 v6 v7 v8)(t:Below w.heap.size w w'):yq w' b v0 v1 v2 v3 v4 v5 v6 v7 v8:=⟨h.1.zRJ t,h.2.1.zRJ t,h.2.2.1.zRJ t,h.2.2.2.1.zRJ t,h.2.2.2.2.1.zRJ t,h.2.2.2.2.2.1.zRJ t,h.2.2.2.2.2.2.1.zRJ t,h.2.2.2.2.2.2.2.1.zRJ t,h.2.2.2.2.2.2.2.2.zRJ t⟩
theorem yq.zRR{S:Nat->Prop}{w w':World}{b:Nat}{v0 v1 v2 v3 v4 v5 v6 v7 v8:Value}(h:yq w b v0 v1 v2 v3 v4 v5 v6 v7 v8)(t:zF S w w')(hs:¬S b):yq w' b v0 v1 v2 v3 v4 v5 v6 v7 v8:=⟨h.1.zRR t hs,h.2.1.zRR t hs,h.2.2.1.zRR t hs,h.2.2.2.1.zRR t hs,h.2.2.2.2.1.zRR t hs,h.2.2.2.2.2.1.zRR t hs,h.2.2.2.2.2.2.1.zRR t hs,h.2.2.2.2.2.2.2.1.zRR t hs,h.2.2.2.2.2.2.2.2.zRR t hs⟩
theorem yq.zRL(w:World)(v0 v1 v2 v3 v4 v5 v6 v7 v8:Value)(t:TypeId):yq(w.alloc(.cells #[v0,v1,v2,v3,v4,v5,v6,v7,v8] t)) w.heap.size v0 v1 v2 v3 v4 v5 v6 v7 v8:=by
 have hb:(w.alloc(.cells #[v0,v1,v2,v3,v4,v5,v6,v7,v8] t)).heap[w.heap.size]?=some(.cells #[v0,v1,v2,v3,v4,v5,v6,v7,v8] t):=heap_alloc_new _ _;exact⟨zI hb rfl,zI hb rfl,zI hb rfl,zI hb rfl,zI hb rfl,zI hb rfl,zI hb rfl,zI hb rfl,zI hb rfl⟩
abbrev put9(w:World)(b:Nat)(u0 u1 u2 u3 u4 u5 u6 u7 u8:Value):World:=((((((((w.setCell ⟨b,0,none⟩ u0).setCell ⟨b,1,none⟩ u1).setCell ⟨b,2,none⟩ u2).setCell ⟨b,3,none⟩ u3).setCell ⟨b,4,none⟩ u4).setCell ⟨b,5,none⟩ u5).setCell ⟨b,6,none⟩ u6).setCell ⟨b,7,none⟩ u7).setCell ⟨b,8,none⟩ u8
theorem yq.put{w:World}{b:Nat}{v0 v1 v2 v3 v4 v5 v6 v7 v8:Value}(h:yq w b v0 v1 v2 v3 v4 v5 v6 v7 v8)(u0 u1 u2 u3 u4 u5 u6 u7 u8:Value):yq(put9 w b u0 u1 u2 u3 u4 u5 u6 u7 u8) b u0 u1 u2 u3 u4 u5 u6 u7 u8:=by
 obtain⟨h0,h1,h2,h3,h4,h5,h6,h7,h8⟩:=h;exact⟨(((((((((h0.set _).zRK _(Or.inr(by omega))).zRK _(Or.inr(by omega))).zRK _(Or.inr(by omega))).zRK _(Or.inr(by omega))).zRK _(Or.inr(by omega))).zRK _(Or.inr(by omega))).zRK _(Or.inr(by omega))).zRK _(Or.inr(by omega))),
  (((((((((h1.zRK _(Or.inr(by omega))).set _).zRK _(Or.inr(by omega))).zRK _(Or.inr(by omega))).zRK _(Or.inr(by omega))).zRK _(Or.inr(by omega))).zRK _(Or.inr(by omega))).zRK _(Or.inr(by omega))).zRK _(Or.inr(by omega))),
  (((((((((h2.zRK _(Or.inr(by omega))).zRK _(Or.inr(by omega))).set _).zRK _(Or.inr(by omega))).zRK _(Or.inr(by omega))).zRK _(Or.inr(by omega))).zRK _(Or.inr(by omega))).zRK _(Or.inr(by omega))).zRK _(Or.inr(by omega))),
  (((((((((h3.zRK _(Or.inr(by omega))).zRK _(Or.inr(by omega))).zRK _(Or.inr(by omega))).set _).zRK _(Or.inr(by omega))).zRK _(Or.inr(by omega))).zRK _(Or.inr(by omega))).zRK _(Or.inr(by omega))).zRK _(Or.inr(by omega))),
  (((((((((h4.zRK _(Or.inr(by omega))).zRK _(Or.inr(by omega))).zRK _(Or.inr(by omega))).zRK _(Or.inr(by omega))).set _).zRK _(Or.inr(by omega))).zRK _(Or.inr(by omega))).zRK _(Or.inr(by omega))).zRK _(Or.inr(by omega))),
  (((((((((h5.zRK _(Or.inr(by omega))).zRK _(Or.inr(by omega))).zRK _(Or.inr(by omega))).zRK _(Or.inr(by omega))).zRK _(Or.inr(by omega))).set _).zRK _(Or.inr(by omega))).zRK _(Or.inr(by omega))).zRK _(Or.inr(by omega))),
  (((((((((h6.zRK _(Or.inr(by omega))).zRK _(Or.inr(by omega))).zRK _(Or.inr(by omega))).zRK _(Or.inr(by omega))).zRK _(Or.inr(by omega))).zRK _(Or.inr(by omega))).set _).zRK _(Or.inr(by omega))).zRK _(Or.inr(by omega))),
  (((((((((h7.zRK _(Or.inr(by omega))).zRK _(Or.inr(by omega))).zRK _(Or.inr(by omega))).zRK _(Or.inr(by omega))).zRK _(Or.inr(by omega))).zRK _(Or.inr(by omega))).zRK _(Or.inr(by omega))).set _).zRK _(Or.inr(by omega))),
  (((((((((h8.zRK _(Or.inr(by omega))).zRK _(Or.inr(by omega))).zRK _(Or.inr(by omega))).zRK _(Or.inr(by omega))).zRK _(Or.inr(by omega))).zRK _(Or.inr(by omega))).zRK _(Or.inr(by omega))).zRK _(Or.inr(by omega))).set _)⟩
theorem zF.put9(w:World)(b:Nat)(u0 u1 u2 u3 u4 u5 u6 u7 u8:Value):zF(fun k=>k=b) w(put9 w b u0 u1 u2 u3 u4 u5 u6 u7 u8):=((((((((zF.put w b 0 u0).trans(zF.put _ b 1 u1)).trans(zF.put _ b 2 u2)).trans(zF.put _ b 3 u3)).trans(zF.put _ b 4 u4)).trans(zF.put _ b 5 u5)).trans(zF.put _ b 6 u6)).trans(zF.put _ b 7 u7)).trans(zF.put _ b 8 u8)
structure zBz where
 world:zH
 id:Int
 zRb:Int
 code:Int
abbrev zIU(v0 v1 v2 v3:Value)(o:zBz):Value:=.agg #[v0,v1,.int .i64 o.world.time,.int .i64 o.world.next,v2,v3,.int .i64 o.id,.int .i64 o.zRb,.int .i64 o.code]
def zBp(o:zBz)(w:World)(e:Ending)(w':World):Prop:=∃v0 v1 v2 v3,e = .returned(zIU v0 v1 v2 v3 o)/\qO w' w.heap.size w'.heap.size v0 v1 v2 v3 o.world/\Below w.heap.size w w'
theorem yq.six{w:World}{b:Nat}{v0 v1 v2 v3 v4 v5 v6 v7 v8:Value}(h:yq w b v0 v1 v2 v3 v4 v5 v6 v7 v8)(u0 u1 u2 u3 u4 u5:Value):yq(put6 w b u0 u1 u2 u3 u4 u5) b u0 u1 u2 u3 u4 u5 v6 v7 v8:=by
 obtain⟨h0,h1,h2,h3,h4,h5,h6,h7,h8⟩:=h;exact⟨((((((h0.set _).zRK _(Or.inr(by omega))).zRK _(Or.inr(by omega))).zRK _(Or.inr(by omega))).zRK _(Or.inr(by omega))).zRK _(Or.inr(by omega))),((((((h1.zRK _(Or.inr(by omega))).set _).zRK _(Or.inr(by omega))).zRK _(Or.inr(by omega))).zRK _(Or.inr(by omega))).zRK _(Or.inr(by omega))),((((((h2.zRK _(Or.inr(by omega))).zRK _(Or.inr(by omega))).set _).zRK _(Or.inr(by omega))).zRK _(Or.inr(by omega))).zRK _(Or.inr(by omega))),((((((h3.zRK _(Or.inr(by omega))).zRK _(Or.inr(by omega))).zRK _(Or.inr(by omega))).set _).zRK _(Or.inr(by omega))).zRK _(Or.inr(by omega))),((((((h4.zRK _(Or.inr(by omega))).zRK _(Or.inr(by omega))).zRK _(Or.inr(by omega))).zRK _(Or.inr(by omega))).set _).zRK _(Or.inr(by omega))),((((((h5.zRK _(Or.inr(by omega))).zRK _(Or.inr(by omega))).zRK _(Or.inr(by omega))).zRK _(Or.inr(by omega))).zRK _(Or.inr(by omega))).set _),((((((h6.zRK _(Or.inr(by omega))).zRK _(Or.inr(by omega))).zRK _(Or.inr(by omega))).zRK _(Or.inr(by omega))).zRK _(Or.inr(by omega))).zRK _(Or.inr(by omega))),((((((h7.zRK _(Or.inr(by omega))).zRK _(Or.inr(by omega))).zRK _(Or.inr(by omega))).zRK _(Or.inr(by omega))).zRK _(Or.inr(by omega))).zRK _(Or.inr(by omega))),((((((h8.zRK _(Or.inr(by omega))).zRK _(Or.inr(by omega))).zRK _(Or.inr(by omega))).zRK _(Or.inr(by omega))).zRK _(Or.inr(by omega))).zRK _(Or.inr(by omega)))⟩
theorem zX.under{w w':World}{B b o:Nat}{v:Value}(h:zX w b o v)(t:Below B w w')(hb:b<B):zX w' b o v:=⟨(t.cell(p:=⟨b,o,none⟩) hb).trans h.1,(t.frozen(p:=⟨b,o,none⟩) hb).trans h.2⟩
def zBr(c:Int):zBz:=⟨noW,0,0,c⟩
def zMf(r:Option Nat)(o:zBz):zBz:=match r with
 |some i=>zBr(zBO i)
 |none=>o
end Go.Proofs.YtmgeglgboadfiaaGreatDoor

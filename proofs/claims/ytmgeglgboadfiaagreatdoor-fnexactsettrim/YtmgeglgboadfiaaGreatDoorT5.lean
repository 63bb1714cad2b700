/- What a tree is, as plain facts on a pool: the pointers in it, in their order; when it is right, as spec says it and as impl says it, and that both are one. -/
import Derived.Test.YtmgeglgboadfiaaGreatDoorT4
import Derived.Deep.RegionWith
set_option linter.unusedVariables false
set_option maxRecDepth 20000
set_option maxHeartbeats 4000000
namespace Go.Proofs.YtmgeglgboadfiaaGreatDoor
open Go.RowKit
def Nil(xs xb:Int):Prop:=xs=0/\xb=0
instance(xs xb:Int):Decidable(Nil xs xb):=inferInstanceAs(Decidable(xs=0/\xb=0))
def one(xs xb:Int):List(Int×Int):=if Nil xs xb then [] else [(xs,xb)]
def kidsUp(ks kb:Nat->Int):Nat->List(Int×Int)
 |0=>[]
 |k+1=>kidsUp ks kb k ++ one(ks k)(kb k)
def zb(s:zL)(i:Nat):Int:=zk s(i*2)
def zu(s:zL)(i:Nat):Int:=zk s(i*2+1)
def zNA(s:zL):List(Int×Int):=kidsUp(zb s)(zu s) 8
def zEu(p:zJ)(xs xb:Int):List(Int×Int):=if Nil xs xb then [] else(xs,xb) :: zNA(p.s xs.toNat)
def zAv(p:zJ)(s:zL):Nat->List(Int×Int)
 |0=>[]
 |k+1=>zAv p s k ++ zEu p(zb s k)(zu s k)
def zT(p:zJ)(rs rb:Int):List(Int×Int):=if Nil rs rb then [] else(rs,rb) :: zAv p(p.s rs.toNat) 8
theorem zCz{s:zL}(h:s.kn=8){i:Nat}(hi:i<8):zb s i=s.ks i:=by
 unfold zb zk;rw [show i*2 / 2=i by omega,if_pos(by omega),if_pos(by omega)]
theorem zEi{s:zL}(h:s.kn=8){i:Nat}(hi:i<8):zu s i=s.kb i:=by
 unfold zu zk;rw [show(i*2+1) / 2=i by omega,if_pos(by omega),if_neg(by omega)]
theorem zNO{s:zL}(h:s.kn=0)(i:Nat):zb s i=0:=by
 unfold zb zk;rw [if_neg(by omega)]
theorem zNg{s:zL}(h:s.kn=0)(i:Nat):zu s i=0:=by
 unfold zu zk;rw [if_neg(by omega)]
theorem zKH{xs xb:Int}{x:Int×Int}:x∈one xs xb↔x=(xs,xb)/\¬Nil xs xb:=by
 unfold one;by_cases h:Nil xs xb
 ·rw [if_pos h];simp [h]
 ·rw [if_neg h];simp [h]
theorem yj{ks kb:Nat->Int}{x:Int×Int}:∀{k:Nat},x∈kidsUp ks kb k↔∃i,i<k/\x=(ks i,kb i)/\¬Nil(ks i)(kb i)
 |0=>by simp [kidsUp]
 |k+1=>by
  rw [kidsUp,List.mem_append,yj,zKH];constructor
  ·rintro(⟨i,hi,h⟩ | h)
   ·exact⟨i,by omega,h⟩
   ·exact⟨k,by omega,h⟩
  ·rintro⟨i,hi,h⟩;by_cases e:i=k
   ·subst e;exact Or.inr h
   ·exact Or.inl ⟨i,by omega,h⟩
theorem zCf{p:zJ}{xs xb:Int}{x:Int×Int}:x∈zEu p xs xb↔¬Nil xs xb/\(x=(xs,xb)\/x∈zNA(p.s xs.toNat)):=by
 unfold zEu;by_cases h:Nil xs xb
 ·rw [if_pos h];simp [h]
 ·rw [if_neg h];simp [h]
theorem zCP{p:zJ}{s:zL}{x:Int×Int}:∀{k:Nat},x∈zAv p s k↔∃i,i<k/\x∈zEu p(zb s i)(zu s i)
 |0=>by simp [zAv]
 |k+1=>by
  rw [zAv,List.mem_append,zCP];constructor
  ·rintro(⟨i,hi,h⟩ | h)
   ·exact⟨i,by omega,h⟩
   ·exact⟨k,by omega,h⟩
  ·rintro⟨i,hi,h⟩;by_cases e:i=k
   ·subst e;exact Or.inr h
   ·exact Or.inl ⟨i,by omega,h⟩
theorem zAh(ks kb:Nat->Int):∀k,(kidsUp ks kb k).length<=k
 |0=>Nat.le_refl _
 |k+1=>by
  have:=zAh ks kb k;unfold kidsUp one;split<;>simp<;>omega
theorem zMC(p:zJ)(xs xb:Int):(zEu p xs xb).length<=9:=by
 unfold zEu;have:=zAh(zb(p.s xs.toNat))(zu(p.s xs.toNat)) 8;split
 ·simp
 ·show(zNA _).length+1<=9;unfold zNA;omega
theorem zEc(p:zJ)(s:zL):∀k,(zAv p s k).length<=9*k
 |0=>Nat.le_refl _
 |k+1=>by
  have:=zEc p s k;have:=zMC p(zb s k)(zu s k);unfold zAv;rw [List.length_append];omega
theorem qM(p:zJ)(rs rb:Int):(zT p rs rb).length<=73:=by
 unfold zT;have:=zEc p(p.s rs.toNat) 8;split
 ·simp
 ·show(zAv _ _ _).length+1<=73;omega
def zAy(p:zJ)(xs xb:Int):Prop:=zr p xs xb/\0<(p.s xs.toNat).kn/\¬Has p.hn p.h xs
def zD6(p:zJ)(xs xb:Int):Prop:=zr p xs xb/\(p.s xs.toNat).kn=0/\¬Has p.hn p.h xs
def zPe(p:zJ)(s:zL):Prop:=(∀i,i<8->Nil(zb s i)(zu s i)\/zD6 p(zb s i)(zu s i))/\∃i,i<8/\¬Nil(zb s i)(zu s i)
def zQW(p:zJ)(s:zL)(i:Nat):Prop:=Nil(zb s i)(zu s i)\/(zAy p(zb s i)(zu s i)/\zPe p(p.s(zb s i).toNat))
def yK(l:List(Int×Int)):List Int:=l.map Prod.fst
def zQY(p:zJ)(s:zL):Prop:=(∀i,i<8->zQW p s i)/\∃i,i<8/\¬Nil(zb s i)(zu s i)
def qF(p:zJ)(rs rb:Int):Prop:=Nil rs rb\/(zAy p rs rb/\zQY p(p.s rs.toNat)/\(yK(zT p rs rb)).Nodup)
def ym(p:zJ)(rs rb:Int):Prop:=zv p/\qF p rs rb
def zKP(p:zJ)(s:zL):Prop:=(∃i,i<8/\¬Nil(zb s i)(zu s i))/\∀i,i<8->Nil(zb s i)(zu s i)\/zHD(p.s(zb s i).toNat)
def zKb(p:zJ)(s:zL):Prop:=(∃i,i<8/\¬Nil(zb s i)(zu s i))/\∀i,i<8->Nil(zb s i)(zu s i)\/zKP p(p.s(zb s i).toNat)
def zPp(p:zJ)(l:List(Int×Int)):Prop:=l.Nodup/\∀x,x∈l->¬Has p.hn p.h x.1
def zJ4(p:zJ)(rs rb:Int):Prop:=Nil rs rb\/(zr p rs rb/\zKb p(p.s rs.toNat)/\zPp p(zT p rs rb))
theorem qV{p:zJ}{xs xb:Int}(hR:zv p)(h:zr p xs xb):zAN p(p.s xs.toNat):=by
 obtain⟨h1,h2,h3,h4⟩:=h;rcases hR.2.1 xs.toNat(by omega)with hf | hf
 ·have:=hf.1;omega
 ·exact hf
theorem zEl{p:zJ}{s:zL}(h:zAN p s):s.kn=0\/s.kn=8:=by
 rcases h.2 with h | h
 ·exact Or.inl h.1
 ·exact Or.inr h.1
theorem zDD{p:zJ}{xs xb:Int}(hR:zv p)(h:zr p xs xb):(p.s xs.toNat).kn=0\/(p.s xs.toNat).kn=8:=zEl(qV hR h)
theorem zAi{p:zJ}{s:zL}(h:zAN p s){i:Nat}(hi:i<8)(hn:¬Nil(zb s i)(zu s i)):zr p(zb s i)(zu s i)/\zu s i<=s.zRU:=by
 rcases h.2 with h2 | h2
 ·exact absurd ⟨zNO h2.1 i,zNg h2.1 i⟩ hn
 ·rw [zCz h2.1 hi,zEi h2.1 hi] at hn ⊢;rcases h2.2.2 i(by omega)with h3 | h3
  ·exact absurd h3 hn
  ·exact h3
theorem zPA{p:zJ}{xs xb:Int}(hR:zv p)(h:zr p xs xb):zHD(p.s xs.toNat)↔(p.s xs.toNat).kn=0:=by
 have hf:=qV hR h;constructor
 ·exact fun h=>h.2.1
 ·intro h0;rcases hf.2 with h2 | h2
  ·exact⟨hf.1,h2⟩
  ·omega
theorem zL2{s:zL}(h:s.kn=0\/s.kn=8)(he:∃i,i<8/\¬Nil(zb s i)(zu s i)):s.kn=8:=by
 rcases h with h | h
 ·obtain⟨i,_,hi⟩:=he;exact absurd ⟨zNO h i,zNg h i⟩ hi
 ·exact h
theorem zC2{p:zJ}{rs rb:Int}(hR:zv p)(h:zr p rs rb):∀x,x∈zT p rs rb->zr p x.1 x.2/\x.2<=rb:=by
 intro x hx;unfold zT at hx;split at hx
 ·simp at hx
 ·rw [List.mem_cons,zCP] at hx;rcases hx with rfl | ⟨i,hi,hx⟩
  ·exact⟨h,by simp⟩
  ·have hf:=qV hR h;have cA:(p.s rs.toNat).zRU=rb:=h.2.2.2;obtain⟨hn,hx⟩:=zCf.1 hx;have hk:=zAi hf hi hn;rcases hx with rfl | hx
   ·exact⟨hk.1,by rw [<-cA];exact hk.2⟩
   ·obtain⟨j,hj,rfl,hn2⟩:=yj.1 hx;have bA:=qV hR hk.1;have aA:=zAi bA hj hn2;have e:(p.s(zb(p.s rs.toNat) i).toNat).zRU=zu(p.s rs.toNat) i:=hk.1.2.2.2;have:=hk.2;have:=aA.2;exact⟨aA.1,by show zu _ j<=rb;omega⟩
theorem zGJ{p:zJ}{l:List(Int×Int)}(h:∀x,x∈l->zr p x.1 x.2):(yK l).Nodup↔l.Nodup:=by
 unfold yK List.Nodup;rw [List.pairwise_map];constructor
 ·exact fun hp=>hp.imp(fun aA e=>aA(by rw [e]))
 ·intro hp;refine List.Pairwise.imp_of_mem ?_ hp;intro a b ha hb aA e;apply aA;have h1:=(h a ha).2.2.2;have h2:=(h b hb).2.2.2;rw [e] at h1;obtain⟨a1,a2⟩:=a;obtain⟨b1,b2⟩:=b;simp only [Prod.mk.injEq];exact⟨e,by simp only at h1 h2 e;rw [<-h1,<-h2]⟩
theorem zFv{p:zJ}{rs rb:Int}(hR:zv p):zJ4 p rs rb↔qF p rs rb:=by
 by_cases hz:Nil rs rb
 ·exact⟨fun _=>Or.inl hz,fun _=>Or.inl hz⟩
 have bA:(rs,rb)∈zT p rs rb:=by unfold zT;rw [if_neg hz];simp
 have dA:∀i,i<8->¬Nil(zb(p.s rs.toNat) i)(zu(p.s rs.toNat) i)->(zb(p.s rs.toNat) i,zu(p.s rs.toNat) i)∈zT p rs rb:=fun i hi hn=>by
  unfold zT;rw [if_neg hz,List.mem_cons,zCP];exact Or.inr ⟨i,hi,zCf.2 ⟨hn,Or.inl rfl⟩⟩
 have cA:∀i,i<8->¬Nil(zb(p.s rs.toNat) i)(zu(p.s rs.toNat) i)->∀x,x∈zNA(p.s(zb(p.s rs.toNat) i).toNat)->x∈zT p rs rb:=fun i hi hn x hx=>by
  unfold zT;rw [if_neg hz,List.mem_cons,zCP];exact Or.inr ⟨i,hi,zCf.2 ⟨hn,Or.inr hx⟩⟩
 constructor
 ·rintro(h | ⟨hP,⟨he,hS⟩,hA⟩)
  ·exact Or.inl h
  ·right;have hf:=qV hR hP;have jA:=zL2(zEl hf) he;refine⟨⟨hP,by omega,hA.2 _ bA⟩,⟨fun i hi=>?_,he⟩,(zGJ(fun x hx=>(zC2 hR hP x hx).1)).2 hA.1⟩;by_cases hn:Nil(zb(p.s rs.toNat) i)(zu(p.s rs.toNat) i)
   ·exact Or.inl hn
   ·right;have hk:=zAi hf hi hn;have fA:=qV hR hk.1;obtain⟨eA,hS2⟩:zKP p(p.s(zb(p.s rs.toNat) i).toNat):=by
     rcases hS i hi with h | h
     ·exact absurd h hn
     ·exact h
    have gA:=zL2(zEl fA) eA;refine⟨⟨hk.1,by omega,hA.2 _(dA i hi hn)⟩,fun j hj=>?_,eA⟩;by_cases aA:Nil(zb(p.s(zb(p.s rs.toNat) i).toNat) j)(zu(p.s(zb(p.s rs.toNat) i).toNat) j)
    ·exact Or.inl aA
    ·right;have iA:=zAi fA hj aA;refine⟨iA.1,?_,hA.2 _(cA i hi hn _(yj.2 ⟨j,hj,rfl,aA⟩))⟩;rcases hS2 j hj with h | h
     ·exact absurd h aA
     ·exact h.2.1
 ·rintro(h | ⟨hN,⟨hM,he⟩,hD⟩)
  ·exact Or.inl h
  ·right;have hP:=hN.1;have hf:=qV hR hP;have held:∀x,x∈zT p rs rb->¬Has p.hn p.h x.1:=fun x hx=>by
    unfold zT at hx;rw [if_neg hz,List.mem_cons,zCP] at hx;rcases hx with rfl | ⟨i,hi,hx⟩
    ·exact hN.2.2
    ·obtain⟨hn,hx⟩:=zCf.1 hx;rcases hM i hi with h | ⟨h1,h2⟩
     ·exact absurd h hn
     ·rcases hx with rfl | hx
      ·exact h1.2.2
      ·obtain⟨j,hj,rfl,aA⟩:=yj.1 hx;rcases h2.1 j hj with h | h
       ·exact absurd h aA
       ·exact h.2.2
   refine⟨hP,⟨he,fun i hi=>?_⟩,(zGJ(fun x hx=>(zC2 hR hP x hx).1)).1 hD,held⟩;rcases hM i hi with h | ⟨h1,h2,h3⟩
   ·exact Or.inl h
   ·refine Or.inr ⟨h3,fun j hj=>?_⟩;rcases h2 j hj with h | h
    ·exact Or.inl h
    ·exact Or.inr((zPA hR h.1).2 h.2.1)
theorem zC8(v0 v1:Value)(lo hi:Nat)(p:zJ)(xs xb:Int)(w:World)(h1:zy w lo hi v0 v1 p) :
  Calls Tryz.prog 184 #[.agg #[v0,v1],.agg #[.int .i64 xs,.int .i64 xb]] w fun e w'=>zG(zr p xs xb) e/\Below w.heap.size w w':=by
 obtain⟨⟨m1,a,c,rfl,mc,g1⟩,⟨_,a',c',rfl,_⟩⟩:=h1;unfold maxLen at m1;have G1:Hid(0<p.n->∃b off,a=some ⟨b,off,none⟩/\lo<=b/\b<hi/\∀i,i<p.n->∃v0 v1 v2,w.cell? ⟨b,off+i*3,none⟩=some v0/\w.cell? ⟨b,off+i*3+1,none⟩=some v1/\w.cell? ⟨b,off+i*3+2,none⟩=some v2/\qI w lo hi v0 v1 v2(p.s i)):=g1;clear g1;have bA:=((Below.refl w.heap.size w).alloc(Nat.le_refl _)(.cells #[.slice a p.n c,.slice a' p.hn c'] 33)).alloc(by simp)(.cells #[.int .i64 xs,.int .i64 xb] 61);have aA:Hid(Below w.heap.size w((w.alloc(.cells #[.slice a p.n c,.slice a' p.hn c'] 33)).alloc(.cells #[.int .i64 xs,.int .i64 xb] 61))):=bA;clear bA;by_cases h1:1<=xb
 ·by_cases h2:0<=xs
  ·by_cases h3:xs<p.n
   ·obtain⟨x,rfl⟩:=Int.eq_ofNat_of_zero_le h2;have cA:x<p.n:=(by omega);obtain⟨b,off,rfl,_,_,k1⟩:=G1.out(by omega);obtain⟨x0,x1,x2,c0,c1,c2,hs⟩:=k1 x cA;obtain⟨rfl,_⟩:=hs;have dA:=zD c0;clear k1 G1 c1 c2;by_cases h4:(p.s x).zRU=xb
    ·have H:Hid(zr p x xb):=⟨h1,h2,h3,by rw [Int.toNat_natCast];exact h4⟩;have e4:((p.s x).zRU == xb)=true:=(by simp [h4]);clear h4;go_enter Tryz.func184,Tryz.ntmps184;go_wp2_with fail
     go_quiet(fail)
     go_wp2;go_ret;exact⟨zG.yes H.out,zg aA.out _⟩
    ·have H:Hid(¬zr p x xb):=fun h=>h4(by have:=h.2.2.2;rw [Int.toNat_natCast] at this;exact this)
     have e4:((p.s x).zRU == xb)=false:=(by simp [h4]);clear h4;go_enter Tryz.func184,Tryz.ntmps184;go_wp2_with fail
     go_quiet(fail)
     go_wp2;go_ret;exact⟨zG.no H.out,zg aA.out _⟩
   ·have H:Hid(¬zr p xs xb):=fun h=>h3 h.2.2.1
    have e3:decide(xs<(p.n:Int))=false:=(by simpa using h3);go_enter Tryz.func184,Tryz.ntmps184;go_wp2_with fail
    go_quiet(fail)
    go_wp2;go_ret;exact⟨zG.no H.out,zg aA.out _⟩
  ·have H:Hid(¬zr p xs xb):=fun h=>h2 h.2.1
   have e3:decide(0<=xs)=false:=(by simpa using h2);go_enter Tryz.func184,Tryz.ntmps184;go_wp2_with fail
   go_quiet(fail)
   go_wp2;go_ret;exact⟨zG.no H.out,zg aA.out _⟩
 ·have H:Hid(¬zr p xs xb):=fun h=>h1 h.1
  have e3:decide(1<=xb)=false:=(by simpa using h1);go_enter Tryz.func184,Tryz.ntmps184;go_wp2_with fail
  go_quiet(fail)
  go_wp2;go_ret;exact⟨zG.no H.out,zg aA.out _⟩
theorem zc.two(w:World)(v0 v1:Value)(t:TypeId)(o:Obj):zc((w.alloc(.cells #[v0,v1] t)).alloc o) w.heap.size v0 v1:=(zc.zRL w v0 v1 t).zRJ(zC _ _)
theorem yT.second(w:World)(v0 v1 v2:Value)(t:TypeId)(o:Obj):yT((w.alloc o).alloc(.cells #[v0,v1,v2] t))(w.heap.size+1) v0 v1 v2:=by
 have:=yT.zRL(w.alloc o) v0 v1 v2 t;rw [World.size_alloc] at this;exact this
theorem zG5(v0 v1 s0 s1 s2:Value)(lo hi lo' hi':Nat)(p:zJ)(s:zL)(w:World)(h1:zy w lo hi v0 v1 p)(h2:qI w lo' hi' s0 s1 s2 s) :
  Calls Tryz.prog 136 #[.agg #[v0,v1],.agg #[s0,s1,s2]] w fun e w'=>zG(zAN p s) e/\Below w.heap.size w w':=by
 have Hp:Hid(zy w lo hi v0 v1 p):=h1;obtain⟨⟨m1,a,c,rfl,_⟩,⟨_,a',c',rfl,_⟩⟩:=h1;obtain⟨rfl,hk,rfl,m3⟩:=h2;obtain⟨m2,ka,kc,rfl,mkc,g1⟩:=hk;have G1:Hid(0<s.kn->∃b off,ka=some ⟨b,off,none⟩/\lo'<=b/\b<hi'/\∀i,i<s.kn->w.cell? ⟨b,off+i*2,none⟩=some(.int .i64(s.ks i))/\w.cell? ⟨b,off+i*2+1,none⟩=some(.int .i64(s.kb i))):=g1;clear g1;unfold maxLen at m1 m2 m3;have rA:=((Below.refl w.heap.size w).alloc(Nat.le_refl _)(.cells #[.slice a p.n c,.slice a' p.hn c'] 33)).alloc(by simp)(.cells #[.int .i64 s.zRU,.slice ka s.kn kc,.string s.data] 127);have eA:Hid(Below w.heap.size w((w.alloc(.cells #[.slice a p.n c,.slice a' p.hn c'] 33)).alloc(.cells #[.int .i64 s.zRU,.slice ka s.kn kc,.string s.data] 127))):=rA;clear rA;by_cases hB:qw s.zRU
 ·by_cases cA:s.kn=0
  ·have e2:((s.kn:Int) == 0)=true:=(by simp [cA]);by_cases hd:s.data.size=16
   ·have H:Hid(zAN p s):=⟨hB,Or.inl ⟨cA,hd⟩⟩;have HB:Hid(qw s.zRU):=hB;have e3:((s.data.size:Int) == 16)=true:=(by simp [hd]);clear cA hd hB;go_enter Tryz.func136,Tryz.ntmps136;go_wp2_with(go_at_call 145;refine(yX _ _).mono ?_;rintro e w' ⟨⟨t,rfl,ht⟩,rfl⟩;obtain rfl:t=true:=ht.2 HB.out;clear ht);go_ret;exact⟨zG.yes H.out,eA.out⟩
   ·have H:Hid(¬zAN p s):=fun h=>by
     rcases h.2 with h | h
     ·exact hd h.2
     ·omega
    have HB:Hid(qw s.zRU):=hB;have e3:((s.data.size:Int) == 16)=false:=(by simp;omega);clear cA hd hB;go_enter Tryz.func136,Tryz.ntmps136;go_wp2_with(go_at_call 145;refine(yX _ _).mono ?_;rintro e w' ⟨⟨t,rfl,ht⟩,rfl⟩;obtain rfl:t=true:=ht.2 HB.out;clear ht);go_ret;exact⟨zG.no H.out,eA.out⟩
  ·have e2:((s.kn:Int) == 0)=false:=(by simp;omega);by_cases gA:s.kn=8
   ·by_cases hd:s.data.toList.isEmpty=true
    ·have HB:Hid(qw s.zRU):=hB;have e3:((s.kn:Int) != 8)=false:=(by simp;omega);have H8:Hid(s.kn=8):=gA;have aB:(s.kn:Int)<=8:=(by omega);clear gA hB cA;have HD:Hid(s.data.toList.isEmpty=true):=hd;go_enter Tryz.func136,Tryz.ntmps136;go_wp2_with(go_at_call 145;refine(yX _ _).mono ?_;rintro e w' ⟨⟨t,rfl,ht⟩,rfl⟩;obtain rfl:t=true:=ht.2 HB.out;clear ht)
     go_loopw [5](fun i wr=>∃k:Nat,k<=s.kn/\i = .int .i64 k/\(∀j,j<k->zH4 p s.zRU(s.ks j)(s.kb j))/\zc wr w.heap.size(.slice a p.n c)(.slice a' p.hn c')/\yT wr(w.heap.size+1)(.int .i64 s.zRU)(.slice ka s.kn kc)(.string s.data)/\Below w.heap.size w wr)(fun i _=>s.kn - (intOf i).toNat)
     case atStart=>exact⟨0,Nat.zero_le _,rfl,fun j hj=>absurd hj(Nat.not_lt_zero _),zc.two _ _ _ _ _,yT.second _ _ _ _ _ _,eA.out⟩
     case round=>
      obtain⟨k,hk,rfl,hall,hx2,hx3,hb⟩:=hrel;have dA:Hid(∀j,j<k->zH4 p s.zRU(s.ks j)(s.kb j)):=hall;have iA:Hid(zc wr w.heap.size(.slice a p.n c)(.slice a' p.hn c')):=hx2;have mA:Hid(yT wr(w.heap.size+1)(.int .i64 s.zRU)(.slice ka s.kn kc)(.string s.data)):=hx3;clear hall hx2 hx3;have gB:w.heap.size<wr.heap.size:=iA.out.1.lt;have eB:w.heap.size+1<wr.heap.size:=mA.out.1.lt;obtain⟨⟨y0,y1⟩,⟨y2,y3⟩⟩:=iA.out;obtain⟨⟨z0,z1⟩,⟨z2,z3⟩,⟨z4,z5⟩⟩:=mA.out;by_cases bA:k<s.kn
      ·have dB:(k:Int)<(s.kn:Int):=(by omega);obtain⟨b,off,rfl,_,_,k1⟩:=G1.out(by omega);have bB:=(hb.cell(zD(k1 k bA).1)).trans(k1 k bA).1;have cB:=(hb.cell(zD(k1 k bA).2)).trans(k1 k bA).2;clear k1 G1;go_wp2_with fail;have kA:=zC wr(.cells #[.int .i64(s.ks k),.int .i64(s.kb k)] 61);refine(ye _ _ _).mono ?_;rintro e w1 ⟨⟨t,rfl,ht⟩,hb1⟩;have jA:Hid(zc w1 w.heap.size(.slice a p.n c)(.slice a' p.hn c')):=(iA.out.zRJ kA).zRJ hb1;have nA:Hid(yT w1(w.heap.size+1)(.int .i64 s.zRU)(.slice(some ⟨b,off,none⟩) s.kn kc)(.string s.data)):=(mA.out.zRJ kA).zRJ hb1;have oA:Hid(zc w1 wr.heap.size(.int .i64(s.ks k))(.int .i64(s.kb k))):=(zc.zRL wr _ _ _).zRJ hb1;have lA:Below w.heap.size w w1:=zA(zA hb kA) hb1;clear kA hb1 y0 y1 y2 y3 z0 z1 z2 z3 z4 z5 bB cB iA mA;by_cases aA:zCC(s.ks k)(s.kb k) 0 0
       ·obtain rfl:t=true:=ht.2 aA;have HK:Hid(zH4 p s.zRU(s.ks k)(s.kb k)):=Or.inl aA;clear ht aA;go_wp2;go_roundw
        case rel=>exact⟨k+1,by omega,by go_num,zo bA dA.out HK.out,jA.out,nA.out,lA⟩
        case measure=>simp [intOf];omega
       ·obtain rfl:t=false:=Bool.eq_false_iff.2(fun h=>aA(ht.1 h));have HN:Hid(¬zCC(s.ks k)(s.kb k) 0 0):=aA;clear ht aA;obtain⟨⟨y0,y1⟩,⟨y2,y3⟩⟩:=jA.out;obtain⟨⟨q0,q1⟩,⟨q2,q3⟩⟩:=oA.out;go_wp2_with fail;refine(zC8 _ _ lo hi p _ _ _(Hp.out.zRJ lA)).mono ?_;rintro e w2 ⟨⟨t,rfl,ht⟩,hb2⟩;have tA:Hid(zc w2 w.heap.size(.slice a p.n c)(.slice a' p.hn c')):=jA.out.zRJ hb2;have sA:Hid(yT w2(w.heap.size+1)(.int .i64 s.zRU)(.slice(some ⟨b,off,none⟩) s.kn kc)(.string s.data)):=nA.out.zRJ hb2;have vA:Hid(zc w2 wr.heap.size(.int .i64(s.ks k))(.int .i64(s.kb k))):=oA.out.zRJ hb2;have pA:Below w.heap.size w w2:=zA lA hb2;clear hb2 lA y0 y1 y2 y3 q0 q1 q2 q3 jA nA oA;by_cases fA:zr p(s.ks k)(s.kb k)
        ·obtain rfl:t=true:=ht.2 fA;have HP:Hid(zr p(s.ks k)(s.kb k)):=fA;clear ht fA;obtain⟨⟨q0,q1⟩,⟨q2,q3⟩⟩:=vA.out;obtain⟨⟨z0,z1⟩,⟨z2,z3⟩,⟨z4,z5⟩⟩:=sA.out;by_cases fB:s.zRU<s.kb k
         ·go_wp2;go_ret;refine⟨zG.no fun h=>?_,pA⟩;rcases h.2 with h | h
          ·omega
          ·rcases h.2.2 k bA with h | h
           ·exact HN.out h
           ·have:=h.2;omega
         ·have HK:Hid(zH4 p s.zRU(s.ks k)(s.kb k)):=Or.inr ⟨HP.out,by omega⟩;go_wp2;go_roundw
          case rel=>exact⟨k+1,by omega,by go_num,zo bA dA.out HK.out,tA.out,sA.out,pA⟩
          case measure=>simp [intOf];omega
        ·obtain rfl:t=false:=Bool.eq_false_iff.2(fun h=>fA(ht.1 h));have HP:Hid(¬zr p(s.ks k)(s.kb k)):=fA;clear ht fA;go_wp2;go_ret;refine⟨zG.no fun h=>?_,pA⟩;rcases h.2 with h | h
         ·omega
         ·rcases h.2.2 k bA with h | h
          ·exact HN.out h
          ·exact HP.out h.1
      ·go_wp2;go_ret;exact⟨zG.yes ⟨HB.out,Or.inr ⟨H8.out,HD.out,fun i hi=>dA.out i(by omega)⟩⟩,hb⟩
    ·have H:Hid(¬zAN p s):=fun h=>by
      rcases h.2 with h | h
      ·omega
      ·exact hd h.2.1
     have HB:Hid(qw s.zRU):=hB;have e3:((s.kn:Int) != 8)=false:=(by simp;omega);have e4:s.data.toList.isEmpty=false:=(by simpa using hd);clear gA hB cA hd;go_enter Tryz.func136,Tryz.ntmps136;go_wp2_with(go_at_call 145;refine(yX _ _).mono ?_;rintro e w' ⟨⟨t,rfl,ht⟩,rfl⟩;obtain rfl:t=true:=ht.2 HB.out;clear ht);go_ret;exact⟨zG.no H.out,eA.out⟩
   ·have H:Hid(¬zAN p s):=fun h=>by
     rcases h.2 with h | h
     ·omega
     ·exact gA h.1
    have HB:Hid(qw s.zRU):=hB;have e3:((s.kn:Int) != 8)=true:=(by simp;omega);clear gA hB cA;go_enter Tryz.func136,Tryz.ntmps136;go_wp2_with(go_at_call 145;refine(yX _ _).mono ?_;rintro e w' ⟨⟨t,rfl,ht⟩,rfl⟩;obtain rfl:t=true:=ht.2 HB.out;clear ht);go_ret;exact⟨zG.no H.out,eA.out⟩
 ·have HB:Hid(¬qw s.zRU):=hB;clear hB;go_enter Tryz.func136,Tryz.ntmps136;go_wp2_with(go_at_call 145;refine(yX _ _).mono ?_;rintro e w' ⟨⟨t,rfl,ht⟩,rfl⟩;obtain rfl:t=false:=Bool.eq_false_iff.2(fun h=>HB.out(ht.1 h));clear ht);go_ret;exact⟨zG.no fun h=>HB.out h.1,eA.out⟩
theorem zC0(v0 v1:Value)(lo hi:Nat)(p:zJ)(w:World)(h1:zy w lo hi v0 v1 p) :
  Calls Tryz.prog 68 #[.agg #[v0,v1]] w fun e w'=>zG(zv p) e/\Below w.heap.size w w':=by
 have Hp:Hid(zy w lo hi v0 v1 p):=h1;obtain⟨⟨m1,a,c,rfl,mc,g1⟩,⟨m2,a',c',rfl,mc',g2⟩⟩:=h1;unfold maxLen at m1 m2;clear g1 g2;have cB:Hid(Below w.heap.size w(w.alloc(.cells #[.slice a p.n c,.slice a' p.hn c'] 33))):=zC _ _;by_cases hn:(200:Int)<p.n
 ·have H:Hid(¬zv p):=fun h=>by have:=h.1;omega
  go_enter Tryz.func68,Tryz.ntmps68;go_wp2;go_ret;exact⟨zG.no H.out,cB.out⟩
 ·go_enter Tryz.func68,Tryz.ntmps68;go_wp2
  go_loopw [3](fun i wr=>∃k:Nat,k<=p.n/\i = .int .i64 k/\(∀j,j<k->qG(p.s j)\/zAN p(p.s j))/\zc wr w.heap.size(.slice a p.n c)(.slice a' p.hn c')/\Below w.heap.size w wr)(fun i _=>p.n - (intOf i).toNat)
  case atStart=>exact⟨0,Nat.zero_le _,rfl,fun j hj=>absurd hj(Nat.not_lt_zero _),zc.zRL _ _ _ _,cB.out⟩
  case round=>
   obtain⟨k,hk,rfl,hall,hx,hb⟩:=hrel;have cA:Hid(∀j,j<k->qG(p.s j)\/zAN p(p.s j)):=hall;have Hx:Hid(zc wr w.heap.size(.slice a p.n c)(.slice a' p.hn c')):=hx;clear hall hx;obtain⟨⟨y0,y1⟩,⟨y2,y3⟩⟩:=Hx.out;by_cases dA:k<p.n
   ·have aB:(k:Int)<(p.n:Int):=(by omega);obtain⟨b,off,ka,kc,rfl,hs⟩:=(Hp.out.1.zRJ hb).cells dA;have Hs:Hid(zAj wr b(off+k*3) lo hi ka kc(p.s k)):=hs;obtain⟨q0,q1,q2,_⟩:=hs;by_cases hf:qG(p.s k)
    ·have HF:Hid(qG(p.s k)):=hf;clear hf;go_wp2_with fail
     first
      |(go_region_with(first | (go_at_call 74;refine(zAC _ _ _ lo hi(p.s k) _ ?_).mono ?_;(exact Hs.out.slot.zRJ((Below.refl _ _).drew));rintro e w1 ⟨⟨t,rfl,hx⟩,hb1⟩;obtain rfl:t=true:=hx.2 HF.out;clear hx;have bA:=zK hb1;have rA:=(Hx.out.zRJ bA).1.1;have nA:=(Hx.out.zRJ bA).2.1;have oA:=(Hs.out.zRJ bA).c0;have pA:=(Hs.out.zRJ bA).c1;have sA:=(Hs.out.zRJ bA).c2)))
      |fail
     all_goals
      have eA:=zA hb bA;have HX:Hid(zc w1 w.heap.size(.slice(some ⟨b,off,none⟩) p.n c)(.slice a' p.hn c')):=Hx.out.zRJ bA;clear hb1 bA rA nA oA pA sA q0 q1 q2 y0 y1 y2 y3 Hs Hx;go_wp2;go_roundw
      case rel=>exact⟨k+1,by omega,by go_num,zo dA cA.out(Or.inl HF.out),HX.out,eA⟩
      case measure=>simp [intOf];omega
    ·have HF:Hid(¬qG(p.s k)):=hf;clear hf;by_cases tA:zAN p(p.s k)
     ·have HT:Hid(zAN p(p.s k)):=tA;clear tA;go_wp2_with fail;go_region_held3(fun w'=>w'.cell? ⟨w.heap.size,0,none⟩=some(.slice(some ⟨b,off,none⟩) p.n c)/\w'.cell? ⟨w.heap.size,1,none⟩=some(.slice a' p.hn c')/\w'.cell? ⟨b,off+k*3,none⟩=some(.int .i64(p.s k).zRU)/\w'.cell? ⟨b,off+k*3+1,none⟩=some(.slice ka(p.s k).kn kc)/\w'.cell? ⟨b,off+k*3+2,none⟩=some(.string(p.s k).data))(go_keep)
       (first
        |(go_at_call 74;refine(zAC _ _ _ lo hi(p.s k) _ ?_).mono ?_;(exact Hs.out.slot.zRJ((Below.refl _ _).drew));rintro e w1 ⟨⟨t,rfl,hx⟩,hb1⟩;obtain rfl:t=false:=zQ hx HF.out;clear hx;have bA:=zK hb1;have rA:=(Hx.out.zRJ bA).1.1;have nA:=(Hx.out.zRJ bA).2.1;have oA:=(Hs.out.zRJ bA).c0;have pA:=(Hs.out.zRJ bA).c1;have sA:=(Hs.out.zRJ bA).c2)
        |(go_at_call 136;refine(zG5 _ _ _ _ _ lo hi lo hi p(p.s k) _ ?_ ?_).mono ?_;(exact Hp.out.zRJ(zA hb bA));(exact Hs.out.slot.zRJ bA);rintro e w2 ⟨⟨t2,rfl,hx2⟩,hb2⟩;obtain rfl:t2=true:=hx2.2 HT.out;clear hx2;have aA:=zA bA hb2;have fA:=(Hx.out.zRJ aA).1.1;have iA:=(Hx.out.zRJ aA).2.1;have kA:=(Hs.out.zRJ aA).c0;have gA:=(Hs.out.zRJ aA).c1;have jA:=(Hs.out.zRJ aA).c2))
      have eA:=zA hb aA;have HX:Hid(zc w2 w.heap.size(.slice(some ⟨b,off,none⟩) p.n c)(.slice a' p.hn c')):=Hx.out.zRJ aA;clear hb1 bA rA nA oA pA sA q0 q1 q2 y0 y1 y2 y3 Hs Hx fA iA kA gA jA hb2 aA;go_wp2;go_roundw
      case rel=>exact⟨k+1,by omega,by go_num,zo dA cA.out(Or.inr HT.out),HX.out,eA⟩
      case measure=>simp [intOf];omega
     ·have HT:Hid(¬zAN p(p.s k)):=tA;clear tA;go_wp2_with fail;go_region_held3(fun w'=>w'.cell? ⟨w.heap.size,0,none⟩=some(.slice(some ⟨b,off,none⟩) p.n c)/\w'.cell? ⟨w.heap.size,1,none⟩=some(.slice a' p.hn c')/\w'.cell? ⟨b,off+k*3,none⟩=some(.int .i64(p.s k).zRU)/\w'.cell? ⟨b,off+k*3+1,none⟩=some(.slice ka(p.s k).kn kc)/\w'.cell? ⟨b,off+k*3+2,none⟩=some(.string(p.s k).data))(go_keep)
       (first
        |(go_at_call 74;refine(zAC _ _ _ lo hi(p.s k) _ ?_).mono ?_;(exact Hs.out.slot.zRJ((Below.refl _ _).drew));rintro e w1 ⟨⟨t,rfl,hx⟩,hb1⟩;obtain rfl:t=false:=zQ hx HF.out;clear hx;have bA:=zK hb1;have rA:=(Hx.out.zRJ bA).1.1;have nA:=(Hx.out.zRJ bA).2.1;have oA:=(Hs.out.zRJ bA).c0;have pA:=(Hs.out.zRJ bA).c1;have sA:=(Hs.out.zRJ bA).c2)
        |(go_at_call 136;refine(zG5 _ _ _ _ _ lo hi lo hi p(p.s k) _ ?_ ?_).mono ?_;(exact Hp.out.zRJ(zA hb bA));(exact Hs.out.slot.zRJ bA);rintro e w2 ⟨⟨t2,rfl,hx2⟩,hb2⟩;obtain rfl:t2=false:=zQ hx2 HT.out;clear hx2;have aA:=zA bA hb2;have fA:=(Hx.out.zRJ aA).1.1;have iA:=(Hx.out.zRJ aA).2.1;have kA:=(Hs.out.zRJ aA).c0;have gA:=(Hs.out.zRJ aA).c1;have jA:=(Hs.out.zRJ aA).c2))
      have eA:=zA hb aA;clear hb1 bA rA nA oA pA sA q0 q1 q2 y0 y1 y2 y3 Hs Hx fA iA kA gA jA hb2 aA;go_wp2;go_ret;refine⟨zG.no fun h=>?_,eA⟩;rcases h.2.1 k dA with h | h
      ·exact HF.out h
      ·exact HT.out h
   ·obtain rfl:k=p.n:=(by omega);have fB:p.n<=200:=(by omega);have HX:Hid(zc wr w.heap.size(.slice a p.n c)(.slice a' p.hn c')):=Hx.out;have HB:Hid(Below w.heap.size w wr):=hb;have HA:Hid(∀j,j<p.n->qG(p.s j)\/zAN p(p.s j)):=cA.out;clear Hx hb cA;go_wp2;obtain⟨wo,hwo⟩:∃wo:World,wo=wr:=⟨_,rfl⟩;rw [<-hwo] at HX HB ⊢;clear hwo y0 y1 y2 y3
    go_loopw [4](fun i wr=>∃k:Nat,k<=p.hn/\i = .int .i64 k/\(∀j,j<k->zJv p j)/\zc wr w.heap.size(.slice a p.n c)(.slice a' p.hn c')/\Below w.heap.size w wr)(fun i _=>p.hn - (intOf i).toNat)
    case atStart=>exact⟨0,Nat.zero_le _,rfl,fun j hj=>absurd hj(Nat.not_lt_zero _),HX.out,HB.out⟩
    case round=>
     obtain⟨k,hk,rfl,hall,hx,hb⟩:=hrel;have cA:Hid(∀j,j<k->zJv p j):=hall;have Hx:Hid(zc wr w.heap.size(.slice a p.n c)(.slice a' p.hn c')):=hx;clear hall hx;obtain⟨⟨y0,y1⟩,⟨y2,y3⟩⟩:=Hx.out;by_cases dA:k<p.hn
     ·have aB:(k:Int)<(p.hn:Int):=(by omega);have mA:=Hp.out.2.zRJ hb;have vA:Hid(qT wr lo hi(.slice a' p.hn c') p.hn p.h):=mA;obtain⟨_,a2,cap2,hv2,_,hx2⟩:=mA;simp only [Value.slice.injEq,true_and] at hv2;obtain⟨rfl,rfl⟩:=hv2;obtain⟨b,off,rfl,_,_,k1⟩:=hx2(by omega);have eB:=k1 k dA;clear k1 hx2;by_cases h1:p.h k<0
      ·go_wp2;go_ret;exact⟨zG.no fun h=>by have:=(h.2.2 k dA).1;omega,hb⟩
      ·by_cases h2:(p.n:Int)<=p.h k
       ·go_wp2;go_ret;exact⟨zG.no fun h=>by have:=(h.2.2 k dA).2.1;omega,hb⟩
       ·obtain⟨x,hx⟩:=Int.eq_ofNat_of_zero_le(show 0<=p.h k by omega);rw [hx] at eB h1 h2;have lA:Hid(p.h k=x):=hx;have dB:x<p.n:=(by omega);have gB:(x:Int)<(p.n:Int):=(by omega);clear hx;obtain⟨bs,offs,ka,kc,rfl,hs⟩:=(Hp.out.1.zRJ hb).cells dB;have Hs:Hid(zAj wr bs(offs+x*3) lo hi ka kc(p.s x)):=hs;obtain⟨q0,q1,q2,_⟩:=hs;by_cases hf:qG(p.s x)
        ·have HF:Hid(qG(p.s x)):=hf;clear hf;go_wp2_with fail;refine(zAC _ _ _ lo hi(p.s x) _ Hs.out.slot).mono ?_;rintro e w1 ⟨⟨t,rfl,hx⟩,hb1⟩;obtain rfl:t=true:=hx.2 HF.out;clear hx;have eA:=zA hb hb1;clear hb1 q0 q1 q2 y0 y1 y2 y3;go_wp2;go_ret;refine⟨zG.no fun h=>?_,eA⟩;have:=(h.2.2 k dA).2.2.1;rw [lA.out,Int.toNat_natCast] at this;exact this HF.out
        ·have HF:Hid(¬qG(p.s x)):=hf;clear hf;go_wp2_with fail;refine(zAC _ _ _ lo hi(p.s x) _ Hs.out.slot).mono ?_;rintro e w1 ⟨⟨t,rfl,hx⟩,hb1⟩;obtain rfl:t=false:=zQ hx HF.out;clear hx;have eA:=zA hb hb1;have bB:Hid(zc w1 w.heap.size(.slice(some ⟨bs,offs,none⟩) p.n c)(.slice(some ⟨b,off,none⟩) p.hn c')):=Hx.out.zRJ hb1;have HI:Hid(qT w1 lo hi(.slice(some ⟨b,off,none⟩) k c') k p.h):=(vA.out.zRJ hb1).take(by omega)(by omega);clear hb1 q0 q1 q2 y0 y1 y2 y3;obtain⟨⟨y0,y1⟩,⟨y2,y3⟩⟩:=bB.out;have iB:k<=c':=(by omega);go_wp2_with fail;refine(zAR _ k lo hi p.h _ _ HI.out).mono ?_;rintro e w2 ⟨⟨t,rfl,hx⟩,rfl⟩;clear y0 y1 y2 y3;by_cases hh:Has k p.h(x:Int)
         ·obtain rfl:t=true:=hx.2 hh;have HH:Hid(Has k p.h(x:Int)):=hh;clear hx hh;go_wp2;go_ret;refine⟨zG.no fun h=>?_,eA⟩;have:=(h.2.2 k dA).2.2.2;rw [lA.out] at this;exact this HH.out
         ·obtain rfl:t=false:=zQ hx hh;have HH:Hid(zJv p k):=by
           refine⟨by rw [lA.out];exact Int.natCast_nonneg _,by rw [lA.out];exact gB,by rw [lA.out,Int.toNat_natCast];exact HF.out,by rw [lA.out];exact hh⟩
          clear hx hh;go_wp2;go_roundw
          case rel=>exact⟨k+1,by omega,by go_num,zo dA cA.out HH.out,bB.out,eA⟩
          case measure=>simp [intOf];omega
     ·obtain rfl:k=p.hn:=(by omega);go_wp2;go_ret;exact⟨zG.yes ⟨fB,HA.out,cA.out⟩,hb⟩
theorem zE{P:Prop}(h:P):Hid P:=h
theorem zBx(w:World)(a0 a1 x0 x1:Value)(t1 t2:TypeId) :
  zc((w.alloc(.cells #[a0,a1] t1)).alloc(.cells #[x0,x1] t2)) w.heap.size a0 a1/\zc((w.alloc(.cells #[a0,a1] t1)).alloc(.cells #[x0,x1] t2))(w.heap.size+1) x0 x1/\
  Below w.heap.size w((w.alloc(.cells #[a0,a1] t1)).alloc(.cells #[x0,x1] t2))/\((w.alloc(.cells #[a0,a1] t1)).alloc(.cells #[x0,x1] t2)).heap.size=w.heap.size+2:=by
 refine⟨(zc.zRL w a0 a1 t1).zRJ(zC _ _),?_,zA(zC _ _)(zC _ _),by simp⟩;have:=zc.zRL(w.alloc(.cells #[a0,a1] t1)) x0 x1 t2;rw [World.size_alloc] at this;exact this
theorem zCv(v0 v1:Value)(lo hi:Nat)(p:zJ)(xs xb:Int)(w:World)(h1:zy w lo hi v0 v1 p) :
  Calls Tryz.prog 139 #[.agg #[v0,v1],.agg #[.int .i64 xs,.int .i64 xb]] w fun e w'=>zG(zAy p xs xb) e/\Below w.heap.size w w':=by
 have Hp:=zE h1;obtain⟨a,c,a',c',rfl,rfl⟩:∃a c a' c',v0 = .slice a p.n c/\v1 = .slice a' p.hn c':=by
  obtain⟨⟨_,a,c,h1,_⟩,⟨_,a',c',h3,_⟩⟩:=h1;exact⟨a,c,a',c',h1,h3⟩
 clear h1;have eA:=zBx w(.slice a p.n c)(.slice a' p.hn c')(.int .i64 xs)(.int .i64 xb) 33 61;go_enter Tryz.func139,Tryz.ntmps139;go_wp2_with fail;generalize(w.alloc(.cells #[.slice a p.n c,.slice a' p.hn c'] 33)).alloc(.cells #[.int .i64 xs,.int .i64 xb] 61)=W at eA ⊢;obtain⟨hB,hX,hba,hz⟩:=eA;refine(zC8 _ _ lo hi p xs xb _(Hp.out.zRJ hba)).mono ?_;rintro e w1 ⟨⟨t,rfl,ht⟩,hb1⟩;have gA:=zE(hB.zRJ hb1);have fA:=zE(hX.zRJ hb1);have bA:=zA hba hb1;clear hB hX hba hb1;by_cases aA:zr p xs xb
 ·obtain rfl:t=true:=ht.2 aA;have dA:=zE aA;obtain⟨k,rfl⟩:=Int.eq_ofNat_of_zero_le aA.2.1;have hk:k<p.n:=(by have:=aA.2.2.1;omega);have iA:(k:Int)<(p.n:Int):=(by omega);clear ht aA;obtain⟨b,off,ka,kc,rfl,hs⟩:=(Hp.out.1.zRJ bA).cells hk;obtain⟨q0,q1,q2,_⟩:=hs;obtain⟨⟨x0,x1⟩,⟨x2,x3⟩⟩:=gA.out;obtain⟨⟨y0,y1⟩,⟨y2,y3⟩⟩:=fA.out;by_cases cA:0<(p.s k).kn
  ·have HK:=zE cA;have f1:(0:Int)<((p.s k).kn:Int):=by first | omega | simp [cA]
   clear cA;go_wp2_with fail;refine(zAR _ p.hn lo hi p.h _ _(Hp.out.2.zRJ bA)).mono ?_;rintro e w2 ⟨⟨t2,rfl,ht2⟩,rfl⟩;have HT:=zE ht2;clear ht2 x0 x1 x2 x3 y0 y1 y2 y3 q0 q1 q2;go_wp2;go_ret;refine⟨?_,bA⟩;by_cases hh:Has p.hn p.h(k:Int)
   ·obtain rfl:t2=true:=HT.out.2 hh;exact zG.no fun h=>h.2.2 hh
   ·obtain rfl:t2=false:=zQ HT.out hh;refine zG.yes ⟨dA.out,?_,hh⟩;rw [Int.toNat_natCast];exact HK.out
  ·have HK:=zE cA;have f1:¬(0:Int)<((p.s k).kn:Int):=by first | omega | (simp;omega)
   clear cA;go_wp2;go_ret;refine⟨zG.no fun h=>?_,bA⟩;have:=h.2.1;rw [Int.toNat_natCast] at this;exact HK.out this
 ·obtain rfl:t=false:=zQ ht aA;have dA:=zE aA;clear ht aA;go_wp2;go_ret;exact⟨zG.no fun h=>dA.out h.1,bA⟩
theorem zEJ(v0 v1:Value)(lo hi:Nat)(p:zJ)(xs xb:Int)(w:World)(h1:zy w lo hi v0 v1 p) :
  Calls Tryz.prog 140 #[.agg #[v0,v1],.agg #[.int .i64 xs,.int .i64 xb]] w fun e w'=>zG(zD6 p xs xb) e/\Below w.heap.size w w':=by
 have Hp:=zE h1;obtain⟨a,c,a',c',rfl,rfl⟩:∃a c a' c',v0 = .slice a p.n c/\v1 = .slice a' p.hn c':=by
  obtain⟨⟨_,a,c,h1,_⟩,⟨_,a',c',h3,_⟩⟩:=h1;exact⟨a,c,a',c',h1,h3⟩
 clear h1;have eA:=zBx w(.slice a p.n c)(.slice a' p.hn c')(.int .i64 xs)(.int .i64 xb) 33 61;go_enter Tryz.func140,Tryz.ntmps140;go_wp2_with fail;generalize(w.alloc(.cells #[.slice a p.n c,.slice a' p.hn c'] 33)).alloc(.cells #[.int .i64 xs,.int .i64 xb] 61)=W at eA ⊢;obtain⟨hB,hX,hba,hz⟩:=eA;refine(zC8 _ _ lo hi p xs xb _(Hp.out.zRJ hba)).mono ?_;rintro e w1 ⟨⟨t,rfl,ht⟩,hb1⟩;have gA:=zE(hB.zRJ hb1);have fA:=zE(hX.zRJ hb1);have bA:=zA hba hb1;clear hB hX hba hb1;by_cases aA:zr p xs xb
 ·obtain rfl:t=true:=ht.2 aA;have dA:=zE aA;obtain⟨k,rfl⟩:=Int.eq_ofNat_of_zero_le aA.2.1;have hk:k<p.n:=(by have:=aA.2.2.1;omega);have iA:(k:Int)<(p.n:Int):=(by omega);clear ht aA;obtain⟨b,off,ka,kc,rfl,hs⟩:=(Hp.out.1.zRJ bA).cells hk;obtain⟨q0,q1,q2,_⟩:=hs;obtain⟨⟨x0,x1⟩,⟨x2,x3⟩⟩:=gA.out;obtain⟨⟨y0,y1⟩,⟨y2,y3⟩⟩:=fA.out;by_cases cA:(p.s k).kn=0
  ·have HK:=zE cA;have f1:(((p.s k).kn:Int) == 0)=true:=by first | omega | simp [cA]
   clear cA;go_wp2_with fail;refine(zAR _ p.hn lo hi p.h _ _(Hp.out.2.zRJ bA)).mono ?_;rintro e w2 ⟨⟨t2,rfl,ht2⟩,rfl⟩;have HT:=zE ht2;clear ht2 x0 x1 x2 x3 y0 y1 y2 y3 q0 q1 q2;go_wp2;go_ret;refine⟨?_,bA⟩;by_cases hh:Has p.hn p.h(k:Int)
   ·obtain rfl:t2=true:=HT.out.2 hh;exact zG.no fun h=>h.2.2 hh
   ·obtain rfl:t2=false:=zQ HT.out hh;refine zG.yes ⟨dA.out,?_,hh⟩;rw [Int.toNat_natCast];exact HK.out
  ·have HK:=zE cA;have f1:(((p.s k).kn:Int) == 0)=false:=by first | omega | (simp;omega)
   clear cA;go_wp2;go_ret;refine⟨zG.no fun h=>?_,bA⟩;have:=h.2.1;rw [Int.toNat_natCast] at this;exact HK.out this
 ·obtain rfl:t=false:=zQ ht aA;have dA:=zE aA;clear ht aA;go_wp2;go_ret;exact⟨zG.no fun h=>dA.out h.1,bA⟩
end Go.Proofs.YtmgeglgboadfiaaGreatDoor

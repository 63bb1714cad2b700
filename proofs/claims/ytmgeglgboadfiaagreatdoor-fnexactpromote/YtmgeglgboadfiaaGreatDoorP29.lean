/- What the laws' own functions of marking leave (markText, markPtrS, markSlotS, markInt64S, markPool, markSlot). -/
import Derived.Test.YtmgeglgboadfiaaGreatDoorProg
import GoSem.ClaimJoined
import GoSem.ClaimMapViews
import Derived.JoinedTies
import Derived.KernelRfl
import Derived.RowKit
import Derived.Test.YtmgeglgboadfiaaGreatDoorP1
import Derived.Deep.RegionHeld3
import Derived.Deep.QuietTactic
import Derived.BigQuiet
import Derived.Test.YtmgeglgboadfiaaGreatDoorP28
namespace Go.Proofs.YtmgeglgboadfiaaGreatDoor
open Go.RowKit
set_option linter.unusedVariables false
def mtLoop(k:Nat)(out:ByteArray):ByteArray:=
 if h:k=0 then out else mtLoop (k / 10) (⟨#[48+UInt8.ofNat (k % 10)]⟩ ++ out)
termination_by k
decreasing_by omega
def mtF(k:Int):ByteArray:=if k≤0 then⟨#[109,48]⟩else⟨#[109]⟩ ++ mtLoop k.toNat ⟨#[]⟩
theorem mt_start{n:Nat}(h:(n:Int)≤1000000000000):n<10 ^ (13 - (⟨#[]⟩:ByteArray).size):=by
 show n<10 ^ 13
 omega
theorem size_one(x:UInt8)(out:ByteArray):((⟨#[x]⟩:ByteArray) ++ out).size=out.size+1:=by
 rw [ByteArray.size_append]
 show 1+out.size=_
 omega
theorem mt_bound{m:Nat}{out:ByteArray}(h:m<10 ^ (13 - out.size)):m≤10000000000000:=by
 have h2:10 ^ (13 - out.size)≤10 ^ 13:=Nat.pow_le_pow_right (by omega) (by omega)
 omega
theorem mt_next{m:Nat}{out:ByteArray}(x:UInt8)(h0:¬m=0)(h:m<10 ^ (13 - out.size))(h2:out.size≤13) :
  m / 10<10 ^ (13 - ((⟨#[x]⟩:ByteArray) ++ out).size)∧((⟨#[x]⟩:ByteArray) ++ out).size≤13:=by
 rw [size_one]
 by_cases e:out.size=13
 ·rw [e] at h; simp at h; omega
 ·obtain⟨j,hj⟩:∃j,13 - out.size=j+1:=⟨12 - out.size,by omega⟩
  rw [hj,Nat.pow_succ] at h
  have:13 - (out.size+1)=j:=by omega
  rw [this]
  exact⟨by omega,by omega⟩
theorem mt_step{m:Nat}{out:ByteArray}(h0:¬m=0):mtLoop (m / 10) (⟨#[48+UInt8.ofNat (m % 10)]⟩ ++ out)=mtLoop m out:=by
 conv=>rhs; rw [mtLoop]
 rw [dif_neg h0]
theorem mt_size(m:Nat):∀(out:ByteArray),m<10 ^ (13 - out.size)→out.size≤13→(mtLoop m out).size≤13:=by
 induction m using Nat.strongRecOn with
 | _ m ih=>
  intro out h h2
  by_cases h0:m=0
  ·rw [mtLoop,dif_pos h0]; exact h2
  ·rw [mtLoop,dif_neg h0]
   have:=mt_next (48+UInt8.ofNat (m % 10)) h0 h h2
   exact ih (m / 10) (by omega) _ this.1 this.2
theorem mtF_size{k:Int}(hk:k≤1000000000000):(mtF k).size≤maxLen:=by
 unfold mtF maxLen
 split
 ·decide
 ·have h:(mtLoop k.toNat ⟨#[]⟩).size≤13:=mt_size _ _ (mt_start (by omega)) (Nat.zero_le _)
  rw [size_one]
  omega
theorem conv_one(w:World)(n:Int):(convert 216 9 (.slice (some ⟨w.heap.size,0,none⟩) 1 1)).run Tryz.prog (w.alloc (.cells #[.int .u8 n] 5)) = .ok (.string ⟨#[UInt8.ofNat n.toNat]⟩) (w.alloc (.cells #[.int .u8 n] 5)):=
 run_convert_bytes_arg (P:=Tryz.prog) (w.alloc (.cells #[.int .u8 n] 5)) 216 5 (by kernel_rfl) (by kernel_rfl) w.heap.size 0 1 1 [n] rfl (fun i hi=>by
  obtain rfl:i=0:=by omega
  simp) 9 (by kernel_rfl)
set_option maxRecDepth 20000 in
set_option maxHeartbeats 400000 in
theorem markText_any(k:Int)(w:World)(hk:k≤1000000000000) :
  Calls Tryz.prog 114 #[.int .i64 k] w fun e w'=>e = .returned (.string (mtF k))∧Below w.heap.size w w':=by
 by_cases h0:k≤0
 ·have hm:Hid (mtF k=⟨#[109,48]⟩):=if_pos h0
  go_enter Tryz.func114,Tryz.ntmps114
  go_wp2
  go_ret
  exact⟨by rw [hm.out]; rfl,Below.refl _ _⟩
 ·obtain⟨n,rfl⟩:=Int.eq_ofNat_of_zero_le (by omega:0≤k)
  have hm:Hid (mtF (n:Int)=⟨#[109]⟩ ++ mtLoop n ⟨#[]⟩):=if_neg h0
  have hst:Hid (n<10 ^ (13 - (⟨#[]⟩:ByteArray).size)):=mt_start hk
  have hcv:=conv_one
  go_enter Tryz.func114,Tryz.ntmps114
  go_wp2
  go_loopw [0,3] (fun v s wr=>∃(m:Nat) (out:ByteArray),v = .int .i64 m∧s = .string out∧m<10 ^ (13 - out.size)∧out.size≤13∧mtLoop m out=mtLoop n ⟨#[]⟩∧Below w.heap.size w wr) (fun v _ _=>(intOf v).toNat)
  case atStart=>exact⟨n,⟨#[]⟩,rfl,rfl,hst.out,Nat.zero_le _,rfl,Below.refl _ _⟩
  case round=>
   obtain⟨m,out,rfl,rfl,hm1,hm2,hm3,hb⟩:=hrel
   have Hm3:Hid (m<10 ^ (13 - out.size)∧mtLoop m out=mtLoop n ⟨#[]⟩):=⟨hm1,hm3⟩
   have hmb:=mt_bound hm1
   clear hm1 hm3
   by_cases hz:m=0
   ·subst hz
    go_wp2
    go_ret
    refine⟨?_,hb⟩
    have e1:=Hm3.out.2
    rw [mtLoop,dif_pos rfl] at e1
    rw [hm.out,←e1]
    rfl
   ·have hz':(0:Int)<(m:Int):=by omega
    have Hz:Hid (¬m=0):=hz
    clear hz
    go_wp2
    go_roundw
    case rel=>
     have hn:=mt_next (48+UInt8.ofNat (m % 10)) Hz.out Hm3.out.1 hm2
     exact⟨m / 10,_,by go_num,rfl,hn.1,hn.2,(mt_step Hz.out).trans Hm3.out.2,hb.alloc hb.size _⟩
    case measure=>simp [intOf]; omega
theorem hideM{P:Prop}(h:P):Hid P:=h
def SameShape(b:Nat)(w w':World):Prop:=∀cur,w.heap[b]?=some (.cells cur 2 (0,0))→∃cur',w'.heap[b]?=some (.cells cur' 2 (0,0))∧cur'.size=cur.size
theorem SameShape.refl(b:Nat)(w:World):SameShape b w w:=fun cur h=>⟨cur,h,rfl⟩
theorem SameShape.set{b:Nat}{w w':World}(h:SameShape b w w')(o:Nat)(u:Value):SameShape b w (w'.setCell ⟨b,o,none⟩ u):=fun cur hc=>by
 obtain⟨cur',h1,h2⟩:=h cur hc
 exact⟨cur'.setIfInBounds o u,heap_setCell_at u h1,by simpa using h2⟩
theorem SameShape.room{b:Nat}{w w':World}{a:Option Addr}{n c:Nat}(h:SameShape b w w')(hr:Room w b a n c):Room w' b a n c:=fun hlt=>by
 obtain⟨r0,r1,r2,cur,r3,r4⟩:=hr hlt
 obtain⟨cur',h1,h2⟩:=h cur r3
 exact⟨r0,r1,r2,cur',h1,by omega⟩
set_option maxRecDepth 20000 in
set_option maxHeartbeats 400000 in
theorem markInt64S_any(b:Nat)(v:Value)(n:Nat)(f:Nat→Int)(k0:Int)(w:World)(h1:IntsOwn w b v n f)(hk0:0≤k0)(hk1:k0+n≤1000000000000) :
  Calls Tryz.prog 113 #[v,.int .i64 k0] w fun e w'=>e = .returned (.int .i64 (k0+n))∧IntsOwn w' b v n (fun i=>k0+i)∧Turned (fun k=>0<n∧k=b) w w':=by
 have h1':=h1
 obtain⟨m1,a,c,rfl,mc,g1,hroom⟩:=h1
 have Hroom:=hideM hroom
 clear hroom
 by_cases hn0:n=0
 ·subst hn0
  go_enter Tryz.func113,Tryz.ntmps113
  go_wp2
  refine wp_loop_rounds 1 ?_
  rw [rounds_succ]
  go_wp2
  go_ret
  exact⟨by simp,⟨m1,a,c,rfl,mc,fun h=>absurd h (by omega),Hroom.out⟩,Turned.refl _ _⟩
 ·obtain⟨off,rfl,g2⟩:=g1 (by omega)
  clear g1
  have hm1:=m1
  unfold maxLen at m1
  have G2:Hid (∀i,i<n→Cell w b (off+i) (.int .i64 (f i))):=g2
  clear g2 h1'
  go_enter Tryz.func113,Tryz.ntmps113
  go_wp2
  go_loopw [1,5] (fun m i wr=>∃k:Nat,k≤n∧i = .int .i64 k∧m = .int .i64 (k0+k)∧(∀j,j<n→Cell wr b (off+j) (.int .i64 (if j<k then k0+j else f j)))∧Turned (fun k=>0<n∧k=b) w wr∧SameShape b w wr) (fun _ i _=>n - (intOf i).toNat)
  case atStart=>exact⟨0,Nat.zero_le _,rfl,by simp,fun j hj=>by simpa using G2.out j hj,Turned.refl _ _,SameShape.refl _ _⟩
  case round=>
   obtain⟨k,hk,rfl,rfl,hall,ht,hsh⟩:=hrel
   have Hsh:=hideM hsh
   clear hsh
   have Hall:Hid (∀j,j<n→Cell wr b (off+j) (.int .i64 (if j<k then k0+j else f j))):=hall
   clear hall
   by_cases hlt:k<n
   ·have hlt':(k:Int)<(n:Int):=by omega
    obtain⟨hc,hf⟩:=Hall.out k hlt
    go_wp2
    go_roundw
    case rel=>
     refine⟨k+1,by omega,by go_num,by go_num,fun j hj=>?_,ht.setCell ⟨by omega,rfl⟩ _,Hsh.out.set _ _⟩
     by_cases e:j=k
     ·subst e
      rw [if_pos (by omega)]
      exact(Hall.out j hj).set _
     ·have:=(Hall.out j hj).other (b':=b) (o':=off+k) (.int .i64 (k0+k)) (Or.inr (by omega))
      by_cases e2:j<k
      ·rw [if_pos (by omega)]; rw [if_pos e2] at this; exact this
      ·rw [if_neg (by omega)]; rw [if_neg e2] at this; exact this
    case measure=>simp [intOf]; omega
   ·obtain rfl:k=n:=by omega
    go_wp2
    go_ret
    refine⟨rfl,⟨hm1,_,c,rfl,mc,fun _=>⟨off,rfl,fun i hi=>?_⟩,Hsh.out.room Hroom.out⟩,ht⟩
    have:=Hall.out i hi
    rw [if_pos hi] at this
    exact this
set_option maxRecDepth 20000 in
set_option maxHeartbeats 400000 in
theorem markPtrS_any(b:Nat)(v:Value)(n:Nat)(f g:Nat→Int)(k0:Int)(w:World)(h1:PtrsOwn w b v n f g)(hk0:0≤k0)(hk1:k0+2*n≤1000000000000) :
  Calls Tryz.prog 115 #[v,.int .i64 k0] w fun e w'=>e = .returned (.int .i64 (k0+2*n))∧PtrsOwn w' b v n (fun i=>k0+2*i) (fun i=>k0+2*i+1)∧Turned (fun k=>0<n∧k=b) w w':=by
 have h1':=h1
 obtain⟨m1,a,c,rfl,mc,g1⟩:=h1
 by_cases hn0:n=0
 ·subst hn0
  go_enter Tryz.func115,Tryz.ntmps115
  go_wp2
  refine wp_loop_rounds 1 ?_
  rw [rounds_succ]
  go_wp2
  go_ret
  exact⟨by simp,⟨m1,a,c,rfl,mc,fun h=>absurd h (by omega)⟩,Turned.refl _ _⟩
 ·obtain⟨off,rfl,g2⟩:=g1 (by omega)
  clear g1
  have hm1:=m1
  unfold maxLen at m1
  have G2:Hid (∀i,i<n→Cell w b (off+i*2) (.int .i64 (f i))∧Cell w b (off+i*2+1) (.int .i64 (g i))):=g2
  clear g2 h1'
  go_enter Tryz.func115,Tryz.ntmps115
  go_wp2
  go_loopw [1,5] (fun m i wr=>∃k:Nat,k≤n∧i = .int .i64 k∧m = .int .i64 (k0+2*k)∧(∀j,j<n→Cell wr b (off+j*2) (.int .i64 (if j<k then k0+2*j else f j))∧Cell wr b (off+j*2+1) (.int .i64 (if j<k then k0+2*j+1 else g j)))∧Turned (fun k=>0<n∧k=b) w wr) (fun _ i _=>n - (intOf i).toNat)
  case atStart=>exact⟨0,Nat.zero_le _,rfl,by simp,fun j hj=>by simpa using G2.out j hj,Turned.refl _ _⟩
  case round=>
   obtain⟨k,hk,rfl,rfl,hall,ht⟩:=hrel
   have Hall:Hid (∀j,j<n→Cell wr b (off+j*2) (.int .i64 (if j<k then k0+2*j else f j))∧Cell wr b (off+j*2+1) (.int .i64 (if j<k then k0+2*j+1 else g j))):=hall
   clear hall
   by_cases hlt:k<n
   ·have hlt':(k:Int)<(n:Int):=by omega
    obtain⟨⟨hc,hf⟩,⟨hc2,hf2⟩⟩:=Hall.out k hlt
    go_wp2
    go_roundw
    case rel=>
     refine⟨k+1,by omega,by go_num,by go_num,fun j hj=>?_,(ht.setCell ⟨by omega,rfl⟩ _).setCell ⟨by omega,rfl⟩ _⟩
     by_cases e:j=k
     ·subst e
      rw [if_pos (by omega),if_pos (by omega)]
      exact⟨((Hall.out j hj).1.set _).other _ (Or.inr (by omega)),((Hall.out j hj).2.other _ (Or.inr (by omega))).set _⟩
     ·have t1:=((Hall.out j hj).1.other (b':=b) (o':=off+k*2) (.int .i64 (k0+2*k)) (Or.inr (by omega))).other (b':=b) (o':=off+k*2+1) (.int .i64 (k0+2*k+1)) (Or.inr (by omega))
      have t2:=((Hall.out j hj).2.other (b':=b) (o':=off+k*2) (.int .i64 (k0+2*k)) (Or.inr (by omega))).other (b':=b) (o':=off+k*2+1) (.int .i64 (k0+2*k+1)) (Or.inr (by omega))
      by_cases e2:j<k
      ·rw [if_pos (by omega),if_pos (by omega)]; rw [if_pos e2] at t1 t2; exact⟨t1,t2⟩
      ·rw [if_neg (by omega),if_neg (by omega)]; rw [if_neg e2] at t1 t2; exact⟨t1,t2⟩
    case measure=>simp [intOf]; omega
   ·obtain rfl:k=n:=by omega
    go_wp2
    go_ret
    refine⟨rfl,⟨hm1,_,c,rfl,mc,fun _=>⟨off,rfl,fun i hi=>?_⟩⟩,ht⟩
    have:=Hall.out i hi
    rw [if_pos hi,if_pos hi] at this
    exact this
def cntSl(f:Nat→SlotD)(k0:Int):Nat→Int
 | 0=>k0
 | j+1=>cntSl f k0 j+2+2*(f j).kn
def marked(s:SlotD)(c:Int):SlotD:={birth:=c,kn:=s.kn,ks:=fun i=>c+1+2*i,kb:=fun i=>c+1+2*i+1,data:=mtF (c+1+2*s.kn)}
theorem cntSl_mono(f:Nat→SlotD)(k0:Int)(j:Nat):∀m,cntSl f k0 j≤cntSl f k0 (j+m)
 | 0=>Int.le_refl _
 | m+1=>by
  have:=cntSl_mono f k0 j m
  show _≤cntSl f k0 (j+m)+2+2*((f (j+m)).kn:Int)
  omega
theorem cntSl_le(f:Nat→SlotD)(k0:Int){j n:Nat}(h:j≤n):cntSl f k0 j≤cntSl f k0 n:=by
 obtain⟨m,rfl⟩:=Nat.exists_eq_add_of_le h
 exact cntSl_mono f k0 j m
def markS(f:Nat→SlotD)(k0:Int)(j:Nat):SlotD:=marked (f j) (cntSl f k0 j)
theorem slots_step{w w1 w2:World}{bs off:Nat}{kb:Nat→Nat}{kv:Nat→Value}{n k:Nat}{f:Nat→SlotD}{s':SlotD}
  (h:∀j,j<n→SlotOwn w bs (off+j*3) (kb j) (kv j) (f j)) (hap:KidsApart kb n f) (hk:k<n)
  (t1:Turned (fun b=>0<(f k).kn∧b=kb k) (w.setCell ⟨bs,off+k*3,none⟩ (.int .i64 s'.birth)) w1) (t2:Below w1.heap.size w1 w2)
  (hkn:s'.kn=(f k).kn) (hp:PtrsOwn w1 (kb k) (kv k) s'.kn s'.ks s'.kb) (hs:s'.data.size≤maxLen) :
  ∀j,j<n→SlotOwn (w2.setCell ⟨bs,off+k*3+2,none⟩ (.string s'.data)) bs (off+j*3) (kb j) (kv j) (if j=k then s' else f j):=by
 intro j hj
 have nb:¬(0<(f k).kn∧bs=kb k):=fun hx=>(h k hk).apart hx.1 hx.2.symm
 by_cases e:j=k
 ·subst e
  rw [if_pos rfl]
  have hj':=h j hj
  refine⟨?_,?_,?_,?_,hs,?_⟩
  ·exact(((hj'.birth.set _).turned t1 nb).below t2).other _ (Or.inr (by omega))
  ·exact(((hj'.kidsv.other _ (Or.inr (by omega))).turned t1 nb).below t2).other _ (Or.inr (by omega))
  ·exact(((hj'.data.other _ (Or.inr (by omega))).turned t1 nb).below t2).set _
  ·refine(hp.below t2).turned (Turned.put _ _ _ _) (fun h0 hx=>?_)
   exact hj'.apart (hkn▸h0) hx
  ·rw [hkn]; exact hj'.apart
 ·rw [if_neg e]
  have hj':=h j hj
  have c0:=hj'.birth.other (b':=bs) (o':=off+k*3) (.int .i64 s'.birth) (Or.inr (by omega))
  have c1:=hj'.kidsv.other (b':=bs) (o':=off+k*3) (.int .i64 s'.birth) (Or.inr (by omega))
  have c2:=hj'.data.other (b':=bs) (o':=off+k*3) (.int .i64 s'.birth) (Or.inr (by omega))
  have c3:=hj'.kids.turned (Turned.put w bs (off+k*3) (.int .i64 s'.birth)) (fun h0 hx=>hj'.apart h0 hx)
  refine⟨?_,?_,?_,?_,hj'.small,hj'.apart⟩
  ·exact((c0.turned t1 nb).below t2).other _ (Or.inr (by omega))
  ·exact((c1.turned t1 nb).below t2).other _ (Or.inr (by omega))
  ·exact((c2.turned t1 nb).below t2).other _ (Or.inr (by omega))
  ·refine((c3.turned t1 (fun h0 hx=>hap j k hj hk e h0 hx.1 hx.2)).below t2).turned (Turned.put _ _ _ _) (fun h0 hx=>hj'.apart h0 hx)
theorem stS_start(f:Nat→SlotD)(k0:Int)(j:Nat):(if j<0 then markS f k0 j else f j)=f j:=if_neg (by omega)
theorem stS_kn(f:Nat→SlotD)(k0:Int)(k j:Nat):(if j<k then markS f k0 j else f j).kn=(f j).kn:=by split <;> rfl
set_option maxRecDepth 20000 in
set_option maxHeartbeats 1000000 in
theorem markSlotS_any(bs:Nat)(kb:Nat→Nat)(kv:Nat→Value)(v:Value)(n:Nat)(f:Nat→SlotD)(k0:Int)(w:World)(h1:SlotsOwn w bs kb kv v n f)(hap:KidsApart kb n f)(hk0:0≤k0)(hk1:cntSl f k0 n≤1000000000000) :
  Calls Tryz.prog 112 #[v,.int .i64 k0] w fun e w'=>e = .returned (.int .i64 (cntSl f k0 n))∧SlotsOwn w' bs kb kv v n (markS f k0)∧Turned (SlotsB bs kb n f) w w':=by
 obtain⟨m1,a,c,rfl,mc,g1⟩:=h1
 by_cases hn0:n=0
 ·subst hn0
  go_enter Tryz.func112,Tryz.ntmps112
  go_wp2
  refine wp_loop_rounds 1 ?_
  rw [rounds_succ]
  go_wp2
  go_ret
  exact⟨by simp [cntSl],⟨m1,a,c,rfl,mc,fun h=>absurd h (by omega)⟩,Turned.refl _ _⟩
 ·obtain⟨off,rfl,g2⟩:=g1 (by omega)
  clear g1
  have hm1:=m1
  unfold maxLen at m1
  have G2:Hid (∀j,j<n→SlotOwn w bs (off+j*3) (kb j) (kv j) (f j)):=g2
  have Hap:Hid (KidsApart kb n f):=hap
  have Hk1:Hid (cntSl f k0 n≤1000000000000):=hk1
  clear g2 hap hk1
  go_enter Tryz.func112,Tryz.ntmps112
  go_wp2
  go_loopw [1,5] (fun m i wr=>∃k:Nat,k≤n∧i = .int .i64 k∧m = .int .i64 (cntSl f k0 k)∧(∀j,j<n→SlotOwn wr bs (off+j*3) (kb j) (kv j) (if j<k then markS f k0 j else f j))∧Turned (SlotsB bs kb n f) w wr) (fun _ i _=>n - (intOf i).toNat)
  case atStart=>exact⟨0,Nat.zero_le _,rfl,rfl,fun j hj=>by rw [stS_start]; exact G2.out j hj,Turned.refl _ _⟩
  case round=>
   obtain⟨k,hk,rfl,rfl,hall,ht⟩:=hrel
   have Hall:Hid (∀j,j<n→SlotOwn wr bs (off+j*3) (kb j) (kv j) (if j<k then markS f k0 j else f j)):=hall
   clear hall
   by_cases hlt:k<n
   ·have hlt':(k:Int)<(n:Int):=by omega
    have hs:=Hall.out k hlt
    rw [if_neg (by omega)] at hs
    have hc0:k0≤cntSl f k0 k:=cntSl_le f k0 (Nat.zero_le k)
    have hc1:cntSl f k0 k+2+2*((f k).kn:Int)≤1000000000000:=Int.le_trans (cntSl_le f k0 (show k+1≤n from hlt)) Hk1.out
    obtain⟨hb0,hf0⟩:=hs.birth
    obtain⟨hb1,hf1⟩:=hs.kidsv
    obtain⟨hb2,hf2⟩:=hs.data
    have Hs:Hid (SlotOwn wr bs (off+k*3) (kb k) (kv k) (f k)):=hs
    obtain⟨_,ka,kc,hkv,_⟩:=hs.kids
    clear hs
    generalize hx:kv k=kvk at *
    have Hx:Hid (kv k=kvk):=hx
    clear hx
    subst hkv
    go_wp2_with fail
    refine(markPtrS_any (kb k) _ (f k).kn (f k).ks (f k).kb _ _ ?p1 ?p2 ?p3).mono ?_
    case p1=>exact Hs.out.kids.turned (Turned.put _ _ _ _) (fun h0 hx=>Hs.out.apart h0 hx)
    case p2=>omega
    case p3=>omega
    rintro e w1 ⟨rfl,hp1,ht1⟩
    have nb:¬(0<(f k).kn∧bs=kb k):=fun hx=>Hs.out.apart hx.1 hx.2.symm
    have Hd:=((Hs.out.data.other (b':=bs) (o':=off+k*3) (.int .i64 (cntSl f k0 k)) (Or.inr (by omega))).turned ht1 nb)
    have Hp1:Hid (PtrsOwn w1 (kb k) (.slice ka (f k).kn kc) (f k).kn (fun i=>cntSl f k0 k+1+2*i) (fun i=>cntSl f k0 k+1+2*i+1)):=hp1
    clear nb hp1 hb0 hf0 hb1 hf1 hb2 hf2
    go_wp2_with fail
    refine(markText_any _ _ (by omega)).mono ?_
    rintro e w2 ⟨rfl,hb2⟩
    obtain⟨hd2,hf2⟩:=Hd.below hb2
    clear Hd
    go_wp2
    go_roundw
    case rel=>
     refine⟨k+1,by omega,by go_num,congrArg (Value.int .i64) (by show _=cntSl f k0 k+2+2*((f k).kn:Int); omega),fun j hj=>?_,?_⟩
     ·have st:=slots_step (s':=markS f k0 k) Hall.out (by
        intro i j hi hj hij h1 h2
        rw [stS_kn] at h1 h2
        exact Hap.out i j hi hj hij h1 h2) hlt (by rw [if_neg (Nat.lt_irrefl k)]; exact ht1) hb2 (by rw [if_neg (Nat.lt_irrefl k)]; rfl) (by rw [Hx.out]; exact Hp1.out) (mtF_size (by omega)) j hj
      by_cases e:j=k
      ·subst e
       rw [if_pos rfl] at st
       rw [if_pos (by omega)]
       exact st
      ·rw [if_neg e] at st
       by_cases e2:j<k
       ·rw [if_pos e2] at st; rw [if_pos (by omega)]; exact st
       ·rw [if_neg e2] at st; rw [if_neg (by omega)]; exact st
     ·refine(((ht.setCell (Or.inl ⟨by omega,rfl⟩) _).trans (ht1.mono ?_)).trans (Turned.of_below hb2)).setCell (Or.inl ⟨by omega,rfl⟩) _
      rintro b ⟨hb,rfl⟩
      exact Or.inr ⟨k,hlt,hb,rfl⟩
    case measure=>simp [intOf]; omega
   ·obtain rfl:k=n:=by omega
    go_wp2
    go_ret
    refine⟨rfl,⟨hm1,_,c,rfl,mc,fun _=>⟨off,rfl,fun i hi=>?_⟩⟩,ht⟩
    have:=Hall.out i hi
    rw [if_pos hi] at this
    exact this
set_option maxRecDepth 20000 in
set_option maxHeartbeats 400000 in
theorem markPool_any(bs hb:Nat)(kb:Nat→Nat)(kv:Nat→Value)(v0 v1:Value)(p:PoolD)(k0:Int)(w:World)
  (h1:SlotsOwn w bs kb kv v0 p.n p.s) (hap:KidsApart kb p.n p.s) (h2:IntsOwn w hb v1 p.hn p.h) (hd:0<p.hn→¬SlotsB bs kb p.n p.s hb)
  (hk0:0≤k0) (hk1:cntSl p.s k0 p.n+p.hn≤1000000000000) :
  Calls Tryz.prog 42 #[.agg #[v0,v1],.int .i64 k0] w fun e w'=>e = .returned (.int .i64 (cntSl p.s k0 p.n+p.hn))∧SlotsOwn w' bs kb kv v0 p.n (markS p.s k0)∧IntsOwn w' hb v1 p.hn (fun i=>cntSl p.s k0 p.n+i)∧
   Turned (fun k=>SlotsB bs kb p.n p.s k∨(0<p.hn∧k=hb)) w w':=by
 have q1:=h1
 have q2:=h2
 obtain⟨_,a,c,rfl,_⟩:=h1
 obtain⟨_,a',c',rfl,_⟩:=h2
 have Hk:Hid (cntSl p.s k0 p.n+p.hn≤1000000000000):=hk1
 have hk00:Hid (k0≤cntSl p.s k0 p.n):=cntSl_le p.s k0 (Nat.zero_le p.n)
 clear hk1
 go_enter Tryz.func42,Tryz.ntmps42
 go_wp2_with fail
 have hbw:=(Below.refl w.heap.size w).alloc (Nat.le_refl _) (.cells #[.slice a p.n c,.slice a' p.hn c'] 33)
 refine(markSlotS_any bs kb kv _ p.n p.s _ _ (q1.below hbw) hap hk0 (by have:=Hk.out; omega)).mono ?_
 rintro e w1 ⟨rfl,hs1,ht1⟩
 have nb:¬SlotsB bs kb p.n p.s w.heap.size:=fun x=>Nat.lt_irrefl _ (q1.lt x)
 have e1:=ht1.cell (b:=w.heap.size) (o:=1) (by simp) nb
 simp at e1
 go_wp2_with fail
 refine(markInt64S_any hb _ p.hn p.h _ _ ((q2.below hbw).turned ht1 hd) (by have:=hk00.out; omega) Hk.out).mono ?_
 rintro e w2 ⟨rfl,hs2,ht2⟩
 go_wp2
 go_ret
 refine⟨rfl,?_,hs2,?_⟩
 ·refine hs1.turned ht2 (fun h0 hx=>?_) (fun i hi h0 hx=>?_)
  ·exact hd hx.1 (Or.inl ⟨h0,hx.2.symm⟩)
  ·exact hd hx.1 (Or.inr ⟨i,hi,h0,hx.2.symm⟩)
 ·exact((Turned.of_below hbw).trans (ht1.mono fun k h=>Or.inl h)).trans (ht2.mono fun k h=>Or.inr h)
def markP(p:PoolD)(k0:Int):PoolD:={n:=p.n,s:=markS p.s k0,hn:=p.hn,h:=fun i=>cntSl p.s k0 p.n+i}
def endP(p:PoolD)(k0:Int):Int:=cntSl p.s k0 p.n+p.hn
def cntSet(f:Nat→SetD)(k0:Int):Nat→Int
 | 0=>k0
 | j+1=>cntSet f k0 j+5+2*(f j).dn
def markedSet(s:SetD)(c:Int):SetD:={name:=mtF (c),origin:=c+1,prev:=c+1+1,rs:=c+1+1+1,rb:=c+1+1+1+1,dn:=s.dn,ds:=fun i=>c+1+1+1+1+1+2*i,db:=fun i=>c+1+1+1+1+1+2*i+1}
theorem cntSet_mono(f:Nat→SetD)(k0:Int)(j:Nat):∀m,cntSet f k0 j≤cntSet f k0 (j+m)
 | 0=>Int.le_refl _
 | m+1=>by
  have:=cntSet_mono f k0 j m
  show _≤cntSet f k0 (j+m)+5+2*((f (j+m)).dn:Int)
  omega
theorem cntSet_le(f:Nat→SetD)(k0:Int){j n:Nat}(h:j≤n):cntSet f k0 j≤cntSet f k0 n:=by
 obtain⟨m,rfl⟩:=Nat.exists_eq_add_of_le h
 exact cntSet_mono f k0 j m
def markSetD(f:Nat→SetD)(k0:Int)(j:Nat):SetD:=markedSet (f j) (cntSet f k0 j)
theorem stSet_start(f:Nat→SetD)(k0:Int)(j:Nat):(if j<0 then markSetD f k0 j else f j)=f j:=if_neg (by omega)
theorem stSet_dn(f:Nat→SetD)(k0:Int)(k j:Nat):(if j<k then markSetD f k0 j else f j).dn=(f j).dn:=by split <;> rfl
set_option maxRecDepth 20000 in
set_option maxHeartbeats 1000000 in
theorem markSetS_any(bs:Nat)(kb:Nat→Nat)(kv:Nat→Value)(v:Value)(n:Nat)(f:Nat→SetD)(k0:Int)(w:World)(h1:SetsOwn w bs kb kv v n f)(hap:SetsApart kb n f)(hk0:0≤k0)(hk1:cntSet f k0 n≤1000000000000) :
  Calls Tryz.prog 43 #[v,.int .i64 k0] w fun e w'=>e = .returned (.int .i64 (cntSet f k0 n))∧SetsOwn w' bs kb kv v n (markSetD f k0)∧Turned (SetsB bs kb n f) w w':=by
 obtain⟨m1,a,c,rfl,mc,g1⟩:=h1
 by_cases hn0:n=0
 ·subst hn0
  go_enter Tryz.func43,Tryz.ntmps43
  go_wp2
  refine wp_loop_rounds 1 ?_
  rw [rounds_succ]
  go_wp2
  go_ret
  exact⟨by simp [cntSet],⟨m1,a,c,rfl,mc,fun h=>absurd h (by omega)⟩,Turned.refl _ _⟩
 ·obtain⟨off,rfl,g2⟩:=g1 (by omega)
  clear g1
  have hm1:=m1
  unfold maxLen at m1
  have G2:=hideM g2
  have Hap:=hideM hap
  have Hk1:=hideM hk1
  clear g2 hap hk1
  go_enter Tryz.func43,Tryz.ntmps43
  go_wp2
  go_loopw [1,5] (fun m i wr=>∃k:Nat,k≤n∧i = .int .i64 k∧m = .int .i64 (cntSet f k0 k)∧(∀j,j<n→SetOwn wr bs (off+j*6) (kb j) (kv j) (if j<k then markSetD f k0 j else f j))∧Turned (SetsB bs kb n f) w wr) (fun _ i _=>n - (intOf i).toNat)
  case atStart=>exact⟨0,Nat.zero_le _,rfl,rfl,fun j hj=>by rw [stSet_start]; exact G2.out j hj,Turned.refl _ _⟩
  case round=>
   obtain⟨k,hk,rfl,rfl,hall,ht⟩:=hrel
   have Hall:=hideM hall
   clear hall
   by_cases hlt:k<n
   ·have hlt':(k:Int)<(n:Int):=by omega
    have hs:=Hall.out k hlt
    rw [if_neg (by omega)] at hs
    have hc0:k0≤cntSet f k0 k:=cntSet_le f k0 (Nat.zero_le k)
    have hc1:cntSet f k0 k+5+2*((f k).dn:Int)≤1000000000000:=Int.le_trans (cntSet_le f k0 (show k+1≤n from hlt)) Hk1.out
    have Hs:=hideM hs
    obtain⟨-,ka,kc,hkv,-⟩:=hs.dead
    clear hs
    generalize hx:kv k=kvk at *
    have Hx:=hideM hx
    clear hx
    subst hkv
    obtain⟨⟨p0,p0'⟩,⟨p1,p1'⟩,⟨p2,p2'⟩,⟨p3,p3'⟩,⟨p4,p4'⟩,⟨p5,p5'⟩⟩:=And.intro Hs.out.c0 (And.intro Hs.out.c1 (And.intro Hs.out.c2 (And.intro Hs.out.c3 (And.intro Hs.out.c4 Hs.out.c5))))
    have HR:=hideM (RowTurned.refl bs (off+k*6) 6 wr)
    go_wp2_with fail
    clear p0 p0' p1 p1' p2 p2' p3 p3' p4 p4' p5 p5'
    have C1a:=hideM Hs.out.c0
    have C1b:=hideM Hs.out.c1
    have C1c:=hideM Hs.out.c2
    have C1d:=hideM Hs.out.c3
    have C1e:=hideM Hs.out.c4
    have C1f:=hideM Hs.out.c5
    have HR1:=hideM HR.out
    refine(markText_any _ wr (by omega)).mono ?_
    rintro e w1 ⟨rfl,hb1⟩
    have D1a:=hideM (C1a.out.below hb1)
    have D1b:=hideM (C1b.out.below hb1)
    have D1c:=hideM (C1c.out.below hb1)
    have D1d:=hideM (C1d.out.below hb1)
    have D1e:=hideM (C1e.out.below hb1)
    have D1f:=hideM (C1f.out.below hb1)
    have HS1:=hideM (HR1.out.below hb1)
    clear hb1 HR1 C1a C1b C1c C1d C1e C1f
    obtain⟨p0,p0'⟩:=D1a.out
    obtain⟨p1,p1'⟩:=D1b.out
    obtain⟨p2,p2'⟩:=D1c.out
    obtain⟨p3,p3'⟩:=D1d.out
    obtain⟨p4,p4'⟩:=D1e.out
    obtain⟨p5,p5'⟩:=D1f.out
    go_wp2_with fail
    clear p0 p0' p1 p1' p2 p2' p3 p3' p4 p4' p5 p5'
    have Ea:=hideM (((((D1a.out.set (.string (mtF (cntSet f k0 k)))).other (b':=bs) (o':=off+k*6+1) (.int .i64 (cntSet f k0 k+1)) (Or.inr (by omega))).other (b':=bs) (o':=off+k*6+2) (.int .i64 (cntSet f k0 k+1+1)) (Or.inr (by omega))).other (b':=bs) (o':=off+k*6+3) (.int .i64 (cntSet f k0 k+1+1+1)) (Or.inr (by omega))).other (b':=bs) (o':=off+k*6+3+1) (.int .i64 (cntSet f k0 k+1+1+1+1)) (Or.inr (by omega)))
    have Eb:=hideM (((((D1b.out.other (b':=bs) (o':=off+k*6) (.string (mtF (cntSet f k0 k))) (Or.inr (by omega))).set (.int .i64 (cntSet f k0 k+1))).other (b':=bs) (o':=off+k*6+2) (.int .i64 (cntSet f k0 k+1+1)) (Or.inr (by omega))).other (b':=bs) (o':=off+k*6+3) (.int .i64 (cntSet f k0 k+1+1+1)) (Or.inr (by omega))).other (b':=bs) (o':=off+k*6+3+1) (.int .i64 (cntSet f k0 k+1+1+1+1)) (Or.inr (by omega)))
    have Ec:=hideM (((((D1c.out.other (b':=bs) (o':=off+k*6) (.string (mtF (cntSet f k0 k))) (Or.inr (by omega))).other (b':=bs) (o':=off+k*6+1) (.int .i64 (cntSet f k0 k+1)) (Or.inr (by omega))).set (.int .i64 (cntSet f k0 k+1+1))).other (b':=bs) (o':=off+k*6+3) (.int .i64 (cntSet f k0 k+1+1+1)) (Or.inr (by omega))).other (b':=bs) (o':=off+k*6+3+1) (.int .i64 (cntSet f k0 k+1+1+1+1)) (Or.inr (by omega)))
    have Ed:=hideM (((((D1d.out.other (b':=bs) (o':=off+k*6) (.string (mtF (cntSet f k0 k))) (Or.inr (by omega))).other (b':=bs) (o':=off+k*6+1) (.int .i64 (cntSet f k0 k+1)) (Or.inr (by omega))).other (b':=bs) (o':=off+k*6+2) (.int .i64 (cntSet f k0 k+1+1)) (Or.inr (by omega))).set (.int .i64 (cntSet f k0 k+1+1+1))).other (b':=bs) (o':=off+k*6+3+1) (.int .i64 (cntSet f k0 k+1+1+1+1)) (Or.inr (by omega)))
    have Ee:=hideM (((((D1e.out.other (b':=bs) (o':=off+k*6) (.string (mtF (cntSet f k0 k))) (Or.inr (by omega))).other (b':=bs) (o':=off+k*6+1) (.int .i64 (cntSet f k0 k+1)) (Or.inr (by omega))).other (b':=bs) (o':=off+k*6+2) (.int .i64 (cntSet f k0 k+1+1)) (Or.inr (by omega))).other (b':=bs) (o':=off+k*6+3) (.int .i64 (cntSet f k0 k+1+1+1)) (Or.inr (by omega))).set (.int .i64 (cntSet f k0 k+1+1+1+1)))
    have Ef:=hideM (((((D1f.out.other (b':=bs) (o':=off+k*6) (.string (mtF (cntSet f k0 k))) (Or.inr (by omega))).other (b':=bs) (o':=off+k*6+1) (.int .i64 (cntSet f k0 k+1)) (Or.inr (by omega))).other (b':=bs) (o':=off+k*6+2) (.int .i64 (cntSet f k0 k+1+1)) (Or.inr (by omega))).other (b':=bs) (o':=off+k*6+3) (.int .i64 (cntSet f k0 k+1+1+1)) (Or.inr (by omega))).other (b':=bs) (o':=off+k*6+3+1) (.int .i64 (cntSet f k0 k+1+1+1+1)) (Or.inr (by omega)))
    have HRE:=hideM (((((HS1.out.set (off+k*6) (.string (mtF (cntSet f k0 k))) (by omega) (by omega)).set (off+k*6+1) (.int .i64 (cntSet f k0 k+1)) (by omega) (by omega)).set (off+k*6+2) (.int .i64 (cntSet f k0 k+1+1)) (by omega) (by omega)).set (off+k*6+3) (.int .i64 (cntSet f k0 k+1+1+1)) (by omega) (by omega)).set (off+k*6+3+1) (.int .i64 (cntSet f k0 k+1+1+1+1)) (by omega) (by omega))
    generalize (((((w1.setCell ⟨bs,off+k*6,none⟩ (.string (mtF (cntSet f k0 k)))).setCell ⟨bs,off+k*6+1,none⟩ (.int .i64 (cntSet f k0 k+1))).setCell ⟨bs,off+k*6+2,none⟩ (.int .i64 (cntSet f k0 k+1+1))).setCell ⟨bs,off+k*6+3,none⟩ (.int .i64 (cntSet f k0 k+1+1+1))).setCell ⟨bs,off+k*6+3+1,none⟩ (.int .i64 (cntSet f k0 k+1+1+1+1)))=Y at Ea Eb Ec Ed Ee Ef HRE ⊢
    refine(markPtrS_any (kb k) _ (f k).dn (f k).ds (f k).db _ Y (Hs.out.dead.turned HRE.out.turned (fun h0 hx=>Hs.out.apart h0 hx)) (by omega) (by omega)).mono ?_
    rintro e wz ⟨rfl,hpz,htz⟩
    have Hpz:=hideM hpz
    have Htz:=hideM htz
    clear hpz htz
    go_wp2
    go_roundw
    case rel=>
     refine⟨k+1,by omega,by go_num,congrArg (Value.int .i64) (by show _=cntSet f k0 k+5+2*((f k).dn:Int); omega),fun j hj=>?_,?_⟩
     ·have st:=Set_step (s:=markSetD f k0 k) Hall.out (by
        intro i j hi hj hij h1 h2
        rw [stSet_dn] at h1 h2
        exact Hap.out i j hi hj hij h1 h2) hlt HRE.out (by rw [if_neg (Nat.lt_irrefl k)]; exact Htz.out) Ea.out Eb.out Ec.out Ed.out Ee.out (by rw [Hx.out]; exact Ef.out) (by rw [if_neg (Nat.lt_irrefl k)]; rfl) (by rw [Hx.out]; exact Hpz.out) (mtF_size (by omega)) j hj
      by_cases e:j=k
      ·subst e
       rw [if_pos rfl] at st
       rw [if_pos (by omega)]
       exact st
      ·rw [if_neg e] at st
       by_cases e2:j<k
       ·rw [if_pos e2] at st; rw [if_pos (by omega)]; exact st
       ·rw [if_neg e2] at st; rw [if_neg (by omega)]; exact st
     ·refine(ht.trans (HRE.out.turned.mono ?_)).trans (Htz.out.mono ?_)
      ·rintro b rfl
       exact Or.inl ⟨by omega,rfl⟩
      ·rintro b ⟨hb,rfl⟩
       exact Or.inr ⟨k,hlt,hb,rfl⟩
    case measure=>simp [intOf]; omega
   ·obtain rfl:k=n:=by omega
    go_wp2
    go_ret
    refine⟨rfl,⟨hm1,_,c,rfl,mc,fun _=>⟨off,rfl,fun i hi=>?_⟩⟩,ht⟩
    have:=Hall.out i hi
    rw [if_pos hi] at this
    exact this
def cntSnap(f:Nat→SnapD)(k0:Int):Nat→Int
 | 0=>k0
 | j+1=>cntSnap f k0 j+7+2*(f j).dn
def markedSnap(s:SnapD)(c:Int):SnapD:={id:=c,name:=mtF (c+1),set:=mtF (c+1+1),prev:=c+1+1+1,time:=c+1+1+1+1,rs:=c+1+1+1+1+1,rb:=c+1+1+1+1+1+1,dn:=s.dn,ds:=fun i=>c+1+1+1+1+1+1+1+2*i,db:=fun i=>c+1+1+1+1+1+1+1+2*i+1}
theorem cntSnap_mono(f:Nat→SnapD)(k0:Int)(j:Nat):∀m,cntSnap f k0 j≤cntSnap f k0 (j+m)
 | 0=>Int.le_refl _
 | m+1=>by
  have:=cntSnap_mono f k0 j m
  show _≤cntSnap f k0 (j+m)+7+2*((f (j+m)).dn:Int)
  omega
theorem cntSnap_le(f:Nat→SnapD)(k0:Int){j n:Nat}(h:j≤n):cntSnap f k0 j≤cntSnap f k0 n:=by
 obtain⟨m,rfl⟩:=Nat.exists_eq_add_of_le h
 exact cntSnap_mono f k0 j m
def markSnapD(f:Nat→SnapD)(k0:Int)(j:Nat):SnapD:=markedSnap (f j) (cntSnap f k0 j)
theorem stSnap_start(f:Nat→SnapD)(k0:Int)(j:Nat):(if j<0 then markSnapD f k0 j else f j)=f j:=if_neg (by omega)
theorem stSnap_dn(f:Nat→SnapD)(k0:Int)(k j:Nat):(if j<k then markSnapD f k0 j else f j).dn=(f j).dn:=by split <;> rfl
set_option maxRecDepth 20000 in
set_option maxHeartbeats 1000000 in
theorem markSnapS_any(bs:Nat)(kb:Nat→Nat)(kv:Nat→Value)(v:Value)(n:Nat)(f:Nat→SnapD)(k0:Int)(w:World)(h1:SnapsOwn w bs kb kv v n f)(hap:SnapsApart kb n f)(hk0:0≤k0)(hk1:cntSnap f k0 n≤1000000000000) :
  Calls Tryz.prog 44 #[v,.int .i64 k0] w fun e w'=>e = .returned (.int .i64 (cntSnap f k0 n))∧SnapsOwn w' bs kb kv v n (markSnapD f k0)∧Turned (SnapsB bs kb n f) w w':=by
 obtain⟨m1,a,c,rfl,mc,g1⟩:=h1
 by_cases hn0:n=0
 ·subst hn0
  go_enter Tryz.func44,Tryz.ntmps44
  go_wp2
  refine wp_loop_rounds 1 ?_
  rw [rounds_succ]
  go_wp2
  go_ret
  exact⟨by simp [cntSnap],⟨m1,a,c,rfl,mc,fun h=>absurd h (by omega)⟩,Turned.refl _ _⟩
 ·obtain⟨off,rfl,g2⟩:=g1 (by omega)
  clear g1
  have hm1:=m1
  unfold maxLen at m1
  have G2:=hideM g2
  have Hap:=hideM hap
  have Hk1:=hideM hk1
  clear g2 hap hk1
  go_enter Tryz.func44,Tryz.ntmps44
  go_wp2
  go_loopw [1,5] (fun m i wr=>∃k:Nat,k≤n∧i = .int .i64 k∧m = .int .i64 (cntSnap f k0 k)∧(∀j,j<n→SnapOwn wr bs (off+j*8) (kb j) (kv j) (if j<k then markSnapD f k0 j else f j))∧Turned (SnapsB bs kb n f) w wr) (fun _ i _=>n - (intOf i).toNat)
  case atStart=>exact⟨0,Nat.zero_le _,rfl,rfl,fun j hj=>by rw [stSnap_start]; exact G2.out j hj,Turned.refl _ _⟩
  case round=>
   obtain⟨k,hk,rfl,rfl,hall,ht⟩:=hrel
   have Hall:=hideM hall
   clear hall
   by_cases hlt:k<n
   ·have hlt':(k:Int)<(n:Int):=by omega
    have hs:=Hall.out k hlt
    rw [if_neg (by omega)] at hs
    have hc0:k0≤cntSnap f k0 k:=cntSnap_le f k0 (Nat.zero_le k)
    have hc1:cntSnap f k0 k+7+2*((f k).dn:Int)≤1000000000000:=Int.le_trans (cntSnap_le f k0 (show k+1≤n from hlt)) Hk1.out
    have Hs:=hideM hs
    obtain⟨-,ka,kc,hkv,-⟩:=hs.dead
    clear hs
    generalize hx:kv k=kvk at *
    have Hx:=hideM hx
    clear hx
    subst hkv
    obtain⟨⟨p0,p0'⟩,⟨p1,p1'⟩,⟨p2,p2'⟩,⟨p3,p3'⟩,⟨p4,p4'⟩,⟨p5,p5'⟩,⟨p6,p6'⟩,⟨p7,p7'⟩⟩:=And.intro Hs.out.c0 (And.intro Hs.out.c1 (And.intro Hs.out.c2 (And.intro Hs.out.c3 (And.intro Hs.out.c4 (And.intro Hs.out.c5 (And.intro Hs.out.c6 Hs.out.c7))))))
    have HR:=hideM (RowTurned.refl bs (off+k*8) 8 wr)
    go_wp2_with fail
    clear p0 p0' p1 p1' p2 p2' p3 p3' p4 p4' p5 p5' p6 p6' p7 p7'
    have C1a:=hideM (Hs.out.c0.set (.int .i64 (cntSnap f k0 k)))
    have C1b:=hideM (Hs.out.c1.other (b':=bs) (o':=off+k*8) (.int .i64 (cntSnap f k0 k)) (Or.inr (by omega)))
    have C1c:=hideM (Hs.out.c2.other (b':=bs) (o':=off+k*8) (.int .i64 (cntSnap f k0 k)) (Or.inr (by omega)))
    have C1d:=hideM (Hs.out.c3.other (b':=bs) (o':=off+k*8) (.int .i64 (cntSnap f k0 k)) (Or.inr (by omega)))
    have C1e:=hideM (Hs.out.c4.other (b':=bs) (o':=off+k*8) (.int .i64 (cntSnap f k0 k)) (Or.inr (by omega)))
    have C1f:=hideM (Hs.out.c5.other (b':=bs) (o':=off+k*8) (.int .i64 (cntSnap f k0 k)) (Or.inr (by omega)))
    have C1g:=hideM (Hs.out.c6.other (b':=bs) (o':=off+k*8) (.int .i64 (cntSnap f k0 k)) (Or.inr (by omega)))
    have C1h:=hideM (Hs.out.c7.other (b':=bs) (o':=off+k*8) (.int .i64 (cntSnap f k0 k)) (Or.inr (by omega)))
    have HR1:=hideM (HR.out.set (off+k*8) (.int .i64 (cntSnap f k0 k)) (by omega) (by omega))
    generalize (wr.setCell ⟨bs,off+k*8,none⟩ (.int .i64 (cntSnap f k0 k)))=Y1 at C1a C1b C1c C1d C1e C1f C1g C1h HR1 ⊢
    refine(markText_any _ Y1 (by omega)).mono ?_
    rintro e w1 ⟨rfl,hb1⟩
    have D1a:=hideM (C1a.out.below hb1)
    have D1b:=hideM (C1b.out.below hb1)
    have D1c:=hideM (C1c.out.below hb1)
    have D1d:=hideM (C1d.out.below hb1)
    have D1e:=hideM (C1e.out.below hb1)
    have D1f:=hideM (C1f.out.below hb1)
    have D1g:=hideM (C1g.out.below hb1)
    have D1h:=hideM (C1h.out.below hb1)
    have HS1:=hideM (HR1.out.below hb1)
    clear hb1 HR1 C1a C1b C1c C1d C1e C1f C1g C1h
    obtain⟨p0,p0'⟩:=D1a.out
    obtain⟨p1,p1'⟩:=D1b.out
    obtain⟨p2,p2'⟩:=D1c.out
    obtain⟨p3,p3'⟩:=D1d.out
    obtain⟨p4,p4'⟩:=D1e.out
    obtain⟨p5,p5'⟩:=D1f.out
    obtain⟨p6,p6'⟩:=D1g.out
    obtain⟨p7,p7'⟩:=D1h.out
    go_wp2_with fail
    clear p0 p0' p1 p1' p2 p2' p3 p3' p4 p4' p5 p5' p6 p6' p7 p7'
    have C2a:=hideM (D1a.out.other (b':=bs) (o':=off+k*8+1) (.string (mtF (cntSnap f k0 k+1))) (Or.inr (by omega)))
    have C2b:=hideM (D1b.out.set (.string (mtF (cntSnap f k0 k+1))))
    have C2c:=hideM (D1c.out.other (b':=bs) (o':=off+k*8+1) (.string (mtF (cntSnap f k0 k+1))) (Or.inr (by omega)))
    have C2d:=hideM (D1d.out.other (b':=bs) (o':=off+k*8+1) (.string (mtF (cntSnap f k0 k+1))) (Or.inr (by omega)))
    have C2e:=hideM (D1e.out.other (b':=bs) (o':=off+k*8+1) (.string (mtF (cntSnap f k0 k+1))) (Or.inr (by omega)))
    have C2f:=hideM (D1f.out.other (b':=bs) (o':=off+k*8+1) (.string (mtF (cntSnap f k0 k+1))) (Or.inr (by omega)))
    have C2g:=hideM (D1g.out.other (b':=bs) (o':=off+k*8+1) (.string (mtF (cntSnap f k0 k+1))) (Or.inr (by omega)))
    have C2h:=hideM (D1h.out.other (b':=bs) (o':=off+k*8+1) (.string (mtF (cntSnap f k0 k+1))) (Or.inr (by omega)))
    have HR2:=hideM (HS1.out.set (off+k*8+1) (.string (mtF (cntSnap f k0 k+1))) (by omega) (by omega))
    generalize (w1.setCell ⟨bs,off+k*8+1,none⟩ (.string (mtF (cntSnap f k0 k+1))))=Y2 at C2a C2b C2c C2d C2e C2f C2g C2h HR2 ⊢
    refine(markText_any _ Y2 (by omega)).mono ?_
    rintro e w2 ⟨rfl,hb2⟩
    have D2a:=hideM (C2a.out.below hb2)
    have D2b:=hideM (C2b.out.below hb2)
    have D2c:=hideM (C2c.out.below hb2)
    have D2d:=hideM (C2d.out.below hb2)
    have D2e:=hideM (C2e.out.below hb2)
    have D2f:=hideM (C2f.out.below hb2)
    have D2g:=hideM (C2g.out.below hb2)
    have D2h:=hideM (C2h.out.below hb2)
    have HS2:=hideM (HR2.out.below hb2)
    clear hb2 HR2 C2a C2b C2c C2d C2e C2f C2g C2h
    obtain⟨p0,p0'⟩:=D2a.out
    obtain⟨p1,p1'⟩:=D2b.out
    obtain⟨p2,p2'⟩:=D2c.out
    obtain⟨p3,p3'⟩:=D2d.out
    obtain⟨p4,p4'⟩:=D2e.out
    obtain⟨p5,p5'⟩:=D2f.out
    obtain⟨p6,p6'⟩:=D2g.out
    obtain⟨p7,p7'⟩:=D2h.out
    go_wp2_with fail
    clear p0 p0' p1 p1' p2 p2' p3 p3' p4 p4' p5 p5' p6 p6' p7 p7'
    have Ea:=hideM (((((D2a.out.other (b':=bs) (o':=off+k*8+2) (.string (mtF (cntSnap f k0 k+1+1))) (Or.inr (by omega))).other (b':=bs) (o':=off+k*8+3) (.int .i64 (cntSnap f k0 k+1+1+1)) (Or.inr (by omega))).other (b':=bs) (o':=off+k*8+4) (.int .i64 (cntSnap f k0 k+1+1+1+1)) (Or.inr (by omega))).other (b':=bs) (o':=off+k*8+5) (.int .i64 (cntSnap f k0 k+1+1+1+1+1)) (Or.inr (by omega))).other (b':=bs) (o':=off+k*8+5+1) (.int .i64 (cntSnap f k0 k+1+1+1+1+1+1)) (Or.inr (by omega)))
    have Eb:=hideM (((((D2b.out.other (b':=bs) (o':=off+k*8+2) (.string (mtF (cntSnap f k0 k+1+1))) (Or.inr (by omega))).other (b':=bs) (o':=off+k*8+3) (.int .i64 (cntSnap f k0 k+1+1+1)) (Or.inr (by omega))).other (b':=bs) (o':=off+k*8+4) (.int .i64 (cntSnap f k0 k+1+1+1+1)) (Or.inr (by omega))).other (b':=bs) (o':=off+k*8+5) (.int .i64 (cntSnap f k0 k+1+1+1+1+1)) (Or.inr (by omega))).other (b':=bs) (o':=off+k*8+5+1) (.int .i64 (cntSnap f k0 k+1+1+1+1+1+1)) (Or.inr (by omega)))
    have Ec:=hideM (((((D2c.out.set (.string (mtF (cntSnap f k0 k+1+1)))).other (b':=bs) (o':=off+k*8+3) (.int .i64 (cntSnap f k0 k+1+1+1)) (Or.inr (by omega))).other (b':=bs) (o':=off+k*8+4) (.int .i64 (cntSnap f k0 k+1+1+1+1)) (Or.inr (by omega))).other (b':=bs) (o':=off+k*8+5) (.int .i64 (cntSnap f k0 k+1+1+1+1+1)) (Or.inr (by omega))).other (b':=bs) (o':=off+k*8+5+1) (.int .i64 (cntSnap f k0 k+1+1+1+1+1+1)) (Or.inr (by omega)))
    have Ed:=hideM (((((D2d.out.other (b':=bs) (o':=off+k*8+2) (.string (mtF (cntSnap f k0 k+1+1))) (Or.inr (by omega))).set (.int .i64 (cntSnap f k0 k+1+1+1))).other (b':=bs) (o':=off+k*8+4) (.int .i64 (cntSnap f k0 k+1+1+1+1)) (Or.inr (by omega))).other (b':=bs) (o':=off+k*8+5) (.int .i64 (cntSnap f k0 k+1+1+1+1+1)) (Or.inr (by omega))).other (b':=bs) (o':=off+k*8+5+1) (.int .i64 (cntSnap f k0 k+1+1+1+1+1+1)) (Or.inr (by omega)))
    have Ee:=hideM (((((D2e.out.other (b':=bs) (o':=off+k*8+2) (.string (mtF (cntSnap f k0 k+1+1))) (Or.inr (by omega))).other (b':=bs) (o':=off+k*8+3) (.int .i64 (cntSnap f k0 k+1+1+1)) (Or.inr (by omega))).set (.int .i64 (cntSnap f k0 k+1+1+1+1))).other (b':=bs) (o':=off+k*8+5) (.int .i64 (cntSnap f k0 k+1+1+1+1+1)) (Or.inr (by omega))).other (b':=bs) (o':=off+k*8+5+1) (.int .i64 (cntSnap f k0 k+1+1+1+1+1+1)) (Or.inr (by omega)))
    have Ef:=hideM (((((D2f.out.other (b':=bs) (o':=off+k*8+2) (.string (mtF (cntSnap f k0 k+1+1))) (Or.inr (by omega))).other (b':=bs) (o':=off+k*8+3) (.int .i64 (cntSnap f k0 k+1+1+1)) (Or.inr (by omega))).other (b':=bs) (o':=off+k*8+4) (.int .i64 (cntSnap f k0 k+1+1+1+1)) (Or.inr (by omega))).set (.int .i64 (cntSnap f k0 k+1+1+1+1+1))).other (b':=bs) (o':=off+k*8+5+1) (.int .i64 (cntSnap f k0 k+1+1+1+1+1+1)) (Or.inr (by omega)))
    have Eg:=hideM (((((D2g.out.other (b':=bs) (o':=off+k*8+2) (.string (mtF (cntSnap f k0 k+1+1))) (Or.inr (by omega))).other (b':=bs) (o':=off+k*8+3) (.int .i64 (cntSnap f k0 k+1+1+1)) (Or.inr (by omega))).other (b':=bs) (o':=off+k*8+4) (.int .i64 (cntSnap f k0 k+1+1+1+1)) (Or.inr (by omega))).other (b':=bs) (o':=off+k*8+5) (.int .i64 (cntSnap f k0 k+1+1+1+1+1)) (Or.inr (by omega))).set (.int .i64 (cntSnap f k0 k+1+1+1+1+1+1)))
    have Eh:=hideM (((((D2h.out.other (b':=bs) (o':=off+k*8+2) (.string (mtF (cntSnap f k0 k+1+1))) (Or.inr (by omega))).other (b':=bs) (o':=off+k*8+3) (.int .i64 (cntSnap f k0 k+1+1+1)) (Or.inr (by omega))).other (b':=bs) (o':=off+k*8+4) (.int .i64 (cntSnap f k0 k+1+1+1+1)) (Or.inr (by omega))).other (b':=bs) (o':=off+k*8+5) (.int .i64 (cntSnap f k0 k+1+1+1+1+1)) (Or.inr (by omega))).other (b':=bs) (o':=off+k*8+5+1) (.int .i64 (cntSnap f k0 k+1+1+1+1+1+1)) (Or.inr (by omega)))
    have HRE:=hideM (((((HS2.out.set (off+k*8+2) (.string (mtF (cntSnap f k0 k+1+1))) (by omega) (by omega)).set (off+k*8+3) (.int .i64 (cntSnap f k0 k+1+1+1)) (by omega) (by omega)).set (off+k*8+4) (.int .i64 (cntSnap f k0 k+1+1+1+1)) (by omega) (by omega)).set (off+k*8+5) (.int .i64 (cntSnap f k0 k+1+1+1+1+1)) (by omega) (by omega)).set (off+k*8+5+1) (.int .i64 (cntSnap f k0 k+1+1+1+1+1+1)) (by omega) (by omega))
    generalize (((((w2.setCell ⟨bs,off+k*8+2,none⟩ (.string (mtF (cntSnap f k0 k+1+1)))).setCell ⟨bs,off+k*8+3,none⟩ (.int .i64 (cntSnap f k0 k+1+1+1))).setCell ⟨bs,off+k*8+4,none⟩ (.int .i64 (cntSnap f k0 k+1+1+1+1))).setCell ⟨bs,off+k*8+5,none⟩ (.int .i64 (cntSnap f k0 k+1+1+1+1+1))).setCell ⟨bs,off+k*8+5+1,none⟩ (.int .i64 (cntSnap f k0 k+1+1+1+1+1+1)))=Y at Ea Eb Ec Ed Ee Ef Eg Eh HRE ⊢
    refine(markPtrS_any (kb k) _ (f k).dn (f k).ds (f k).db _ Y (Hs.out.dead.turned HRE.out.turned (fun h0 hx=>Hs.out.apart h0 hx)) (by omega) (by omega)).mono ?_
    rintro e wz ⟨rfl,hpz,htz⟩
    have Hpz:=hideM hpz
    have Htz:=hideM htz
    clear hpz htz
    go_wp2
    go_roundw
    case rel=>
     refine⟨k+1,by omega,by go_num,congrArg (Value.int .i64) (by show _=cntSnap f k0 k+7+2*((f k).dn:Int); omega),fun j hj=>?_,?_⟩
     ·have st:=Snap_step (s:=markSnapD f k0 k) Hall.out (by
        intro i j hi hj hij h1 h2
        rw [stSnap_dn] at h1 h2
        exact Hap.out i j hi hj hij h1 h2) hlt HRE.out (by rw [if_neg (Nat.lt_irrefl k)]; exact Htz.out) Ea.out Eb.out Ec.out Ed.out Ee.out Ef.out Eg.out (by rw [Hx.out]; exact Eh.out) (by rw [if_neg (Nat.lt_irrefl k)]; rfl) (by rw [Hx.out]; exact Hpz.out) ⟨mtF_size (by omega),mtF_size (by omega)⟩ j hj
      by_cases e:j=k
      ·subst e
       rw [if_pos rfl] at st
       rw [if_pos (by omega)]
       exact st
      ·rw [if_neg e] at st
       by_cases e2:j<k
       ·rw [if_pos e2] at st; rw [if_pos (by omega)]; exact st
       ·rw [if_neg e2] at st; rw [if_neg (by omega)]; exact st
     ·refine(ht.trans (HRE.out.turned.mono ?_)).trans (Htz.out.mono ?_)
      ·rintro b rfl
       exact Or.inl ⟨by omega,rfl⟩
      ·rintro b ⟨hb,rfl⟩
       exact Or.inr ⟨k,hlt,hb,rfl⟩
    case measure=>simp [intOf]; omega
   ·obtain rfl:k=n:=by omega
    go_wp2
    go_ret
    refine⟨rfl,⟨hm1,_,c,rfl,mc,fun _=>⟨off,rfl,fun i hi=>?_⟩⟩,ht⟩
    have:=Hall.out i hi
    rw [if_pos hi] at this
    exact this
end Go.Proofs.YtmgeglgboadfiaaGreatDoor

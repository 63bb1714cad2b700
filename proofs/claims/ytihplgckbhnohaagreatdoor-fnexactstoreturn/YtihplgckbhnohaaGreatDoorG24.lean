/- 'm[k]++' on a map of one's own: the entry is made, the element stored (no law is proved here). -/
import Derived.Test.YtihplgckbhnohaaGreatDoorG19
import Derived.WideKeyEntry
import Derived.Test.YtihplgckbhnohaaGreatDoorG14
import Derived.Test.YtihplgckbhnohaaGreatDoorG6
import Derived.Test.YtihplgckbhnohaaGreatDoorG9
import Derived.Test.YtihplgckbhnohaaGreatDoorG22
import Derived.Deep.LoopGhost
import Derived.BigRegion
import Derived.Test.YtihplgckbhnohaaGreatDoorG23
import Derived.Test.YtihplgckbhnohaaGreatDoorG11
import Derived.Test.YtihplgckbhnohaaGreatDoorG3
namespace Go.Proofs.YtihplgckbhnohaaGreatDoor
open Go Go.RowKit Go.Maps
open Go.ChangeMaps Go.MapKept
open Go.WideElems (Fit rd rg pl rd_val elemAt findIdx_arr findIdx_born modify_last set_self)
open Go.WideMaps (KeyLaw)
set_option linter.unusedVariables false
theorem setBlock_twice(w:World)(b:Nat)(o o':Obj):setBlock(setBlock w b o)b o'=setBlock w b o':=by simp [setBlock]
theorem setBlock_same{w:World}{b:Nat}{o:Obj}(h:w.heap[b]?=some o):setBlock w b o=w:=by
 have e:w.heap.setIfInBounds b o=w.heap:=by
  apply Array.ext_getElem?
  intro i
  by_cases hi:i=b
  ·subst hi
   rw [Array.getElem?_setIfInBounds_self_of_lt(Array.getElem?_eq_some_iff.1 h).1]
   exact h.symm
  ·rw [Array.getElem?_setIfInBounds_ne(fun e=>hi e.symm)]
 unfold setBlock
 rw [e]
theorem grown_setBlock{w:World}{b:Nat}{es es':Array MapEntry}{c c':Nat}(hb:w.heap[b]?=some(.map es c)):w.grownBy(setBlock w b(.map es' c'))(some b):=
 ⟨rfl,rfl,rfl,by simp [setBlock],fun i _ hi=>heap_setBlock_other hb _(fun e=>hi(by rw [e]))⟩
theorem entry_own{P:Program}{k e t:TypeId}{w:World}{b n:Nat}{D:DataW Value}(h:w.ownsMap P k rawE b n D)(K0:KeyLaw P k)(ht:P.underlying t=some(.map k e))(hn:n<maxLen){z:Value}(hz:∀u:World,(zeroValue e).run P u = .ok z u)
  {key val v:Value}{kl:Lit}(hkey:keyOf P k key=some kl)(hat:D.atKey kl(.held z) = .held v) :
  ∃(v0:Value)(st:Nat)(w1 w2:World),(Instr.mapEntry t(.map(some b))key).run P w = .ok(.tuple #[v0,goInt st])w1∧(Instr.lookup t(.map(some b))key false).run P w1 = .ok v w1∧(Instr.entryStore t(.map(some b))(goInt st)val).run P w1 = .ok()w2∧w2.ownsMap P k rawE b(n+1)(D.put kl(.held val))∧w.grownBy w1(some b)∧w.grownBy w2(some b):=by
 have K:=Keyed.of_law K0
 obtain⟨w',hup,hown',hg'⟩:=h.update K ht hn hkey(rawE_mk val)
 obtain⟨wz,hupz,hownz,hgz⟩:=h.update K ht hn hkey(rawE_mk z)
 have hlook:=h.lookup K ht(hz w)(rawE_mk z)hkey
 obtain⟨es,clock,hb,F,hs,hD⟩:=h
 obtain⟨v0,st,es1,c1,hent,hor,hst⟩:=WideElems.entry_then_store K0 ht hz hb F hkey
 have hb1:(setBlock w b(.map es1 c1)).heap[b]?=some(.map es1 c1):=heap_setBlock_same hb _
 obtain⟨es2,c2,hr2,hu2⟩:=hst _ val hb1
 have e2:setBlock(setBlock w b(.map es1 c1))b(.map es2 c2)=w':=by
  rw [setBlock_twice]
  rw [hu2] at hup
  injection hup
 refine⟨v0,st,setBlock w b(.map es1 c1),w',hent,?_,by rw [←e2]; exact hr2,hown',grown_setBlock hb,hg'⟩
 obtain⟨v',ps,hl,hv'⟩:=hlook
 have ev:v'=v:=by
  have e1:=rawE_inv hv'
  rw [hat] at e1
  injection e1 with e1
  exact e1.symm
 subst ev
 suffices hh:∀ww:World,ww=setBlock w b(.map es1 c1)→(Instr.lookup t(.map(some b))key false).run P ww = .ok v' ww from hh _ rfl
 intro ww hww
 rcases K0.find w hkey es.toList F.keys with⟨h1,h2⟩ | ⟨j,e0,h1,h2,h3⟩
 ·-- it was not there: behind the entry it is there with the zero value
  have hz1:setBlock w b(.map es1 c1)=wz:=by
   have hm:(Instr.mapEntry t(.map(some b))key).run P w = .ok(.tuple #[z,goInt clock])(setBlock w b(.map(es.push⟨key,z,clock⟩)(clock+1))):=by
    simp [Instr.mapEntry,run_underlying ht,MapKept.run_getObj_map hb,K0.check w false hkey,h1,hz,MapKept.run_setObj_map _ hb,Result.andThen,setBlock]
   have hu:(Instr.mapUpdate t(.map(some b))key z).run P w = .ok()(setBlock w b(.map(es.push⟨key,z,clock⟩)(clock+1))):=by
    simp [Instr.mapUpdate,run_underlying ht,MapKept.run_getObj_map hb,K0.check w false hkey,h1,MapKept.run_setObj_map _ hb,Result.andThen,setBlock]
   rw [hent] at hm
   rw [hupz] at hu
   injection hm with _ hm
   injection hu with _ hu
   rw [hm,hu]
  obtain rfl:ww=wz:=hww.trans hz1
  obtain⟨v2,ps2,hl2,hv2⟩:=hownz.lookup K ht(hz _)(rawE_mk z)hkey
  have e3:=rawE_inv hv2
  rw [atKey_put_same(show IsMap D from⟨_,hD⟩)(K.key hkey)] at e3
  replace e3:=DataW.held.inj e3
  have e4:v'=z:=by
   have hl0:(Instr.lookup t(.map(some b))key false).run P w = .ok z w:=by
    rcases Maps.fit_look false K ht(hz w)hb F hkey with⟨hrun,_,_⟩ | ⟨e0,y,hm0,hk0,_,_,_,_⟩
    ·exact hrun
    ·exact absurd hk0(h2 e0 hm0)
   rw [hl0] at hl
   injection hl with hl _
   exact hl.symm
  subst e3
  subst e4
  exact hl2
 ·-- it was there: the entry leaves the map as it was
  have hj:es[j]?=some e0:=by simpa using h2
  have hsame:es.modify j(fun e=>{e with key:=key})=es:=by
   apply Array.ext'
   rw [Array.toList_modify,modify_eq_set _ _ _ _ h2]
   have:({e0 with key:=key}:MapEntry)=e0:=by rw [←h3]
   rw [this]
   exact set_self _ _ _ h2
  have hm:(Instr.mapEntry t(.map(some b))key).run P w = .ok(.tuple #[e0.val,goInt e0.born])(setBlock w b(.map es clock)):=by
   simp [Instr.mapEntry,run_underlying ht,MapKept.run_getObj_map hb,K0.check w false hkey,h1,hj,h3,K0.stays w hkey,hsame,MapKept.run_setObj_map _ hb,Result.andThen,setBlock]
  rw [hent,setBlock_same hb] at hm
  obtain rfl:ww=w:=hww.trans(Result.ok.inj hm).2
  exact hl
end Go.Proofs.YtihplgckbhnohaaGreatDoor

namespace Go.Proofs.YtihplgckbhnohaaGreatDoor
open Go.RowKit Go.Maps
set_option linter.unusedVariables false
theorem youngM_len(W:WorldD)(m:MemD):(youngM W m).length≤73:=by
 unfold youngM youngF treeM
 exact Nat.le_trans(List.length_filter_le _ _)(treeL_len _ _ _)
theorem homes_len(W:WorldD):∀k,(homesL W k).length≤73*k
 | 0=>by simp [homesL]
 | k+1=>by
  have h1:=homes_len W k
  have h2:=youngM_len W(memOf W k)
  unfold homesL
  rw [List.length_append]
  omega
theorem homes_pre(W:WorldD){k:Nat}:∀{n:Nat},k≤n→∃l,homesL W n=homesL W k ++ l
 | 0,h=>⟨[],by obtain rfl:k=0:=by omega
          simp⟩
 | n+1,h=>by
  by_cases e:k=n+1
  ·subst e; exact⟨[],by simp⟩
  ·obtain⟨l,hl⟩:=homes_pre W(k:=k)(n:=n)(by omega)
   exact⟨l ++ youngM W(memOf W n),by rw [show homesL W(n+1)=homesL W n ++ youngM W(memOf W n)from rfl,hl,List.append_assoc]⟩
theorem homes_at(W:WorldD){k n j:Nat}(hk:k<n)(hj:j<(youngM W(memOf W k)).length):(homesL W k).length+j<(homesL W n).length∧(homesL W n).getD((homesL W k).length+j)(0,0)=(youngM W(memOf W k)).getD j(0,0):=by
 obtain⟨l,hl⟩:=homes_pre W(k:=k+1)(n:=n)(by omega)
 rw [hl,show homesL W(k+1)=homesL W k ++ youngM W(memOf W k)from rfl]
 constructor
 ·simp only [List.length_append]; omega
 ·rw [List.getD_eq_getElem?_getD,List.getD_eq_getElem?_getD,List.append_assoc,List.getElem?_append_right(by omega),show(homesL W k).length+j - (homesL W k).length=j by omega,List.getElem?_append_left hj]
def pairV(x:Int×Int):Value:=.agg #[.int .i64 x.1,.int .i64 x.2]
structure HomeKeys(W:WorldD)(key:Nat→Lit):Prop where
 ok:KeysOk key
 at_:∀i,i<(homesL W(memN W)).length→keyOf Tryz.prog 88(pairV((homesL W(memN W)).getD i(0,0)))=some(key i)
theorem homes_points{W:WorldD}(hR:Right W.pool)(hT:∀i,i<memN W→TreeOk W.pool(memOf W i).rs(memOf W i).rb){x:Int×Int}(hx:x∈homesL W(memN W)):Points W.pool x.1 x.2:=by
 obtain⟨i,hi,h⟩:=mem_homes.1 hx
 unfold youngM youngF treeM at h
 exact(tree_mem hR(hT i hi)(List.mem_filter.1 h).1).1
theorem getD_mem{l:List(Int×Int)}{i:Nat}(h:i<l.length):l.getD i(0,0)∈l:=by
 rw [List.getD_eq_getElem?_getD,List.getElem?_eq_getElem h,Option.getD_some]
 exact List.getElem_mem h
theorem home_keys{W:WorldD}(hR:Right W.pool)(hT:∀i,i<memN W→TreeOk W.pool(memOf W i).rs(memOf W i).rb):∃key,HomeKeys W key:=by
 have hkx:∀i,∃l,WideAt.IsKeyLit l∧(i<(homesL W(memN W)).length→keyOf Tryz.prog 88(pairV((homesL W(memN W)).getD i(0,0)))=some l):=fun i=>by
  by_cases hi':i<(homesL W(memN W)).length
  ·have hp:=homes_points hR hT(getD_mem hi')
   generalize(homesL W(memN W)).getD i(0,0)=x at hp ⊢
   have hf:=(points_fits hR hp).1
   have h200:=hR.1
   obtain⟨h1,h2,h3,h4⟩:=hp
   rw [h4] at hf
   obtain⟨f1,f2⟩:=hf
   obtain⟨l,hl⟩:=keyP_of(x:=x.1)(y:=x.2)(WalkArith.wf_i64(by omega))(WalkArith.wf_i64(by omega))
   exact⟨l,lawP.key hl,fun _=>hl⟩
  ·exact⟨.string [],trivial,fun h=>absurd h hi'⟩
 exact⟨fun i=>(hkx i).choose,fun i=>(hkx i).choose_spec.1,fun i=>(hkx i).choose_spec.2⟩
theorem pairV_inj{x y:Int×Int}(h:pairV x=pairV y):x=y:=by
 unfold pairV at h
 simp only [Value.agg.injEq,Array.mk.injEq,List.cons.injEq,Value.int.injEq,true_and,and_true] at h
 exact Prod.ext h.1 h.2
theorem HomeKeys.same{W:WorldD}{key:Nat→Lit}(h:HomeKeys W key){i j:Nat}(hi:i<(homesL W(memN W)).length)(hj:j<(homesL W(memN W)).length):key i=key j↔(homesL W(memN W)).getD i(0,0)=(homesL W(memN W)).getD j(0,0):=by
 have h1:=h.at_ i hi
 have h2:=h.at_ j hj
 constructor
 ·intro e
  rw [e] at h1
  exact pairV_inj(lawP.inj h1 h2)
 ·intro e
  rw [e,h2] at h1
  exact(Option.some.inj h1).symm
theorem HomeKeys.dist{W:WorldD}{key:Nat→Lit}(h:HomeKeys W key):DistL(homesL W(memN W)).length key↔(homesL W(memN W)).Nodup:=by
 rw [List.Nodup,List.pairwise_iff_getElem]
 have hg:∀i(hi:i<(homesL W(memN W)).length),(homesL W(memN W)).getD i(0,0)=(homesL W(memN W))[i]:=fun i hi=>by rw [List.getD_eq_getElem?_getD,List.getElem?_eq_getElem hi,Option.getD_some]
 constructor
 ·intro hd i j hi hj hij e
  refine hd j hj i hij((h.same hi hj).2 ?_)
  rw [hg i hi,hg j hj]
  exact e
 ·intro hd i hi k hk e
  have:=(h.same(by omega)hi).1 e
  rw [hg k(by omega),hg i hi] at this
  exact hd k i(by omega)hi hk this
def homeD(key:Nat→Lit)(p:Nat):DataW Value:=putD key(fun _=>.int .i64 1)p
theorem HomeKeys.new{W:WorldD}{key:Nat→Lit}{p:Nat}(hn:∀i,i<p→key i≠key p)(h:HomeKeys W key):(homeD key p).atKey(key p)(.held(.int .i64 0)) = .held(.int .i64 0):=putD_none h.ok _ hn _
theorem HomeKeys.old{W:WorldD}{key:Nat→Lit}{p i:Nat}(hi:i<p)(he:key i=key p)(hd:DistL p key)(h:HomeKeys W key):(homeD key p).atKey(key p)(.held(.int .i64 0)) = .held(.int .i64 1):=by
 rw [←he]
 exact putD_at h.ok _ _ p i hi(fun j h1 h2 e=>hd j h2 i h1 e.symm)
theorem HomeKeys.put{W:WorldD}{key:Nat→Lit}(h:HomeKeys W key)(p:Nat)(v:Value):((homeD key p).put(key p)(.held v)).atKey(key p)(.held(.int .i64 0)) = .held v:=atKey_put_same(putD_tidy h.ok _ p).isMap(h.ok p)_ _
theorem HomeKeys.not_nodup{W:WorldD}{key:Nat→Lit}{p i:Nat}(hi:i<p)(hp:p<(homesL W(memN W)).length)(he:key i=key p)(h:HomeKeys W key):¬(homesL W(memN W)).Nodup:=fun hn=>h.dist.2 hn p hp i hi he
theorem HomeKeys.size{W:WorldD}{key:Nat→Lit}(h:HomeKeys W key){p:Nat}(hd:DistL p key):Maps.size(homeD key p)=p:=(putD_size h.ok _ p).2.2 hd
end Go.Proofs.YtihplgckbhnohaaGreatDoor

namespace Go.Proofs.YtihplgckbhnohaaGreatDoor
open Go.RowKit
set_option linter.unusedVariables false
set_option maxRecDepth 20000 in
set_option maxHeartbeats 1000000 in
theorem implPoolRoom_any(v0 v1:Value)(lo hi:Nat)(p:PoolD)(w:World)(h1:PoolAt w lo hi v0 v1 p) :
  Calls Tryz.prog 145 #[.agg #[v0,v1]] w fun e w'=>e = .returned(.int .i64(roomP p))∧Below w.heap.size w w':=by
 have Hp:Hid(PoolAt w lo hi v0 v1 p):=h1
 obtain⟨⟨m1,a,c,rfl,mc,g1⟩,⟨m2,a',c',rfl,mc',g2⟩⟩:=h1
 unfold maxLen at m1 m2
 clear g1 g2
 have ha:=below_alloc w(.cells #[.slice a p.n c,.slice a' p.hn c'] 35)
 go_enter Tryz.func145,Tryz.ntmps145
 go_wp2_with fail
 refine(implPoolRight_any _ _ lo hi p _(Hp.out.below ha)).mono ?_
 rintro e w1⟨⟨t,rfl,ht⟩,hb1⟩
 have Hx:Hid(Box2 w1 w.heap.size(.slice a p.n c)(.slice a' p.hn c')):=(Box2.new w _ _ _).below hb1
 have hbn:=below_next ha hb1
 clear ha hb1
 by_cases hR:Right p
 ·obtain rfl:t=true:=ht.2 hR
  have HR:Hid(Right p):=hR
  have hn200:(p.n:Int)≤200:=by have:=hR.1; omega
  clear ht hR
  obtain⟨⟨y0,y1⟩,⟨y2,y3⟩⟩:=Hx.out
  have HRo:Hid(roomP p=(roomN p.s p.n:Int)):=if_pos HR.out
  have HB:Hid(Below w.heap.size w w1):=hbn
  go_wp2
  clear y0 y1 y2 y3 hbn
  go_loopw [3,12](fun m i wr=>∃k:Nat,k≤p.n∧i = .int .i64 k∧m = .int .i64(roomN p.s k:Int)∧Below w.heap.size w wr)(fun _ i _=>p.n - (intOf i).toNat)
  case atStart=>exact⟨0,Nat.zero_le _,rfl,rfl,HB.out⟩
  case round=>
   obtain⟨k,hk,rfl,rfl,hb⟩:=hrel
   have hrn:=roomN_le p.s k
   by_cases hlt:k<p.n
   ·have hlt':(k:Int)<(p.n:Int):=by omega
    obtain⟨b,off,ka,kc,rfl,hs⟩:=(Hp.out.1.below hb).cells hlt
    have Hs:Hid(SlotCells wr b(off+k*3)lo hi ka kc(p.s k)):=hs
    obtain⟨q0,q1,q2,_⟩:=hs
    go_wp2_with fail
    have hal:=below_alloc wr(.cells #[.int .i64(p.s k).birth,.slice ka(p.s k).kn kc,.string(p.s k).data] 66)
    refine(isFree_any _ _ _ lo hi(p.s k)_(Hs.out.slot.below hal)).mono ?_
    rintro e w2⟨⟨t,rfl,ht⟩,hb1⟩
    have hbm:=below_next hb(below_next hal hb1)
    clear hb1 q0 q1 q2 Hs hal
    by_cases hf:Free(p.s k)
    ·obtain rfl:t=true:=ht.2 hf
     have HF:Hid(Free(p.s k)):=hf
     clear ht hf
     go_wp2
     go_roundw
     case rel=>exact⟨k+1,by omega,by go_num,congrArg(Value.int .i64)(by rw [roomN_yes HF.out]; omega),hbm⟩
     case measure=>simp [intOf]; omega
    ·obtain rfl:t=false:=bool_no ht hf
     have HF:Hid(¬Free(p.s k)):=hf
     clear ht hf
     go_wp2
     go_roundw
     case rel=>exact⟨k+1,by omega,by go_num,congrArg(Value.int .i64)(by rw [roomN_no HF.out]),hbm⟩
     case measure=>simp [intOf]; omega
   ·obtain rfl:k=p.n:=by omega
    go_wp2
    go_ret
    exact⟨by rw [HRo.out]; rfl,hb⟩
 ·obtain rfl:t=false:=bool_no ht hR
  have HR:Hid(¬Right p):=hR
  clear ht hR
  go_wp2
  go_ret
  refine⟨?_,hbn⟩
  have e:roomP p=0:=if_neg HR.out
  rw [e]
  rfl
end Go.Proofs.YtihplgckbhnohaaGreatDoor

namespace Go.Proofs.YtihplgckbhnohaaGreatDoor
open Go.RowKit Go.Maps
set_option linter.unusedVariables false
theorem cell_side{P:Program}{k:TypeId}{w w1:World}{M n g o:Nat}{D:DataW Value}{v:Value}(hg:w.grownBy w1(some M))(hm:w.ownsMap P k rawE M n D)(h:w.cell?⟨g,o,none⟩=some v):w1.cell?⟨g,o,none⟩=some v:=by
 refine(hg.cell_far⟨g,o,none⟩(lt_of_cell h)?_).trans h
 intro e
 simp only [Option.some.injEq] at e
 subst e
 obtain⟨es,clock,hb,-⟩:=hm
 simp [World.cell?,hb] at h
theorem grown_next{w w1 w2:World}{row:Option Nat}(h:w.grownBy w1 row)(k:w1.grownBy w2 row):w.grownBy w2 row:=
 ⟨k.os.trans h.os,k.tape.trans h.tape,k.output.trans h.output,Nat.le_trans h.size k.size,fun i hi hne=>(k.block i(Nat.lt_of_lt_of_le hi h.size)hne).trans(h.block i hi hne)⟩
theorem MemsAt.side{P:Program}{kt:TypeId}{w w1:World}{M n lo hi:Nat}{D:DataW Value}{v:Value}{W:WorldD}{vd:Nat→Value}(h:MemsAt w lo hi v W vd)(hg:w.grownBy w1(some M))(hm:w.ownsMap P kt rawE M n D)(i:Nat)(hi':i<memN W) :
  ∃g c,v = .slice(some⟨g,0,none⟩)(memN W)c∧w1.cell?⟨g,i*5,none⟩=some(.int .i64(memOf W i).prev)∧w1.cell?⟨g,i*5+1,none⟩=some(.int .i64(memOf W i).time)∧w1.cell?⟨g,i*5+2,none⟩=some(.int .i64(memOf W i).rs)∧w1.cell?⟨g,i*5+3,none⟩=some(.int .i64(memOf W i).rb)∧w1.cell?⟨g,i*5+4,none⟩=some(vd i):=by
 obtain⟨g,c,e,h0,h1,h2,h3,h4⟩:=h.cells i hi'
 exact⟨g,c,e,cell_side hg hm h0,cell_side hg hm h1,cell_side hg hm h2,cell_side hg hm h3,cell_side hg hm h4⟩
theorem Box6.side{w w1:World}{M b:Nat}{a0 a1 a2 a3 a4 a5:Value}(h:Box6 w b a0 a1 a2 a3 a4 a5)(hg:w.grownBy w1(some M))(hne:b≠M):Box6 w1 b a0 a1 a2 a3 a4 a5:=by
 obtain⟨h0,h1,h2,h3,h4,h5⟩:=h
 have hc:∀{o:Nat}{v:Value},Cell w b o v→Cell w1 b o v:=fun hc=>⟨(hg.cell_far _(lt_of_cell hc.1)(fun e=>hne(Option.some.inj e))).trans hc.1,(hg.frozen_far _(lt_of_cell hc.1)(fun e=>hne(Option.some.inj e))).trans hc.2⟩
 exact⟨hc h0,hc h1,hc h2,hc h3,hc h4,hc h5⟩
theorem field_time(v:Value)(s:SnapD)(w:World):(Instr.field 92(snapV v s)4).run Tryz.prog w = .ok(.int .i64 s.time)w:=by kernel_rfl
theorem lawP0:Go.WideMaps.KeyLaw Tryz.prog 88:=deep_law_laid laidW(m:=5)(by decide)(lessW(by kernel_rfl))(by kernel_rfl)(by kernel_rfl)
theorem homesT:Tryz.prog.underlying 198=some(.map 88 2):=by kernel_rfl
theorem zeroI(w:World):(zeroValue 2).run Tryz.prog w = .ok(.int .i64 0)w:=by kernel_rfl
theorem wrap_small{n:Int}(h0:-9223372036854775808≤n)(h1:n<9223372036854775808):IntKind.i64.wrap n=n:=by
 unfold IntKind.wrap
 simp only [IntKind.signed,IntKind.bits,Bool.true_and]
 split
 ·rename_i hc
  have hc':=of_decide_eq_true hc
  omega
 ·rename_i hc
  have hc':=of_decide_eq_false(Bool.eq_false_iff.2 hc)
  omega
theorem homes_bool{N n r h:Nat}(hr:r≤n)(hn:n≤200)(hh:h≤9223372036854775807):((N:Int) == IntKind.i64.wrap(IntKind.i64.wrap((n:Int) - (r:Int)) - (h:Int)))=true↔N+r+h=n:=by
 have e1:IntKind.i64.wrap((n:Int) - (r:Int))=(n:Int) - (r:Int):=wrap_small(by omega)(by omega)
 rw [e1]
 have e2:IntKind.i64.wrap((n:Int) - (r:Int) - (h:Int))=(n:Int) - (r:Int) - (h:Int):=wrap_small(by omega)(by omega)
 rw [e2,beq_iff_eq]
 omega
theorem hownLook{w:World}{b n:Nat}{D:DataW Value}{ky v:Value}{kl:Lit}(h:w.ownsMap Tryz.prog 88 rawE b n D)(hkey:keyOf Tryz.prog 88 ky=some kl)(hat:D.atKey kl(.held(.int .i64 0)) = .held v):(Instr.lookup 198(.map(some b))ky false).run Tryz.prog w = .ok v w:=by
 obtain⟨v',ps,hrun,hv⟩:=h.lookup lawP homesT(zeroI w)(rawE_mk _)hkey
 have e1:=rawE_inv hv
 rw [hat] at e1
 obtain rfl:=DataW.held.inj e1
 exact hrun
set_option maxRecDepth 20000 in
set_option maxHeartbeats 400000 in
theorem homesRight_any(v0 v1 v2 v3:Value)(lo hi:Nat)(W:WorldD)(A:Nat)(w:World)(h:WorldAt w lo hi v0 v1 v2 v3 W)(hs:W.sn≤8)(hp:W.pn≤20)(hA:AheadFn w lo hi W A)(hD:IdsDist W)(hwf:PrevsWf W)(hR:Right W.pool)(hT:TimesOk W)(hTr:∀i,i<memN W→TreeOk W.pool(memOf W i).rs(memOf W i).rb) :
  Calls Tryz.prog 125 #[worldV v0 v1 v2 v3 W,aheadV A] w fun e w'=>BoolIs(HomesOk W)e∧Below w.heap.size w w':=by
 obtain⟨key,hK⟩:=home_keys hR hTr
 have HK:=hideW hK
 have Hp:=hideW h
 have HA:=hideW hA
 have HD:=hideW hD
 have Hwf:=hideW hwf
 have HR:=hideW hR
 have HTm:=hideW hT
 have HTr:=hideW hTr
 clear h hA hD hwf hR hT hTr hK
 have ha:=below_alloc w(.cells #[v0,v1,.int .i64 W.time,.int .i64 W.next,v2,v3] 39)
 have HB:=hideW(Box6.new w v0 v1(.int .i64 W.time)(.int .i64 W.next)v2 v3 39)
 have hz1:(w.alloc(.cells #[v0,v1,.int .i64 W.time,.int .i64 W.next,v2,v3] 39)).heap.size=w.heap.size+1:=World.size_alloc _ _
 have hm:=World.ownsMap_made(w.alloc(.cells #[v0,v1,.int .i64 W.time,.int .i64 W.next,v2,v3] 39))Tryz.prog 88 rawE
 rw [hz1] at hm
 have HM:=hideW hm
 have HB2:=hideW(HB.out.below(below_alloc _(.map #[] 0)))
 have Hb2:=hideW(below_next ha(below_alloc _(.map #[] 0)))
 have hmm:=@run_makeMap Tryz.prog
 obtain⟨⟨x0,-⟩,⟨x2,-⟩,⟨x4,-⟩,⟨x6,-⟩,⟨x8,-⟩,⟨x10,-⟩⟩:=HB2.out
 clear hm
 go_enter Tryz.func125,Tryz.ntmps125
 go_wp2_with fail
 go_step3
 go_wp2_with fail
 go_step3
 go_wp2_with fail
 clear x0 x2 x4 x6 x8 x10 ha HB
 have Hz0:=hideW(show((w.alloc(.cells #[v0,v1,.int .i64 W.time,.int .i64 W.next,v2,v3] 39)).alloc(.map #[] 0)).heap.size=w.heap.size+2 by rw [World.size_alloc,hz1])
 clear hz1
 generalize(w.alloc(.cells #[v0,v1,.int .i64 W.time,.int .i64 W.next,v2,v3] 39)).alloc(.map #[] 0)=W0 at HM HB2 Hb2 Hz0 ⊢
 refine(membersOf_any v0 v1 v2 v3 lo hi W W0(Hp.out.below Hb2.out)hs hp).mono ?_
 rintro e w1⟨vm,vd,rfl,hm,hb1⟩
 have HMs:=hideW hm
 have HX1:=hideW(HB2.out.below hb1)
 have HM1:=hideW(HM.out.kept(grownL hb1 none)(by simp))
 have hB1:=below_next Hb2.out hb1
 have hz:w.heap.size+2≤w1.heap.size:=by have h1:=hb1.size; have h2:=Hz0.out; omega
 obtain⟨am,cm,rfl,hcm⟩:=id hm.form
 have hmn:memN W≤28:=by unfold memN; omega
 clear hb1 hm HB2 Hb2 HM Hz0
 go_wp2
 go_loopw [6,15](fun s i wr=>∃k:Nat,k≤memN W∧s = .bool true∧i = .int .i64 k∧wr.ownsMap Tryz.prog 88 rawE(w.heap.size+1)(homesL W k).length(homeD key(homesL W k).length)∧DistL(homesL W k).length key∧w1.grownBy wr(some(w.heap.size+1))∧Below w.heap.size w wr)(fun _ i _=>memN W - (intOf i).toNat)
 case atStart=>exact⟨0,Nat.zero_le _,rfl,rfl,HM1.out,fun i hi=>absurd hi(Nat.not_lt_zero _),World.grownBy.refl _ _,hB1⟩
 case round=>
  obtain⟨k,hk,rfl,rfl,hown,hdist,hgr,hb⟩:=hrel
  have Hown:=hideW hown
  have Hdist:=hideW hdist
  have Hgr:=hideW hgr
  clear hown hdist hgr
  by_cases hlt:k<memN W
  rotate_left
  ·obtain rfl:k=memN W:=by omega
   obtain⟨⟨m0,a0,c0,rfl,mc0,-⟩,⟨m1,a1,c1,rfl,mc1,-⟩⟩:=id Hp.out.pool
   have hsz:=HK.out.size Hdist.out
   have hln:=(Hown.out.kept(grownL((Below.refl _ _).drew)none)(by simp)).len homesT 3
   rw [hsz] at hln
   have Hsz:=hideW hsz
   clear hsz
   have hroom:=roomN_le W.pool.s W.pool.n
   have h200:=HR.out.1
   unfold maxLen at m0 m1
   have HX2:=hideW(HX1.out.side Hgr.out(by omega))
   obtain⟨⟨x0,-⟩,⟨x1,-⟩,⟨x2,-⟩,⟨x3,-⟩,⟨x4,-⟩,⟨x5,-⟩⟩:=HX2.out
   have HND:=hideW(HK.out.dist.1 Hdist.out)
   have hrm:roomP W.pool=(roomN W.pool.s W.pool.n:Int):=if_pos HR.out
   generalize hN:(homesL W(memN W)).length=N at *
   have HN:=hideW hN
   clear hN
   go_wp2_with fail
   go_region_held3(fun w'=>w'.cell?⟨w.heap.size,0,none⟩=some(.slice a0 W.pool.n c0)∧w'.cell?⟨w.heap.size,1,none⟩=some(.slice a1 W.pool.hn c1)∧(Builtin.len_ #[198] 3 #[.map(some(w.heap.size+1))]).run Tryz.prog w' = .ok(.int .i64(N:Nat))w')(go_keep)
    (first
     | (go_at_call 145; refine(implPoolRoom_any _ _ lo hi W.pool _((Hp.out.below hb).pool.below(Below.refl _ _).drew)).mono ?_; rintro e w5⟨rfl,hb5⟩; have hC5:=below_undrew hb5; obtain⟨⟨k0,_⟩,⟨k1,_⟩,_⟩:=HX2.out.below hC5; have hl5:=(Hown.out.kept(grownL hC5 none)(by simp)).len homesT 3; rw [Hsz.out] at hl5))
   have hres:=homes_bool(N:=N)hroom h200(by omega:W.pool.hn≤9223372036854775807)
   have Hres:=hideW hres
   have hbx:=below_next hb hC5
   clear hres hln hl5 hrm hroom h200
   go_wp2
   try rw [Exit.noGoto_ret]
   go_ret
   refine⟨⟨_,rfl,?_⟩,hbx⟩
   rw [Hres.out]
   unfold HomesOk
   rw [HN.out]
   exact⟨fun hx=>⟨HND.out,hx⟩,fun hx=>hx.2⟩
  have hlt':(k:Int)<(memN W:Int):=by omega
  obtain⟨g,cg,e,q0,q1,q2,q3,q4⟩:=HMs.out.side Hgr.out HM1.out k hlt
  obtain⟨-,ad,cd,hvk,-,-⟩:=id(HMs.out.dead k hlt)
  rw [hvk] at q4
  cases e
  have hbs:=below_alloc wr(.cells #[.int .i64(memOf W k).prev,.int .i64(memOf W k).time,.int .i64(memOf W k).rs,.int .i64(memOf W k).rb,.slice ad(memOf W k).dn cd] 195)
  have HV:=hideW(Box5M.new wr(.int .i64(memOf W k).prev)(.int .i64(memOf W k).time)(.int .i64(memOf W k).rs)(.int .i64(memOf W k).rb)(.slice ad(memOf W k).dn cd)195)
  have HX2:=hideW((HX1.out.side Hgr.out(by omega)).below hbs)
  have hb2:=below_next hb hbs
  have Hown2:=hideW(Hown.out.kept(grownL hbs none)(by simp))
  have Hgr2:=hideW(grown_next Hgr.out(grownL hbs(some(w.heap.size+1))))
  have HA2:=hideW(HA.out.below hb2)
  have Hp2:=hideW(Hp.out.below hb2)
  have Hwk:=hideW(Hwf.out k hlt)
  have HTk:=hideW(HTr.out k hlt)
  have Htk:=hideW(HTm.out(memOf W k).prev)
  have Hym:=hideW(show youngM W(memOf W k)=youngF(treeL W.pool(memOf W k).rs(memOf W k).rb)(aheadOf W(memOf W k).prev).time from rfl)
  have Hlen:=hideW(show(homesL W(k+1)).length=(homesL W k).length+(youngM W(memOf W k)).length from List.length_append)
  have Hat:=hideW(fun(j:Nat)(hj:j<(youngM W(memOf W k)).length)=>homes_at W(k:=k)(n:=memN W)hlt hj)
  have Hyl:=hideW(youngM_len W(memOf W k))
  have Hhl:=hideW(homes_len W k)
  clear hvk hbs Hgr Hown
  generalize memOf W k=mk at *
  go_wp2_with fail
  clear q0 q1 q2 q3 q4
  have Hsz2:=hideW(show w.heap.size+2≤(wr.alloc(.cells #[.int .i64 mk.prev,.int .i64 mk.time,.int .i64 mk.rs,.int .i64 mk.rb,.slice ad mk.dn cd] 195)).heap.size from Nat.le_trans hz Hgr2.out.size)
  generalize wr.alloc(.cells #[.int .i64 mk.prev,.int .i64 mk.time,.int .i64 mk.rs,.int .i64 mk.rb,.slice ad mk.dn cd] 195)=W2 at HV HX2 HA2 Hp2 hb2 Hown2 Hgr2 Hsz2 ⊢
  generalize wr.heap.size=V at HV ⊢
  obtain⟨⟨y0,-⟩,⟨y1,-⟩,⟨y2,-⟩,⟨y3,-⟩,⟨y4,-⟩⟩:=HV.out
  obtain⟨⟨x0,-⟩,⟨x1,-⟩,⟨x2,-⟩,⟨x3,-⟩,⟨x4,-⟩,⟨x5,-⟩⟩:=HX2.out
  have htl:=treeL_len W.pool mk.rs mk.rb
  have HPk:=hideW(show PtrsOk(treeL W.pool mk.rs mk.rb).length(fstL(treeL W.pool mk.rs mk.rb))(sndL(treeL W.pool mk.rs mk.rb))from ptrsOk_list HR.out(fun x hx=>(tree_mem HR.out HTk.out hx).1)(tree_nodup' HR.out HTk.out)(by omega))
  have hfd:=field_dead
  have hft:=field_time
  generalize hAh:aheadOf W mk.prev=S at Htk Hym ⊢
  have HAh:=hideW hAh
  clear hAh
  generalize hTl:treeL W.pool mk.rs mk.rb=tree at HPk htl Hym ⊢
  have HTl:=hideW hTl
  clear hTl
  go_region_held3(fun w'=>w'.cell?⟨w.heap.size,0,none⟩=some v0∧w'.cell?⟨w.heap.size,1,none⟩=some v1∧w'.cell?⟨w.heap.size,2,none⟩=some(.int .i64 W.time)∧w'.cell?⟨w.heap.size,3,none⟩=some(.int .i64 W.next)∧w'.cell?⟨w.heap.size,4,none⟩=some v2∧w'.cell?⟨w.heap.size,5,none⟩=some v3∧w'.cell?⟨V,0,none⟩=some(.int .i64 mk.prev)∧w'.cell?⟨V,2,none⟩=some(.int .i64 mk.rs)∧w'.cell?⟨V,3,none⟩=some(.int .i64 mk.rb))(go_keep)
   (first
    | (go_at_call 144; refine(ptrsOf_any v0 v1 v2 v3 lo hi W mk.rs mk.rb _ ?_ HR.out HTk.out).mono ?_; (exact Hp2.out.below(Below.refl _ _).drew); rintro e w5⟨vt,rfl,hrt,hb5⟩; rw [HTl.out] at hrt; obtain⟨at1,ct1,rfl,-⟩:=owns_form hrt; have hC5:=below_undrew hb5; obtain⟨⟨k0,_⟩,⟨k1,_⟩,⟨k2,_⟩,⟨k3,_⟩,⟨k4,_⟩,⟨k5,_⟩⟩:=HX2.out.below hC5; obtain⟨⟨l0,_⟩,_,⟨l2,_⟩,⟨l3,_⟩,_⟩:=HV.out.below hC5)
    | (go_at_call 138; refine(ahead_any lo hi W A mk.prev _(HA2.out.below hC5)HD.out Hwk.out hp).mono ?_; rintro e w6⟨aa,ca,rfl,hpd,hb6⟩; rw [HAh.out]; have hC6:=below_next hC5 hb6; obtain⟨⟨f0,_⟩,⟨f1,_⟩,⟨f2,_⟩,⟨f3,_⟩,⟨f4,_⟩,⟨f5,_⟩⟩:=HX2.out.below hC6; obtain⟨⟨g0,_⟩,_,⟨g2,_⟩,⟨g3,_⟩,_⟩:=HV.out.below hC6)
    | (go_at_call 143; refine(implSplit_any _ tree.length 0 _(fstL tree)(sndL tree)S.time _((hrt.below hb6).atW(by omega))).mono ?_; rintro e w7⟨vy,vz,ly,lz,rfl,hY,-,hy,-,-,hb7⟩; rw [(hY.1⟨HPk.out,Htk.out⟩).trans(young_eq tree S.time)] at hy; rw [←Hym.out] at hy; obtain⟨ay,cy,rfl,hcy⟩:=owns_form hy; have hC7:=below_next hC6 hb7; obtain⟨⟨m0,_⟩,⟨m1,_⟩,⟨m2,_⟩,⟨m3,_⟩,⟨m4,_⟩,⟨m5,_⟩⟩:=HX2.out.below hC7; obtain⟨⟨n0,_⟩,_,⟨n2,_⟩,⟨n3,_⟩,_⟩:=HV.out.below hC7))
  have HY:=hideW hy
  have Hown7:=hideW(Hown2.out.kept(grownL hC7 none)(by simp))
  have Hgr7:=hideW(grown_next Hgr2.out(grownL hC7(some(w.heap.size+1))))
  have HX7:=hideW(HX2.out.below hC7)
  have hb8:=below_next hb2 hC7
  have hz7:w.heap.size+2≤w7.heap.size:=Nat.le_trans Hsz2.out hC7.size
  have hyl:=Hyl.out
  have hhl:=Hhl.out
  clear hy hC7 hb7 hC6 hb6 hC5 hb5 hrt hpd hY HX2 HV HA2 Hp2 Hown2 Hgr2 Hsz2 HPk Htk hfd hft x0 x1 x2 x3 x4 x5 y0 y1 y2 y3 y4 k0 k1 k2 k3 k4 k5 l0 l2 l3 f0 f1 f2 f3 f4 f5 g0 g2 g3 m0 m1 m2 m3 m4 m5 n0 n2 n3
  generalize hyg:youngM W mk=yl at *
  go_wp2_with fail
  go_loopw [6,31](fun s i wr=>∃j:Nat,j≤yl.length∧s = .bool true∧i = .int .i64 j∧wr.ownsMap Tryz.prog 88 rawE(w.heap.size+1)((homesL W k).length+j)(homeD key((homesL W k).length+j))∧DistL((homesL W k).length+j)key∧w7.grownBy wr(some(w.heap.size+1))∧Below w.heap.size w wr)(fun _ i _=>yl.length - (intOf i).toNat)
  case atStart=>exact⟨0,Nat.zero_le _,rfl,rfl,Hown7.out,Hdist.out,World.grownBy.refl _ _,hb8⟩
  case round=>
   clear hb8
   obtain⟨j,hj,rfl,rfl,hown,hdj,hgr,hb8⟩:=hrel
   have Hown:=hideW hown
   have Hdj:=hideW hdj
   have Hgr:=hideW hgr
   clear hown hdj hgr
   by_cases hjl:j<yl.length
   rotate_left
   ·obtain rfl:j=yl.length:=by omega
    go_wp2
    go_roundw
    case rel=>
     refine⟨k+1,by omega,rfl,by go_num,?_,?_,grown_next Hgr7.out Hgr.out,hb8⟩
     ·rw [Hlen.out]; exact Hown.out
     ·rw [Hlen.out]; exact Hdj.out
    case measure=>simp [intOf]; omega
   have hjl':(j:Int)<(yl.length:Int):=by omega
   obtain⟨-,a7,c7,e7,-,hcl⟩:=id(HY.out.atW(by omega))
   cases e7
   obtain⟨b7,o7,rfl,-,-,hcl⟩:=hcl(by omega)
   have q0:=cell_side Hgr.out Hown7.out(hcl j hjl).1
   have q1:=cell_side Hgr.out Hown7.out(hcl j hjl).2
   clear hcl
   obtain⟨hpl,hpe⟩:=Hat.out j hjl
   have hkey:keyOf Tryz.prog 88(.agg #[.int .i64(fstL yl j),.int .i64(sndL yl j)])=some(key((homesL W k).length+j)):=by
    have:=HK.out.at_ _ hpl
    rw [hpe] at this
    exact this
   have Hpl:=hideW hpl
   have Hkey:=hideW hkey
   clear hpe hpl hkey
   have hbs:=below_alloc wr(.cells #[.int .i64(fstL yl j),.int .i64(sndL yl j)] 88)
   have HV:=hideW(Box2.new wr(.int .i64(fstL yl j))(.int .i64(sndL yl j))88)
   have Hown3:=hideW((Hown.out.kept(grownL hbs none)(by simp)).kept(grownL((Below.refl _ _).drew)none)(by simp))
   have Hgr3:=hideW(grown_next Hgr.out(grownL hbs(some(w.heap.size+1))))
   have hb9:=below_next hb8 hbs
   have Hsz3:=hideW(show w.heap.size+1<wr.heap.size by have:=Hgr.out.size; omega)
   clear hbs Hgr Hown
   have hpb:(homesL W k).length+j≤3000:=by omega
   generalize hpg:(homesL W k).length+j=p at *
   have Hpg:=hideW hpg
   clear hpg
   generalize fstL yl j=xs at *
   generalize sndL yl j=xb at *
   go_wp2_with fail
   clear q0 q1
   generalize wr.alloc(.cells #[.int .i64 xs,.int .i64 xb] 88)=W3 at HV Hown3 Hgr3 hb9 ⊢
   generalize wr.heap.size=V at HV Hsz3 ⊢
   by_cases hnew:∀i,i<p→key i≠key p
   ·have hl0:=hownLook Hown3.out Hkey.out(HK.out.new hnew)
    obtain⟨ev,st,wa,wb,he,hl1,hst,hownb,hga,hgb⟩:=entry_own Hown3.out lawP0 homesT(by unfold maxLen; omega)zeroI Hkey.out(HK.out.new hnew)(val:=.int .i64 1)
    obtain⟨⟨y0,-⟩,⟨y1,-⟩⟩:=HV.out.below((Below.refl _ _).drew)
    have z0:=(hgb.cell_far _(lt_of_cell y0)(fun e=>by have h1:=Option.some.inj e; have h2:=Hsz3.out; simp only at h1; omega)).trans y0
    have z1:=(hgb.cell_far _(lt_of_cell y1)(fun e=>by have h1:=Option.some.inj e; have h2:=Hsz3.out; simp only at h1; omega)).trans y1
    have hl2:=hownLook hownb Hkey.out(HK.out.put p _)
    have Hownb:=hideW hownb
    have Hgb:=hideW(grown_next(grown_next Hgr3.out(grownL((Below.refl _ _).drew)(some(w.heap.size+1))))hgb)
    have hbb:=hb9.drew.grown hgb(Nat.le_trans hb9.size(Nat.le_refl _))(fun q e=>by cases e; omega)
    have Hnew:=hideW hnew
    clear hownb hga hgb hnew hb9 hb8
    unfold goInt at he hst
    go_region
    clear hl0 hl1 he hst y0 y1
    go_wp2
    go_roundw
    case rel=>exact⟨j+1,by omega,rfl,by go_num,by rw [show(homesL W k).length+(j+1)=p+1 by have:=Hpg.out; omega]; exact Hownb.out,by rw [show(homesL W k).length+(j+1)=p+1 by have:=Hpg.out; omega]; exact distL_succ.2⟨Hdj.out,Hnew.out⟩,Hgb.out,hbb⟩
    case measure=>simp [intOf]; omega
   ·obtain⟨i0,hi0,he0⟩:∃i,i<p∧key i=key p:=by
     by_cases hx:∃i,i<p∧key i=key p
     ·exact hx
     ·exact absurd(fun i hi e=>hx⟨i,hi,e⟩)hnew
    have Hnot:=hideW(HK.out.not_nodup hi0 Hpl.out he0)
    have hl0:=hownLook Hown3.out Hkey.out(HK.out.old hi0 he0 Hdj.out)
    obtain⟨ev,st,wa,wb,he,hl1,hst,hownb,hga,hgb⟩:=entry_own Hown3.out lawP0 homesT(by unfold maxLen; omega)zeroI Hkey.out(HK.out.old hi0 he0 Hdj.out)(val:=.int .i64 2)
    obtain⟨⟨y0,-⟩,⟨y1,-⟩⟩:=HV.out.below((Below.refl _ _).drew)
    have z0:=(hgb.cell_far _(lt_of_cell y0)(fun e=>by have h1:=Option.some.inj e; have h2:=Hsz3.out; simp only at h1; omega)).trans y0
    have z1:=(hgb.cell_far _(lt_of_cell y1)(fun e=>by have h1:=Option.some.inj e; have h2:=Hsz3.out; simp only at h1; omega)).trans y1
    have hl2:=hownLook hownb Hkey.out(HK.out.put p _)
    have hbb:=hb9.drew.grown hgb(Nat.le_trans hb9.size(Nat.le_refl _))(fun q e=>by cases e; omega)
    clear hownb hga hgb hnew hb9 hb8 hi0 he0
    unfold goInt at he hst
    go_region
    clear hl0 hl1 he hst y0 y1
    go_wp2_with fail
    go_region
    go_wp2
    rw [Exit.noGoto_ret]
    go_ret
    exact⟨BoolIs.no fun hx=>Hnot.out hx.1,hbb.drew⟩
end Go.Proofs.YtihplgckbhnohaaGreatDoor

namespace Go.Proofs.YtihplgckbhnohaaGreatDoor
open Go.RowKit Go.Maps
set_option linter.unusedVariables false
set_option maxRecDepth 20000 in
set_option maxHeartbeats 400000 in
theorem implWorldRight_any(v0 v1 v2 v3:Value)(lo hi:Nat)(W:WorldD)(w:World)(h:WorldAt w lo hi v0 v1 v2 v3 W)(hwf:PrevsWf W) :
  Calls Tryz.prog 107 #[worldV v0 v1 v2 v3 W] w fun e w'=>BoolIs(ImplW W)e∧Below w.heap.size w w':=by
 have Hp:=hideW h
 have Hwf:=hideW hwf
 clear h hwf
 have ha:=below_alloc w(.cells #[v0,v1,.int .i64 W.time,.int .i64 W.next,v2,v3] 39)
 have HB:=hideW(Box6.new w v0 v1(.int .i64 W.time)(.int .i64 W.next)v2 v3 39)
 obtain⟨⟨x0,-⟩,⟨x1,-⟩,⟨x2,-⟩,⟨x3,-⟩,⟨x4,-⟩,⟨x5,-⟩⟩:=HB.out
 go_enter Tryz.func107,Tryz.ntmps107
 go_wp2_with fail
 generalize w.alloc(.cells #[v0,v1,.int .i64 W.time,.int .i64 W.next,v2,v3] 39)=W0 at ha HB x0 x1 x2 x3 x4 x5 ⊢
 refine(countRight_any W.time W0).mono ?_
 rintro e w1⟨⟨t1,rfl,ht1⟩,rfl⟩
 have Ht1:=hideW ht1
 clear ht1
 cases t1
 ·have Hn:=hideW(show ¬ImplW W from fun hI=>absurd(Ht1.out.2 hI.names.time)(by simp))
  clear Ht1
  go_wp2
  go_ret
  exact⟨BoolIs.no Hn.out,ha⟩
 have H1:=hideW(Ht1.out.1 rfl)
 clear Ht1
 go_wp2_with fail
 refine(countRight_any W.next _).mono ?_
 rintro e w1⟨⟨t1,rfl,ht1⟩,rfl⟩
 have Ht1:=hideW ht1
 clear ht1
 cases t1
 ·have Hn:=hideW(show ¬ImplW W from fun hI=>absurd(Ht1.out.2 hI.names.next)(by simp))
  clear Ht1
  go_wp2
  go_ret
  exact⟨BoolIs.no Hn.out,ha⟩
 have H2:=hideW(Ht1.out.1 rfl)
 clear Ht1
 go_wp2_with fail
 refine(setsRight_any v2 W.sn lo hi W.sets _(Hp.out.below ha).sets).mono ?_
 rintro e w2⟨⟨t1,rfl,ht1⟩,hc⟩
 have Ht1:=hideW ht1
 have hb2:=below_next ha hc
 have HB2:=hideW(HB.out.below hc)
 clear ht1 hc x0 x1 x2 x3 x4 x5
 obtain⟨⟨x0,-⟩,⟨x1,-⟩,⟨x2,-⟩,⟨x3,-⟩,⟨x4,-⟩,⟨x5,-⟩⟩:=HB2.out
 cases t1
 ·have Hn:=hideW(show ¬ImplW W from fun hI=>absurd(Ht1.out.2 hI.names.sets)(by simp))
  clear Ht1
  go_wp2
  go_ret
  exact⟨BoolIs.no Hn.out,hb2⟩
 have H3:=hideW(Ht1.out.1 rfl)
 clear Ht1
 have hs:=H3.out.1
 go_wp2_with fail
 refine(snapsRight_any v0 v1 v2 v3 lo hi W _(Hp.out.below hb2)hs).mono ?_
 rintro e w3⟨⟨t1,rfl,ht1⟩,hc⟩
 have Ht1:=hideW ht1
 have hb3:=below_next hb2 hc
 have HB3:=hideW(HB2.out.below hc)
 clear ht1 hc x0 x1 x2 x3 x4 x5
 obtain⟨⟨x0,-⟩,⟨x1,-⟩,⟨x2,-⟩,⟨x3,-⟩,⟨x4,-⟩,⟨x5,-⟩⟩:=HB3.out
 cases t1
 ·have Hn:=hideW(show ¬ImplW W from fun hI=>absurd(Ht1.out.2 hI.names.snaps)(by simp))
  clear Ht1
  go_wp2
  go_ret
  exact⟨BoolIs.no Hn.out,hb3⟩
 have H4:=hideW(Ht1.out.1 rfl)
 clear Ht1
 have hp:=H4.out.1
 have HN:=hideW(show ImplN W from⟨H1.out,H2.out,H3.out,H4.out⟩)
 go_wp2_with fail
 refine(implPoolRight_any v0 v1 lo hi W.pool _(Hp.out.below hb3).pool).mono ?_
 rintro e w4⟨⟨t1,rfl,ht1⟩,hc⟩
 have Ht1:=hideW ht1
 have hb4:=below_next hb3 hc
 have HB4:=hideW(HB3.out.below hc)
 clear ht1 hc x0 x1 x2 x3 x4 x5
 obtain⟨⟨x0,-⟩,⟨x1,-⟩,⟨x2,-⟩,⟨x3,-⟩,⟨x4,-⟩,⟨x5,-⟩⟩:=HB4.out
 cases t1
 ·have Hn:=hideW(show ¬ImplW W from fun hI=>absurd(Ht1.out.2 hI.right)(by simp))
  clear Ht1
  go_wp2
  go_ret
  exact⟨BoolIs.no Hn.out,hb4⟩
 have H5:=hideW(Ht1.out.1 rfl)
 clear Ht1
 go_wp2_with fail
 refine(aheadIn_any v0 v1 v2 v3 lo hi W _(Hp.out.below hb4)hp HN.out.idsWf).mono ?_
 rintro e w5⟨A,rfl,hA,hc⟩
 have HA5:=hideW hA
 have hb5:=below_next hb4 hc
 have HB5:=hideW(HB4.out.below hc)
 clear hA hc x0 x1 x2 x3 x4 x5
 obtain⟨⟨x0,-⟩,⟨x1,-⟩,⟨x2,-⟩,⟨x3,-⟩,⟨x4,-⟩,⟨x5,-⟩⟩:=HB5.out
 go_wp2_with fail
 refine(prevsRight_any v0 v1 v2 v3 lo hi W A _(Hp.out.below hb5)hs hp HA5.out HN.out.dist Hwf.out).mono ?_
 rintro e w6⟨⟨t1,rfl,ht1⟩,hc⟩
 have Ht1:=hideW ht1
 have hb6:=below_next hb5 hc
 have HB6:=hideW(HB5.out.below hc)
 have HA6:=hideW(HA5.out.below hc)
 clear ht1 hc x0 x1 x2 x3 x4 x5
 obtain⟨⟨x0,-⟩,⟨x1,-⟩,⟨x2,-⟩,⟨x3,-⟩,⟨x4,-⟩,⟨x5,-⟩⟩:=HB6.out
 cases t1
 ·have Hn:=hideW(show ¬ImplW W from fun hI=>absurd(Ht1.out.2 hI.prevs)(by simp))
  clear Ht1
  go_wp2
  go_ret
  exact⟨BoolIs.no Hn.out,hb6⟩
 have H7:=hideW(Ht1.out.1 rfl)
 clear Ht1
 go_wp2_with fail
 refine(linesRight_any v0 v1 v2 v3 lo hi W A _(Hp.out.below hb6)hp hs HA6.out HN.out.dist(HN.out.prevOk H7.out)).mono ?_
 rintro e w7⟨⟨t1,rfl,ht1⟩,hc⟩
 have Ht1:=hideW ht1
 have hb7:=below_next hb6 hc
 have HB7:=hideW(HB6.out.below hc)
 have HA7:=hideW(HA6.out.below hc)
 clear ht1 hc x0 x1 x2 x3 x4 x5
 obtain⟨⟨x0,-⟩,⟨x1,-⟩,⟨x2,-⟩,⟨x3,-⟩,⟨x4,-⟩,⟨x5,-⟩⟩:=HB7.out
 cases t1
 ·have Hn:=hideW(show ¬ImplW W from fun hI=>absurd(Ht1.out.2 hI.lines)(by simp))
  clear Ht1
  go_wp2
  go_ret
  exact⟨BoolIs.no Hn.out,hb7⟩
 have H8:=hideW(Ht1.out.1 rfl)
 clear Ht1
 go_wp2_with fail
 refine(treesRight_any v0 v1 v2 v3 lo hi W A _(Hp.out.below hb7)hs hp HA7.out HN.out.dist Hwf.out H5.out HN.out.times).mono ?_
 rintro e w8⟨⟨t1,rfl,ht1⟩,hc⟩
 have Ht1:=hideW ht1
 have hb8:=below_next hb7 hc
 have HB8:=hideW(HB7.out.below hc)
 have HA8:=hideW(HA7.out.below hc)
 clear ht1 hc x0 x1 x2 x3 x4 x5
 obtain⟨⟨x0,-⟩,⟨x1,-⟩,⟨x2,-⟩,⟨x3,-⟩,⟨x4,-⟩,⟨x5,-⟩⟩:=HB8.out
 cases t1
 ·have Hn:=hideW(show ¬ImplW W from fun hI=>absurd(Ht1.out.2 hI.trees)(by simp))
  clear Ht1
  go_wp2
  go_ret
  exact⟨BoolIs.no Hn.out,hb8⟩
 have H9:=hideW(Ht1.out.1 rfl)
 clear Ht1
 go_wp2_with fail
 refine(homesRight_any v0 v1 v2 v3 lo hi W A _(Hp.out.below hb8)hs hp HA8.out HN.out.dist Hwf.out H5.out HN.out.times H9.out.1).mono ?_
 rintro e w9⟨⟨t1,rfl,ht1⟩,hc⟩
 have Ht1:=hideW ht1
 have hb9:=below_next hb8 hc
 clear ht1 hc
 have Hn:=hideW(show t1=true↔ImplW W from⟨fun e=>⟨HN.out,H5.out,H7.out,H8.out,H9.out,Ht1.out.1 e⟩,fun hI=>Ht1.out.2 hI.homes⟩)
 clear Ht1
 go_wp2
 go_ret
 exact⟨⟨t1,rfl,Hn.out⟩,hb9⟩
end Go.Proofs.YtihplgckbhnohaaGreatDoor

namespace Go.Proofs.YtihplgckbhnohaaGreatDoor
open Go.RowKit Go.Maps
set_option linter.unusedVariables false
set_option maxRecDepth 20000 in
set_option maxHeartbeats 400000 in
theorem worldM_any(v0 v1 v2 v3:Value)(lo hi:Nat)(W:WorldD)(w:World)(h:WorldAt w lo hi v0 v1 v2 v3 W)(hwf:PrevsWf W) :
    Calls Tryz.prog 76 #[worldV v0 v1 v2 v3 W] w fun e w'=>BoolIs(ImplW W)e∧Below w.heap.size w w':=by
  have Hp:=hideW h
  have Hwf:=hideW hwf
  clear h hwf
  have ha:=below_alloc w(.cells #[v0,v1,.int .i64 W.time,.int .i64 W.next,v2,v3] 39)
  obtain⟨⟨x0,-⟩,⟨x1,-⟩,⟨x2,-⟩,⟨x3,-⟩,⟨x4,-⟩,⟨x5,-⟩⟩:=Box6.new w v0 v1(.int .i64 W.time)(.int .i64 W.next)v2 v3 39
  go_enter Tryz.func76,Tryz.ntmps76
  go_wp2_with fail
  refine(implWorldRight_any v0 v1 v2 v3 lo hi W _(Hp.out.below ha)Hwf.out).mono ?_
  rintro e w1⟨⟨t,rfl,ht⟩,hb1⟩
  have Ht:=hideW ht
  have hB:=below_next ha hb1
  clear ht hb1 ha x0 x1 x2 x3 x4 x5
  go_wp2
  go_ret
  exact⟨⟨t,rfl,Ht.out⟩,hB⟩
structure StoreI(S:StoreD):Prop where
  live:ImplW S.live
  safe:ImplW S.safe
  held:S.safe.pool.hn=0
  keeps:KeepsI S
theorem store_iff(S:StoreD):StoreI S↔StoreOk S:=
  ⟨fun h=>⟨(world_iff _).1 h.live,(world_iff _).1 h.safe,h.keeps.many,h.held,h.keeps.time,h.keeps.next,h.keeps.slots⟩,
   fun h=>⟨(world_iff _).2 h.live,(world_iff _).2 h.safe,h.held,h.many,h.time,h.next,h.slots⟩⟩
set_option maxRecDepth 20000 in
set_option maxHeartbeats 1000000 in
theorem pairRight_any(v0 v1 v2 v3 u0 u1 u2 u3:Value)(lo hi:Nat)(S:StoreD)(w:World)(h:StoreAt w lo hi v0 v1 v2 v3 u0 u1 u2 u3 S)(hw1:PrevsWf S.live)(hw2:PrevsWf S.safe) :
    Calls Tryz.prog 47 #[storeV v0 v1 v2 v3 u0 u1 u2 u3 S] w fun e w'=>BoolIs(StoreI S)e∧Below w.heap.size w w':=by
  have Hp:=hideW h
  have Hw1:=hideW hw1
  have Hw2:=hideW hw2
  obtain⟨m3,ha,hc,rfl,mh,-⟩:=id h.safe.pool.2
  clear h hw1 hw2
  have hal:=below_alloc w(.cells #[v0,v1,.int .i64 S.live.time,.int .i64 S.live.next,v2,v3,u0,.slice ha S.safe.pool.hn hc,.int .i64 S.safe.time,.int .i64 S.safe.next,u2,u3] 98)
  have HX:=hideW(Box12.new w v0 v1(.int .i64 S.live.time)(.int .i64 S.live.next)v2 v3 u0(.slice ha S.safe.pool.hn hc)(.int .i64 S.safe.time)(.int .i64 S.safe.next)u2 u3 98)
  obtain⟨⟨x0,-⟩,⟨x1,-⟩,⟨x2,-⟩,⟨x3,-⟩,⟨x4,-⟩,⟨x5,-⟩,⟨x6,-⟩,⟨x7,-⟩,⟨x8,-⟩,⟨x9,-⟩,⟨x10,-⟩,⟨x11,-⟩⟩:=HX.out
  go_enter Tryz.func47,Tryz.ntmps47
  go_wp2_with fail
  generalize w.alloc(.cells #[v0,v1,.int .i64 S.live.time,.int .i64 S.live.next,v2,v3,u0,.slice ha S.safe.pool.hn hc,.int .i64 S.safe.time,.int .i64 S.safe.next,u2,u3] 98)=W0 at hal HX x0 x1 x2 x3 x4 x5 x6 x7 x8 x9 x10 x11 ⊢
  refine(worldM_any _ _ _ _ lo hi S.live W0(Hp.out.live.below hal)Hw1.out).mono ?_
  rintro e w1⟨⟨t,rfl,ht⟩,hb1⟩
  have Ht:=hideW ht
  have hB1:=below_next hal hb1
  have HX1:=hideW(HX.out.below hb1)
  clear ht x0 x1 x2 x3 x4 x5 x6 x7 x8 x9 x10 x11 hb1 hal HX
  obtain⟨⟨x0,-⟩,⟨x1,-⟩,⟨x2,-⟩,⟨x3,-⟩,⟨x4,-⟩,⟨x5,-⟩,⟨x6,-⟩,⟨x7,-⟩,⟨x8,-⟩,⟨x9,-⟩,⟨x10,-⟩,⟨x11,-⟩⟩:=HX1.out
  cases t
  · go_wp2
    go_ret
    exact⟨BoolIs.no fun h=>absurd(Ht.out.2 h.live)(by simp),hB1⟩
  have HL:=hideW(Ht.out.1 rfl)
  clear Ht
  go_wp2_with fail
  refine(worldM_any _ _ _ _ lo hi S.safe w1(Hp.out.safe.below hB1)Hw2.out).mono ?_
  rintro e w2⟨⟨t,rfl,ht⟩,hb2⟩
  have Ht:=hideW ht
  have hB2:=below_next hB1 hb2
  have HX2:=hideW(HX1.out.below hb2)
  clear ht x0 x1 x2 x3 x4 x5 x6 x7 x8 x9 x10 x11 hb2 hB1 HX1
  obtain⟨⟨x0,-⟩,⟨x1,-⟩,⟨x2,-⟩,⟨x3,-⟩,⟨x4,-⟩,⟨x5,-⟩,⟨x6,-⟩,⟨x7,-⟩,⟨x8,-⟩,⟨x9,-⟩,⟨x10,-⟩,⟨x11,-⟩⟩:=HX2.out
  cases t
  · go_wp2
    go_ret
    exact⟨BoolIs.no fun h=>absurd(Ht.out.2 h.safe)(by simp),hB2⟩
  have HF:=hideW(Ht.out.1 rfl)
  clear Ht
  go_wp2_with fail
  refine(holdsNothing_any u0 u2 u3 ha hc S.safe m3 w2).mono ?_
  rintro e w3⟨⟨t,rfl,ht⟩,hb3⟩
  have Ht:=hideW ht
  have hB3:=below_next hB2 hb3
  have HX3:=hideW(HX2.out.below hb3)
  clear ht x0 x1 x2 x3 x4 x5 x6 x7 x8 x9 x10 x11 hb3 hB2 HX2
  obtain⟨⟨x0,-⟩,⟨x1,-⟩,⟨x2,-⟩,⟨x3,-⟩,⟨x4,-⟩,⟨x5,-⟩,⟨x6,-⟩,⟨x7,-⟩,⟨x8,-⟩,⟨x9,-⟩,⟨x10,-⟩,⟨x11,-⟩⟩:=HX3.out
  cases t
  · go_wp2
    go_ret
    exact⟨BoolIs.no fun h=>absurd(Ht.out.2 h.held)(by simp),hB3⟩
  have HH:=hideW(Ht.out.1 rfl)
  clear Ht
  go_wp2_with fail
  refine(keeps_any v0 v1 v2 v3 u0 _ u2 u3 lo hi S w3(Hp.out.below hB3)).mono ?_
  rintro e w4⟨⟨t,rfl,ht⟩,hb4⟩
  have Ht:=hideW ht
  have hB4:=below_next hB3 hb4
  clear ht x0 x1 x2 x3 x4 x5 x6 x7 x8 x9 x10 x11 hb4 hB3 HX3
  go_wp2
  go_ret
  exact⟨⟨t,rfl,⟨fun h=>⟨HL.out,HF.out,HH.out,Ht.out.1 h⟩,fun h=>Ht.out.2 h.keeps⟩⟩,hB4⟩
end Go.Proofs.YtihplgckbhnohaaGreatDoor

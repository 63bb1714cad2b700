/- A map whose elements are whatever values: what it reads as, its look-ups (no law is proved here). -/
import Derived.Test.YtihplgckbhnohaaGreatDoorG1
import Derived.Maps.OwnSet
namespace Go.Proofs.YtihplgckbhnohaaGreatDoor
open Go Go.RowKit Go.Maps
set_option linter.unusedVariables false
def rawE(v:Value):Option(DataW Value×List MemPlace):=some(.held v,[])
theorem rawE_inv{v:Value}{d:DataW Value}{ps:List MemPlace}(h:rawE v=some(d,ps)):d = .held v:=by
 unfold rawE at h
 simp only [Option.some.injEq,Prod.mk.injEq] at h
 exact h.1.symm
theorem rawE_mk(v:Value):rawE v=some(.held v,[]):=rfl
theorem wpList_lookup_raw{P:Program}(w:World){ops:Array Oper}{rest:List Oper}{o:Oper}{a:Act}{Q:Exit→Act→World→Prop}
  (hg:o.guard=none)(m x:Operand)(t:TypeId)(hop:o.op=Op.lookup t m x false)
  (k e:TypeId)(K:Keyed P k)(ht:P.underlying t=some(.map k e)){z:Value}(hz:(zeroValue e).run P w = .ok z w)(b n:Nat)(D:DataW Value)
  (hm:a.eval m = .map(some b))(hown:w.ownsMap P k rawE b n D)(key:Value)(kl:Lit)(hx:a.eval x=key)(hkey:keyOf P k key=some kl)
  (v:Value)(hat:D.atKey kl(.held z) = .held v)(hK:wpList P ops Q rest(a.put o.dst v)w) :
  wpList P ops Q(o :: rest)a w:=by
 refine wpList_plain hg fun K' hK'=>?_
 obtain⟨v',ps,hrun,hv⟩:=hown.lookup K ht hz(rawE_mk z)hkey
 have e1:=rawE_inv hv
 rw [hat] at e1
 injection e1 with e1
 subst e1
 unfold Oper.wp
 simp [execOp,hop,hm,hx,hrun,Result.andThen]
 exact hK' _ _ hK
theorem wpList_lookup_raw_ok{P:Program}(w:World){ops:Array Oper}{rest:List Oper}{o:Oper}{a:Act}{Q:Exit→Act→World→Prop}
  (hg:o.guard=none)(m x:Operand)(t:TypeId)(hop:o.op=Op.lookup t m x true)
  (k e:TypeId)(K:Keyed P k)(ht:P.underlying t=some(.map k e)){z:Value}(hz:(zeroValue e).run P w = .ok z w)(b n:Nat)(D:DataW Value)
  (hm:a.eval m = .map(some b))(hown:w.ownsMap P k rawE b n D)(key:Value)(kl:Lit)(hx:a.eval x=key)(hkey:keyOf P k key=some kl)
  (v:Value)(hat:D.atKey kl(.held z) = .held v)(c:Bool)(hc:Maps.has D kl=c)(hK:wpList P ops Q rest(a.put o.dst(.tuple #[v,.bool c]))w) :
  wpList P ops Q(o :: rest)a w:=by
 refine wpList_lookup_own_ok w hg m x t hop k e K ht rawE hz(.held z) [](rawE_mk z)b n D hm hown key kl hx hkey(fun v' ps hv=>?_)
 have e1:=rawE_inv hv
 rw [hat] at e1
 injection e1 with e1
 subst e1
 rw [hc]
 exact hK
def putD(key:Nat→Lit)(val:Nat→Value):Nat→DataW Value
 | 0=>.map []
 | k+1=>(putD key val k).put(key k)(.held(val k))
def KeysOk(key:Nat→Lit):Prop:=∀i,WideAt.IsKeyLit(key i)
theorem putD_tidy{key:Nat→Lit}(hk:KeysOk key)(val:Nat→Value):∀k,Tidy(putD key val k)
 | 0=>tidy_empty
 | k+1=>(putD_tidy hk val k).put(hk k)_
theorem putD_has{key:Nat→Lit}(hk:KeysOk key)(val:Nat→Value)(l:Lit):∀k,Maps.has(putD key val k)l=true↔∃i,i<k∧key i=l
 | 0=>by
  constructor
  ·intro h; exact absurd h(by simp [putD,Maps.has])
  ·rintro⟨i,hi,_⟩; omega
 | k+1=>by
  by_cases hx:key k=l
  ·subst hx
   exact⟨fun _=>⟨k,by omega,rfl⟩,fun _=>has_put_same(putD_tidy hk val k).isMap(hk k)_⟩
  ·rw [show Maps.has(putD key val(k+1))l=Maps.has(putD key val k)l from has_put_other(Ne.symm hx)_,putD_has hk val l k]
   constructor
   ·rintro⟨i,hi,e⟩; exact⟨i,by omega,e⟩
   ·rintro⟨i,hi,e⟩
    by_cases h:i=k
    ·subst h; exact absurd e hx
    ·exact⟨i,by omega,e⟩
theorem putD_none{key:Nat→Lit}(hk:KeysOk key)(val:Nat→Value){l:Lit}{k:Nat}(h:∀i,i<k→key i≠l)(z:DataW Value):(putD key val k).atKey l z=z:=by
 refine atKey_of_not_has ?_ _
 rw [Bool.eq_false_iff]
 intro hh
 obtain⟨i,hi,e⟩:=(putD_has hk val l k).1 hh
 exact h i hi e
theorem putD_at{key:Nat→Lit}(hk:KeysOk key)(val:Nat→Value)(z:DataW Value):∀k i,i<k→(∀j,i<j→j<k→key j≠key i)→(putD key val k).atKey(key i)z = .held(val i)
 | 0,i,hi,_=>absurd hi(Nat.not_lt_zero _)
 | k+1,i,hi,hd=>by
  by_cases e:i=k
  ·subst e; exact atKey_put_same(putD_tidy hk val i).isMap(hk i)_ _
  ·exact(atKey_put_other(Ne.symm(hd k(by omega)(by omega)))_ _).trans(putD_at hk val z k i(by omega)(fun j h1 h2=>hd j h1(by omega)))
def DistL(n:Nat)(key:Nat→Lit):Prop:=∀i,i<n→∀k,k<i→key k≠key i
theorem distL_succ{k:Nat}{f:Nat→Lit}:DistL(k+1)f↔DistL k f∧∀i,i<k→f i≠f k:=by
 constructor
 ·exact fun h=>⟨fun i hi=>h i(by omega),fun i hi=>h k(by omega)i hi⟩
 ·rintro⟨h1,h2⟩i hi j hj
  by_cases e:i=k
  ·subst e; exact h2 j hj
  ·exact h1 i(by omega)j hj
theorem putD_size{key:Nat→Lit}(hk:KeysOk key)(val:Nat→Value):∀k,Maps.size(putD key val k)≤k∧(Maps.size(putD key val k)=k↔DistL k key)
 | 0=>⟨Nat.le_refl _,fun _ i hi=>by omega,fun _=>rfl⟩
 | k+1=>by
  obtain⟨h1,h2⟩:=putD_size hk val k
  have e:Maps.size(putD key val(k+1))=if Maps.has(putD key val k)(key k)then Maps.size(putD key val k)else Maps.size(putD key val k)+1:=size_put(putD_tidy hk val k)_
  by_cases hh:Maps.has(putD key val k)(key k)=true
  ·rw [if_pos hh] at e
   rw [e,distL_succ]
   refine⟨by omega,fun h=>by omega,fun h=>?_⟩
   obtain⟨i,hi,he⟩:=(putD_has hk val(key k)k).1 hh
   exact absurd he(h.2 i hi)
  ·rw [if_neg hh] at e
   rw [e,distL_succ,←h2]
   refine⟨by omega,fun h=>⟨by omega,fun i hi he=>hh((putD_has hk val(key k)k).2⟨i,hi,he⟩)⟩,fun h=>by omega⟩
end Go.Proofs.YtihplgckbhnohaaGreatDoor

/- A part of the proof. -/
import Derived.Test.YtjganmlaooofoaaGreatDoorF15
import Derived.WideKeyPair
import Derived.DeepKeys4
set_option linter.unusedVariables false
set_option maxRecDepth 20000
set_option maxHeartbeats 4000000
namespace Go.Proofs.YtjganmlaooofoaaGreatDoor
open Go.RowKit Go.Maps
def zE7(v:Value):Option (DataW Value×List MemPlace):=some (.held v,[])
theorem zGY{v:Value}{d:DataW Value}{ps:List MemPlace}(h:zE7 v=some (d,ps)):d = .held v:=by
 unfold zE7 at h;simp only[Option.some.injEq,Prod.mk.injEq]at h;exact h.1.symm
theorem zD2(v:Value):zE7 v=some (.held v,[]):=rfl
theorem zFz{P:Program}(w:World){dA:Array Oper}{rest:List Oper}{o:Oper}{a:Act}{Q:Exit->Act->World->Prop}
  (hg:o.guard=none) (m x:Operand) (t:TypeId) (hop:o.op=Op.lookup t m x false)
  (k e:TypeId) (K:Keyed P k) (ht:P.underlying t=some (.map k e)) {z:Value} (hz:(zeroValue e).run P w = .ok z w) (b n:Nat) (D:DataW Value)
  (hm:a.eval m = .map (some b)) (bA:w.ownsMap P k zE7 b n D) (key:Value) (kl:Lit) (hx:a.eval x=key) (aA:keyOf P k key=some kl)
  (v:Value) (fA:D.atKey kl (.held z) = .held v) (hK:wpList P dA Q rest (a.put o.dst v) w) :
  wpList P dA Q (o :: rest) a w:=by
 refine wpList_plain hg fun K' eA=>?_
 obtain⟨v',ps,cA,hv⟩:=bA.lookup K ht hz (zD2 z) aA;have e1:=zGY hv;rw[fA]at e1;injection e1 with e1;subst e1;unfold Oper.wp;simp[execOp,hop,hm,hx,cA,Result.andThen];exact eA _ _ hK
theorem zCD{P:Program}(w:World){cA:Array Oper}{rest:List Oper}{o:Oper}{a:Act}{Q:Exit->Act->World->Prop}
  (hg:o.guard=none) (m x:Operand) (t:TypeId) (hop:o.op=Op.lookup t m x true)
  (k e:TypeId) (K:Keyed P k) (ht:P.underlying t=some (.map k e)) {z:Value} (hz:(zeroValue e).run P w = .ok z w) (b n:Nat) (D:DataW Value)
  (hm:a.eval m = .map (some b)) (bA:w.ownsMap P k zE7 b n D) (key:Value) (kl:Lit) (hx:a.eval x=key) (aA:keyOf P k key=some kl)
  (v:Value) (dA:D.atKey kl (.held z) = .held v) (c:Bool) (hc:Maps.has D kl=c) (hK:wpList P cA Q rest (a.put o.dst (.tuple #[v,.bool c])) w) :
  wpList P cA Q (o :: rest) a w:=by
 refine wpList_lookup_own_ok w hg m x t hop k e K ht zE7 hz (.held z) [] (zD2 z) b n D hm bA key kl hx aA (fun v' ps hv=>?_);have e1:=zGY hv;rw[dA]at e1;injection e1 with e1;subst e1;rw[hc];exact hK
def putD(key:Nat->Lit)(val:Nat->Value):Nat->DataW Value
 | 0=>.map []
 | k+1=>(putD key val k).put (key k) (.held (val k))
def zF2(key:Nat->Lit):Prop:=∀i,WideAt.IsKeyLit (key i)
theorem zFH{key:Nat->Lit}(hk:zF2 key)(val:Nat->Value):∀k,Tidy (putD key val k)
 | 0=>tidy_empty
 | k+1=>(zFH hk val k).put (hk k) _
theorem zHz{key:Nat->Lit}(hk:zF2 key)(val:Nat->Value)(l:Lit):∀k,Maps.has (putD key val k) l=true↔∃i,i<k/\key i=l
 | 0=>by
  constructor
  ·intro h;exact absurd h (by simp[putD,Maps.has])
  ·rintro⟨i,hi,_⟩;omega
 | k+1=>by
  by_cases hx:key k=l
  ·subst hx;exact⟨fun _=>⟨k,by omega,rfl⟩,fun _=>has_put_same (zFH hk val k).isMap (hk k) _⟩
  ·rw[show Maps.has (putD key val (k+1)) l=Maps.has (putD key val k) l from has_put_other (Ne.symm hx) _,zHz hk val l k];constructor
   ·rintro⟨i,hi,e⟩;exact⟨i,by omega,e⟩
   ·rintro⟨i,hi,e⟩;by_cases h:i=k
    ·subst h;exact absurd e hx
    ·exact⟨i,by omega,e⟩
theorem zIM{key:Nat->Lit}(hk:zF2 key)(val:Nat->Value){l:Lit}{k:Nat}(h:∀i,i<k->key i≠l)(z:DataW Value):(putD key val k).atKey l z=z:=by
 refine atKey_of_not_has ?_ _;rw[Bool.eq_false_iff];intro hh;obtain⟨i,hi,e⟩:=(zHz hk val l k).1 hh;exact h i hi e
theorem zL7{key:Nat->Lit}(hk:zF2 key)(val:Nat->Value)(z:DataW Value):∀k i,i<k->(∀j,i<j->j<k->key j≠key i)->(putD key val k).atKey (key i) z = .held (val i)
 | 0,i,hi,_=>absurd hi (Nat.not_lt_zero _)
 | k+1,i,hi,hd=>by
  by_cases e:i=k
  ·subst e;exact atKey_put_same (zFH hk val i).isMap (hk i) _ _
  ·exact(atKey_put_other (Ne.symm (hd k (by omega) (by omega))) _ _).trans (zL7 hk val z k i (by omega) (fun j h1 h2=>hd j h1 (by omega)))
def zJW(n:Nat)(key:Nat->Lit):Prop:=∀i,i<n->∀k,k<i->key k≠key i
theorem zI5{k:Nat}{f:Nat->Lit}:zJW (k+1) f↔zJW k f/\∀i,i<k->f i≠f k:=by
 constructor
 ·exact fun h=>⟨fun i hi=>h i (by omega),fun i hi=>h k (by omega) i hi⟩
 ·rintro⟨h1,h2⟩ i hi j hj;by_cases e:i=k
  ·subst e;exact h2 j hj
  ·exact h1 i (by omega) j hj
theorem zK1{key:Nat->Lit}(hk:zF2 key)(val:Nat->Value):∀k,Maps.size (putD key val k)<=k/\(Maps.size (putD key val k)=k↔zJW k key)
 | 0=>⟨Nat.le_refl _,fun _ i hi=>by omega,fun _=>rfl⟩
 | k+1=>by
  obtain⟨h1,h2⟩:=zK1 hk val k;have e:Maps.size (putD key val (k+1))=if Maps.has (putD key val k) (key k)then Maps.size (putD key val k)else Maps.size (putD key val k)+1:=size_put (zFH hk val k) _
  by_cases hh:Maps.has (putD key val k) (key k)=true
  ·rw[if_pos hh]at e;rw[e,zI5];refine⟨by omega,fun h=>by omega,fun h=>?_⟩;obtain⟨i,hi,he⟩:=(zHz hk val (key k) k).1 hh;exact absurd he (h.2 i hi)
  ·rw[if_neg hh]at e;rw[e,zI5,<-h2];refine⟨by omega,fun h=>⟨by omega,fun i hi he=>hh ((zHz hk val (key k) k).2 ⟨i,hi,he⟩)⟩,fun h=>by omega⟩
theorem zHd(n:Int)(w:World):Calls Tryz.prog 65 #[.int .i64 n] w fun e w'=>zL (zGl n 1 900000) e/\w'=w:=by
 by_cases h1:1<=n
 ·by_cases h2:n<=900000
  ·go_enter Tryz.func65,Tryz.ntmps65;go_wp2;go_ret;exact⟨zL.yes ⟨h1,h2⟩,rfl⟩
  ·go_enter Tryz.func65,Tryz.ntmps65;go_wp2;go_ret;exact⟨zL.no fun h=>by have:=h.2;omega,rfl⟩
 ·go_enter Tryz.func65,Tryz.ntmps65;go_wp2;go_ret;exact⟨zL.no fun h=>by have:=h.1;omega,rfl⟩
def Mid(a x b:Int):Prop:=a<x/\x<b
theorem zLJ(a x b:Int)(w:World):Calls Tryz.prog 112 #[.int .i64 a,.int .i64 x,.int .i64 b] w fun e w'=>zL (Mid a x b) e/\w'=w:=by
 by_cases h1:a<x
 ·by_cases h2:x<b
  ·go_enter Tryz.func112,Tryz.ntmps112;go_wp2;go_ret;exact⟨zL.yes ⟨h1,h2⟩,rfl⟩
  ·go_enter Tryz.func112,Tryz.ntmps112;go_wp2;go_ret;exact⟨zL.no fun h=>by have:=h.2;omega,rfl⟩
 ·go_enter Tryz.func112,Tryz.ntmps112;go_wp2;go_ret;exact⟨zL.no fun h=>by have:=h.1;omega,rfl⟩
def zGR(f:Nat->qi):Nat->ByteArray
 | 0=>⟨#[]⟩
 | k+1=>(f k).name
def zbs(n:Nat)(f:Nat->qi):Prop:=n<=8/\∀i,i<n->zA0 (f i).name/\zBm (zGR f i) (f i).name
theorem zOa(v:Value)(n lo hi:Nat)(f:Nat->qi)(w:World)(h:zCo w lo hi v n f) :
  Calls Tryz.prog 66 #[v] w fun e w'=>zL (zbs n f) e/\Below w.heap.size w w':=by
 have Hp:=zC h;obtain⟨m1,a,c,rfl,mc,-⟩:=id h;unfold maxLen at m1;clear h;by_cases hn:n<=8;rotate_left
 ·have kA:(8:Int)<(n:Int):=(by omega);go_enter Tryz.func66,Tryz.ntmps66;go_wp2;go_ret;exact⟨zL.no fun h=>hn h.1,Below.refl _ _⟩
 have kA:¬(8:Int)<(n:Int):=by omega
 go_enter Tryz.func66,Tryz.ntmps66;go_wp2
 go_loopw [3,11] (fun l i wr=>∃k:Nat,k<=n/\i = .int .i64 k/\l = .string (zGR f k)/\(∀j,j<k->zA0 (f j).name/\zBm (zGR f j) (f j).name)/\Below w.heap.size w wr) (fun _ i _=>n - (intOf i).toNat)
 case atStart=>exact⟨0,Nat.zero_le _,rfl,rfl,fun j hj=>absurd hj (Nat.not_lt_zero _),Below.refl _ _⟩
 case round=>
  obtain⟨k,hk,rfl,rfl,cA,hb⟩:=hrel;have bA:=zC cA;clear cA;by_cases dA:k<n;rotate_left
  ·obtain rfl:k=n:=(by omega);go_wp2;go_ret;exact⟨zL.yes ⟨hn,bA.out⟩,hb⟩
  have jA:(k:Int)<(n:Int):=(by omega);obtain⟨b,off,vd,rfl,aA⟩:=(Hp.out.zeF hb).cells dA;obtain⟨-,ad,cd,rfl,-,-⟩:=id aA.dead;have gA:=zD wr (.cells #[.string (f k).name,.int .i64 (f k).origin,.int .i64 (f k).zeL,.int .i64 (f k).rs,.int .i64 (f k).rb,.slice ad (f k).dn cd] 44);have iA:=zC (zAN.new wr (.string (f k).name) (.int .i64 (f k).origin) (.int .i64 (f k).zeL) (.int .i64 (f k).rs) (.int .i64 (f k).rb) (.slice ad (f k).dn cd) 44);have fA:=zA hb gA;have q0:=aA.c0;have q1:=aA.c1;have q2:=aA.c2;have q3:=aA.c3;have q4:=aA.c4;have q5:=aA.c5;have lA:=aA.zeP;obtain⟨⟨y0,y1⟩,-⟩:=iA.out;clear aA gA;go_wp2_with fail;clear q0 q1 q2 q3 q4 q5;refine(zGx (f k).name _ lA).mono ?_;rintro e wn ⟨⟨tn,rfl,eA⟩,rfl⟩;by_cases hA:zA0 (f k).name;rotate_left
  ·have Hn:=zC hA;obtain rfl:tn=false:=qj eA hA;clear eA hA;go_wp2;go_ret;exact⟨zL.no fun h=>Hn.out (h.2 k dA).1,fA⟩
  have HA:=zC hA;obtain rfl:tn=true:=eA.2 hA;clear eA hA;by_cases hR:zBm (zGR f k) (f k).name
  ·have f1:=(zVD (f k).name (zGR f k)).2 hR;have HR:=zC hR;clear hR;go_wp2;go_roundw
   case rel=>exact⟨k+1,by omega,by go_num,rfl,yJ dA bA.out ⟨HA.out,HR.out⟩,fA⟩
   case measure=>simp[intOf];omega
  ·have f1:(Op.bytesLess (f k).name.toList (zGR f k).toList || (f k).name.toList == (zGR f k).toList)=true:=by
    cases hc:(Op.bytesLess (f k).name.toList (zGR f k).toList || (f k).name.toList == (zGR f k).toList)
    ·exact absurd ((zVD _ _).1 hc) hR
    ·rfl
   have HR:=zC hR;clear hR;go_wp2;go_ret;exact⟨zL.no fun h=>HR.out (h.2 k dA).2,fA⟩
theorem zYk:laidOutB Tryz.prog=true:=by kernel_rfl
theorem zcc:300<=Tryz.prog.types.size+300 - 1/\1<=Tryz.prog.types.size:=by
 have h:decide (1<=Tryz.prog.types.size)=true:=by kernel_rfl
 have:=of_decide_eq_true h;omega
theorem zYm{k:Nat}(h:decide (k<Tryz.prog.types.size)=true):k<Tryz.prog.types.size:=of_decide_eq_true h
theorem zeE:Tryz.prog.underlying 9=some .string:=by kernel_rfl
theorem zdY:Tryz.prog.underlying 2=some (.int .i64):=by kernel_rfl
theorem zT8:Keyed Tryz.prog 9:=string_keyed zeE
theorem zdZ:Keyed Tryz.prog 2:=int_keyed zdY
def zEH(s:ByteArray):Lit:=.string s.data.toList
theorem zJ2{s:ByteArray}(h:s.size<=maxLen):keyOf Tryz.prog 9 (.string s)=some (zEH s):=by simp[keyOf,mapKey,zEH,h]
theorem zM3{s t:ByteArray}(h:zEH s=zEH t):s=t:=by
 unfold zEH at h;injection h with h;cases s;cases t;simp only[ByteArray.mk.injEq];exact Array.toList_inj.1 h
theorem zM4(s:ByteArray):WideAt.IsKeyLit (zEH s):=trivial
def zQY(x:Int):Lit:=.int .i64 x
theorem zU7{x:Int}(h:(Lit.int .i64 x).wf=true):keyOf Tryz.prog 2 (.int .i64 x)=some (zQY x):=keyOf_int_mk zdY h
theorem zR4{x y:Int}(h:zQY x=zQY y):x=y:=by unfold zQY at h;injection h
theorem zYj(x:Int):WideAt.IsKeyLit (zQY x):=trivial
theorem zd3:Tryz.prog.underlying 179=some (.array 2 9):=by kernel_rfl
theorem zc1:Keyed Tryz.prog 179:=Keyed.of_law (deep_law_laid zYk (m:=5) (by decide) (zYm (by kernel_rfl)) (by kernel_rfl) (by kernel_rfl))
theorem zbA{s t:ByteArray}(hs:s.size<=maxLen)(ht:t.size<=maxLen):∃l,keyOf Tryz.prog 179 (.agg #[.string s,.string t])=some l:=by
 obtain⟨m,hm⟩:∃m,Tryz.prog.types.size+1=m+2:=⟨Tryz.prog.types.size - 1,by have:=zcc;omega⟩;have hk:Tryz.prog.keyType 179=true:=by kernel_rfl
 have hc:Tryz.prog.cellsOf 179=2:=by kernel_rfl
 have h1:Tryz.prog.cellsOf 9=1:=by kernel_rfl
 unfold keyOf;simp only[zd3];rw[if_pos (by simp[hk,Value.formed,hc]),hm];unfold Program.keyLits;simp only[zd3,Value.cells];rw[if_pos (by rw[hc];rfl),show List.range 2 = [0,1] from rfl,List.mapM_cons,List.mapM_cons,List.mapM_nil];simp[h1,Program.keyLits,hs,ht]
theorem zdw:Tryz.prog.underlying 38=some (.struct #[⟨ "Slot",2,0,false, "", "",0⟩,⟨ "Birth",2,1,false, "", "",8⟩]):=by kernel_rfl
theorem zc0:Keyed Tryz.prog 38:=Keyed.of_law (deep_law_laid zYk (m:=5) (by decide) (zYm (by kernel_rfl)) (by kernel_rfl) (by kernel_rfl))
theorem za9{x y:Int}(hx:(Lit.int .i64 x).wf=true)(hy:(Lit.int .i64 y).wf=true):∃l,keyOf Tryz.prog 38 (.agg #[.int .i64 x,.int .i64 y])=some l:=by
 obtain⟨m,hm⟩:∃m,Tryz.prog.types.size+1=m+2:=⟨Tryz.prog.types.size - 1,by have:=zcc;omega⟩;have hk:Tryz.prog.keyType 38=true:=by kernel_rfl
 have hc:Tryz.prog.cellsOf 38=2:=by kernel_rfl
 have h1:Tryz.prog.cellsOf 2=1:=by kernel_rfl
 unfold keyOf;simp only[zdw];rw[if_pos (by simp[hk,Value.formed,hc]),hm];unfold Program.keyLits;simp only[zdw,Value.cells];rw[if_pos ⟨by rw[hc];rfl,by kernel_rfl⟩];simp[h1,Program.keyLits,hx,hy]
def zHG(vd:Value)(s:qi):Value:=.agg #[.string s.name,.int .i64 s.origin,.int .i64 s.zeL,.int .i64 s.rs,.int .i64 s.rb,vd]
def zCi(vd:Value)(s:zl):Value:=.agg #[.int .i64 s.id,.string s.name,.string s.set,.int .i64 s.zeL,.int .i64 s.time,.int .i64 s.rs,.int .i64 s.rb,vd]
def zJc(w:World)(lo hi n:Nat)(f:Nat->qi)(vd:Nat->Value):Prop:=∀i,i<n->qn w lo hi (vd i) (f i).dn (f i).ds (f i).db
def zH6(w:World)(lo hi n:Nat)(f:Nat->zl)(vd:Nat->Value):Prop:=∀i,i<n->qn w lo hi (vd i) (f i).dn (f i).ds (f i).db
open Classical in
theorem zCo.vals{w:World}{lo hi:Nat}{a:Option Addr}{n c:Nat}{f:Nat->qi}(h:zCo w lo hi (.slice a n c) n f):∃vd:Nat->Value,zJc w lo hi n f vd/\∀i,i<n->∃b off,a=some ⟨b,off,none⟩/\zDr w b (off+i*6) lo hi (vd i) (f i):=by
 have hx:∀i,∃v,i<n->∃b off,a=some ⟨b,off,none⟩/\zDr w b (off+i*6) lo hi v (f i):=fun i=>by
  by_cases aA:i<n
  ·obtain⟨b,off,vd,ha,hs⟩:=h.cells aA;exact⟨vd,fun _=>⟨b,off,ha,hs⟩⟩
  ·exact⟨undef,fun h=>absurd h aA⟩
 refine⟨fun i=>(hx i).choose,fun i aA=>?_,fun i aA=>(hx i).choose_spec aA⟩;obtain⟨b,off,_,hs⟩:=(hx i).choose_spec aA;exact hs.dead
open Classical in
theorem zB1.vals{w:World}{lo hi:Nat}{a:Option Addr}{n c:Nat}{f:Nat->zl}(h:zB1 w lo hi (.slice a n c) n f):∃vd:Nat->Value,zH6 w lo hi n f vd/\∀i,i<n->∃b off,a=some ⟨b,off,none⟩/\zDD w b (off+i*8) lo hi (vd i) (f i):=by
 have hx:∀i,∃v,i<n->∃b off,a=some ⟨b,off,none⟩/\zDD w b (off+i*8) lo hi v (f i):=fun i=>by
  by_cases aA:i<n
  ·obtain⟨b,off,vd,ha,hs⟩:=h.cells aA;exact⟨vd,fun _=>⟨b,off,ha,hs⟩⟩
  ·exact⟨undef,fun h=>absurd h aA⟩
 refine⟨fun i=>(hx i).choose,fun i aA=>?_,fun i aA=>(hx i).choose_spec aA⟩;obtain⟨b,off,_,hs⟩:=(hx i).choose_spec aA;exact hs.dead
theorem zNt:Tryz.prog.underlying 78=some (.map 9 44):=by kernel_rfl
theorem zaL:Tryz.prog.underlying 120=some (.map 2 41):=by kernel_rfl
theorem zX0:Tryz.prog.underlying 178=some (.map 179 2):=by kernel_rfl
def zDV(w:World)(W:zB)(M n:Nat)(vd:Nat->Value):Prop:=w.ownsMap Tryz.prog 9 zE7 M n (putD (fun i=>zEH (W.zeK i).name) (fun i=>zHG (vd i) (W.zeK i)) n)
def zFO(w:World)(W:zB)(M n:Nat)(vd:Nat->Value):Prop:=w.ownsMap Tryz.prog 2 zE7 M n (putD (fun i=>zQY (W.zeJ i).id) (fun i=>zCi (vd i) (W.zeJ i)) n)
theorem zDV.zeF{w w':World}{W:zB}{M n:Nat}{vd:Nat->Value}(h:zDV w W M n vd)(t:Below w.heap.size w w'):zDV w' W M n vd:=h.kept (zC0 t none) (by simp)
theorem zFO.zeF{w w':World}{W:zB}{M n:Nat}{vd:Nat->Value}(h:zFO w W M n vd)(t:Below w.heap.size w w'):zFO w' W M n vd:=h.kept (zC0 t none) (by simp)
theorem zDA(v0 v1 v2 v3:Value)(lo hi:Nat)(W:zB)(w:World)(h:yO w lo hi v0 v1 v2 v3 W)(hn:W.sn<=8) :
  Calls Tryz.prog 40 #[zA8 v0 v1 v2 v3 W] w fun e w'=>∃vd,e = .returned (.map (some (w.heap.size+1)))/\zDV w' W (w.heap.size+1) W.sn vd/\zJc w lo hi W.sn W.zeK vd/\Below w.heap.size w w':=by
 have Hp:=zC h;obtain⟨m1,a,c,rfl,mc,-⟩:=id h.zeK;unfold maxLen at m1;obtain⟨vd,rA,oA⟩:=h.zeK.vals;have vA:=zC rA;have tA:=zC oA;clear h rA oA;have ha:=zD w (.cells #[v0,v1,.int .i64 W.time,.int .i64 W.next,.slice a W.sn c,v3] 30);have HB:=zC (zAN.new w v0 v1 (.int .i64 W.time) (.int .i64 W.next) (.slice a W.sn c) v3 30);have kA:(w.alloc (.cells #[v0,v1,.int .i64 W.time,.int .i64 W.next,.slice a W.sn c,v3] 30)).heap.size=w.heap.size+1:=World.size_alloc _ _;have hm:=World.ownsMap_made (w.alloc (.cells #[v0,v1,.int .i64 W.time,.int .i64 W.next,.slice a W.sn c,v3] 30)) Tryz.prog 9 zE7;rw[kA]at hm;have HM:=zC hm;have lA:=zC (HB.out.zeF (zD _ (.map #[] 0)));have mA:=zC (zA ha (zD _ (.map #[] 0)));have fB:=@run_makeMap Tryz.prog;obtain⟨x0,x2,x4,x6,x8,eB⟩:=lA.out.c;clear hm;go_enter Tryz.func40,Tryz.ntmps40;go_wp2;clear x0 x2 x4 x6 x8 eB ha
 go_loopw [10] (fun i wr=>∃k:Nat,k<=W.sn/\i = .int .i64 k/\zDV wr W (w.heap.size+1) k vd/\Below w.heap.size w wr/\w.heap.size+2<=wr.heap.size) (fun i _=>W.sn - (intOf i).toNat)
 case atStart=>exact⟨0,Nat.zero_le _,rfl,HM.out,mA.out,by rw[World.size_alloc,kA];omega⟩
 case round=>
  clear HM lA mA HB kA;obtain⟨k,hk,rfl,eA,hb,hz⟩:=hrel;have cA:=zC eA;clear eA;by_cases bB:k<W.sn
  ·have cB:(k:Int)<(W.sn:Int):=(by omega);obtain⟨b,off,rfl,pA⟩:=tA.out k bB;have bA:=pA.zeF hb;obtain⟨-,ad,cd,jA,-,-⟩:=id bA.dead;have aB:=zC jA;rw[jA]at bA;clear jA pA;have gA:=zD wr (.cells #[.string (W.zeK k).name,.int .i64 (W.zeK k).origin,.int .i64 (W.zeK k).zeL,.int .i64 (W.zeK k).rs,.int .i64 (W.zeK k).rb,.slice ad (W.zeK k).dn cd] 44);have sA:=zC (zAN.new wr (.string (W.zeK k).name) (.int .i64 (W.zeK k).origin) (.int .i64 (W.zeK k).zeL) (.int .i64 (W.zeK k).rs) (.int .i64 (W.zeK k).rb) (.slice ad (W.zeK k).dn cd) 44);have nA:=zA hb gA;have q0:=bA.c0;have q1:=bA.c1;have q2:=bA.c2;have q3:=bA.c3;have q4:=bA.c4;have q5:=bA.c5;have iA:=zC (zJ2 bA.zeP);obtain⟨⟨y0,y1⟩,⟨y2,y3⟩,⟨y4,y5⟩,⟨y6,y7⟩,⟨y8,y9⟩,⟨iB,jB⟩⟩:=sA.out;have dA:=zC (cA.out.zeF gA);have gB:=gA.size;clear bA gA;go_wp2_with (first
    | (at_mapUpdate;refine wpList_mapUpdate_own _ rfl _ _ _ 78 rfl 9 44 zT8 zNt zE7 (w.heap.size+1) k _ rfl dA.out (by unfold maxLen;omega) _ _ _ rfl rfl iA.out _ [] (zD2 _) ?_;intro w1 fA aA)
    | go_in)
   go_roundw
   case rel=>
    refine⟨k+1,by omega,by go_num,?_,nA.grown aA nA.size (fun j hj=>by cases hj;omega),by have:=aA.size;omega⟩;unfold zDV putD zHG;rw[aB.out];exact fA
   case measure=>simp[intOf];omega
  ·obtain rfl:k=W.sn:=(by omega);go_wp2;go_ret;exact⟨vd,rfl,cA.out,vA.out,hb⟩
def zRC(n:Nat)(f:Nat->zl):Prop:=∀i,i<n->(Lit.int .i64 (f i).id).wf=true
theorem zOc(v0 v1 v2 v3:Value)(lo hi:Nat)(W:zB)(w:World)(h:yO w lo hi v0 v1 v2 v3 W)(hn:W.pn<=20)(tA:zRC W.pn W.zeJ) :
  Calls Tryz.prog 88 #[zA8 v0 v1 v2 v3 W] w fun e w'=>∃vd,e = .returned (.map (some (w.heap.size+1)))/\zFO w' W (w.heap.size+1) W.pn vd/\zH6 w lo hi W.pn W.zeJ vd/\Below w.heap.size w w':=by
 have Hp:=zC h;have eB:=zC tA;obtain⟨m1,a,c,rfl,mc,-⟩:=id h.zeJ;unfold maxLen at m1;obtain⟨vd,sA,oA⟩:=h.zeJ.vals;have bB:=zC sA;have aB:=zC oA;clear h sA oA tA;have ha:=zD w (.cells #[v0,v1,.int .i64 W.time,.int .i64 W.next,v2,.slice a W.pn c] 30);have HB:=zC (zAN.new w v0 v1 (.int .i64 W.time) (.int .i64 W.next) v2 (.slice a W.pn c) 30);have kA:(w.alloc (.cells #[v0,v1,.int .i64 W.time,.int .i64 W.next,v2,.slice a W.pn c] 30)).heap.size=w.heap.size+1:=World.size_alloc _ _;have hm:=World.ownsMap_made (w.alloc (.cells #[v0,v1,.int .i64 W.time,.int .i64 W.next,v2,.slice a W.pn c] 30)) Tryz.prog 2 zE7;rw[kA]at hm;have HM:=zC hm;have lA:=zC (HB.out.zeF (zD _ (.map #[] 0)));have mA:=zC (zA ha (zD _ (.map #[] 0)));have iB:=@run_makeMap Tryz.prog;obtain⟨x0,x2,x4,x6,x8,gB⟩:=lA.out.c;clear hm;go_enter Tryz.func88,Tryz.ntmps88;go_wp2;clear x0 x2 x4 x6 x8 gB ha
 go_loopw [10] (fun i wr=>∃k:Nat,k<=W.pn/\i = .int .i64 k/\zFO wr W (w.heap.size+1) k vd/\Below w.heap.size w wr/\w.heap.size+2<=wr.heap.size) (fun i _=>W.pn - (intOf i).toNat)
 case atStart=>exact⟨0,Nat.zero_le _,rfl,HM.out,mA.out,by rw[World.size_alloc,kA];omega⟩
 case round=>
  clear HM lA mA HB kA;obtain⟨k,hk,rfl,eA,hb,hz⟩:=hrel;have cA:=zC eA;clear eA;by_cases pA:k<W.pn
  ·have fB:(k:Int)<(W.pn:Int):=(by omega);obtain⟨b,off,rfl,rA⟩:=aB.out k pA;have bA:=rA.zeF hb;obtain⟨-,ad,cd,jA,-,-⟩:=id bA.dead;have cB:=zC jA;rw[jA]at bA;clear jA rA;have gA:=zD wr (.cells #[.int .i64 (W.zeJ k).id,.string (W.zeJ k).name,.string (W.zeJ k).set,.int .i64 (W.zeJ k).zeL,.int .i64 (W.zeJ k).time,.int .i64 (W.zeJ k).rs,.int .i64 (W.zeJ k).rb,.slice ad (W.zeJ k).dn cd] 41);have vA:=zC (zF0.new wr (.int .i64 (W.zeJ k).id) (.string (W.zeJ k).name) (.string (W.zeJ k).set) (.int .i64 (W.zeJ k).zeL) (.int .i64 (W.zeJ k).time) (.int .i64 (W.zeJ k).rs) (.int .i64 (W.zeJ k).rb) (.slice ad (W.zeJ k).dn cd) 41);have nA:=zA hb gA;have q0:=bA.c0;have q1:=bA.c1;have q2:=bA.c2;have q3:=bA.c3;have q4:=bA.c4;have q5:=bA.c5;have q6:=bA.c6;have q7:=bA.c7;have iA:=zC (zU7 (eB.out k pA));obtain⟨⟨⟨y0,-⟩,⟨y1,-⟩,⟨y2,-⟩,⟨y3,-⟩⟩,⟨y4,-⟩,⟨y5,-⟩,⟨y6,-⟩,⟨y7,-⟩⟩:=vA.out;have dA:=zC (cA.out.zeF gA);have jB:=gA.size;clear bA gA;go_wp2_with (first
    | (at_mapUpdate;refine wpList_mapUpdate_own _ rfl _ _ _ 120 rfl 2 41 zdZ zaL zE7 (w.heap.size+1) k _ rfl dA.out (by unfold maxLen;omega) _ _ _ rfl rfl iA.out _ [] (zD2 _) ?_;intro w1 fA aA)
    | go_in)
   go_roundw
   case rel=>
    refine⟨k+1,by omega,by go_num,?_,nA.grown aA nA.size (fun j hj=>by cases hj;omega),by have:=aA.size;omega⟩;unfold zFO putD zCi;rw[cB.out];exact fA
   case measure=>simp[intOf];omega
  ·obtain rfl:k=W.pn:=(by omega);go_wp2;go_ret;exact⟨vd,rfl,cA.out,bB.out,hb⟩
def zFK(n:Nat)(f:Nat->zl):Prop:=∀i,i<n->∀k,k<i->¬((f k).set=(f i).set/\(f k).name=(f i).name)
theorem zFK.iff{n:Nat}{f:Nat->zl}{key:Nat->Lit}(hk:∀i,i<n->keyOf Tryz.prog 179 (.agg #[.string (f i).set,.string (f i).name])=some (key i)):zJW n key↔zFK n f:=by
 constructor
 ·intro h i hi k aA e;refine h i hi k aA ?_;have h1:=hk i hi;have h2:=hk k (by omega);rw[e.1,e.2,h1]at h2;exact(Option.some.inj h2).symm
 ·intro h i hi k aA e;have h1:=hk i hi;have h2:=hk k (by omega);rw[e]at h2;have:=zc1.inj h2 h1;simp only[Value.agg.injEq,Array.mk.injEq,List.cons.injEq,Value.string.injEq,and_true]at this;exact h i hi k aA this
theorem zNT(v:Value)(n lo hi:Nat)(f:Nat->zl)(w:World)(h:zB1 w lo hi v n f)(hn:n<=20) :
  Calls Tryz.prog 113 #[v] w fun e w'=>zL (zFK n f) e/\Below w.heap.size w w':=by
 have Hp:=zC h;obtain⟨m1,a,c,rfl,mc,-⟩:=id h;unfold maxLen at m1;have iA:∀i,∃l,WideAt.IsKeyLit l/\(i<n->keyOf Tryz.prog 179 (.agg #[.string (f i).set,.string (f i).name])=some l):=fun i=>by
  by_cases mA:i<n
  ·obtain⟨b,off,vd,_,hs⟩:=h.cells mA;obtain⟨l,hl⟩:=zbA hs.zeP.2 hs.zeP.1;exact⟨l,zc1.key hl,fun _=>hl⟩
  ·exact⟨.string [],trivial,fun h=>absurd h mA⟩
 obtain⟨key,nA,oA⟩:∃key:Nat->Lit,zF2 key/\∀i,i<n->keyOf Tryz.prog 179 (.agg #[.string (f i).set,.string (f i).name])=some (key i):=⟨fun i=>(iA i).choose,fun i=>(iA i).choose_spec.1,fun i=>(iA i).choose_spec.2⟩;have sA:=zC nA;have kA:=zC oA;clear h iA nA oA;have HM:=zC (World.ownsMap_made w Tryz.prog 179 zE7);have aB:=@run_makeMap Tryz.prog;go_enter Tryz.func113,Tryz.ntmps113;go_wp2
 go_loopw [9] (fun i wr=>∃k:Nat,k<=n/\i = .int .i64 k/\wr.ownsMap Tryz.prog 179 zE7 w.heap.size k (putD key (fun i=>.int .i64 (f i).id) k)/\Below w.heap.size w wr/\w.heap.size+1<=wr.heap.size) (fun i _=>n - (intOf i).toNat)
 case atStart=>exact⟨0,Nat.zero_le _,rfl,HM.out,zD _ _,by rw[World.size_alloc];omega⟩
 case round=>
  clear HM;obtain⟨k,hk,rfl,eA,hb,hz⟩:=hrel;have cA:=zC eA;clear eA;by_cases pA:k<n
  ·have vA:(k:Int)<(n:Int):=(by omega);obtain⟨b,off,vd,rfl,bA⟩:=(Hp.out.zeF hb).cells pA;obtain⟨-,ad,cd,rfl,-,-⟩:=id bA.dead;have gA:=zD wr (.cells #[.int .i64 (f k).id,.string (f k).name,.string (f k).set,.int .i64 (f k).zeL,.int .i64 (f k).time,.int .i64 (f k).rs,.int .i64 (f k).rb,.slice ad (f k).dn cd] 41);have rA:=zC (zF0.new wr (.int .i64 (f k).id) (.string (f k).name) (.string (f k).set) (.int .i64 (f k).zeL) (.int .i64 (f k).time) (.int .i64 (f k).rs) (.int .i64 (f k).rb) (.slice ad (f k).dn cd) 41);have lA:=zA hb gA;have q0:=bA.c0;have q1:=bA.c1;have q2:=bA.c2;have q3:=bA.c3;have q4:=bA.c4;have q5:=bA.c5;have q6:=bA.c6;have q7:=bA.c7;have jA:=zC (kA.out k pA);obtain⟨⟨⟨y0,-⟩,⟨y1,-⟩,⟨y2,-⟩,⟨y3,-⟩⟩,⟨y4,-⟩,⟨y5,-⟩,⟨y6,-⟩,⟨y7,-⟩⟩:=rA.out;have dA:=zC (cA.out.kept (zC0 gA none) (by simp));have bB:=gA.size;clear bA gA;go_wp2_with (first
    | (at_mapUpdate;refine wpList_mapUpdate_own _ rfl _ _ _ 178 rfl 179 2 zc1 zX0 zE7 w.heap.size k _ rfl dA.out (by unfold maxLen;omega) _ _ _ rfl rfl jA.out _ [] (zD2 _) ?_;intro w1 fA aA)
    | go_in)
   go_roundw
   case rel=>exact⟨k+1,by omega,by go_num,fA,lA.grown aA lA.size (fun j hj=>by cases hj;omega),by have:=aA.size;omega⟩
   case measure=>simp[intOf];omega
  ·obtain rfl:k=n:=(by omega);have tA:=zC (zK1 sA.out (fun i=>.int .i64 (f i).id) k);have HN:=zC (zFK.iff (f:=f) kA.out);go_wp2_with (first
    | (at_len;refine wpList_len_own _ rfl _ 178 rfl 179 2 zX0 zE7 w.heap.size k _ rfl cA.out ?_)
    | go_in)
   go_ret;refine⟨⟨_,rfl,?_⟩,hb⟩;have h1:=tA.out.2;have h2:=HN.out;simp only[beq_iff_eq,Int.natCast_inj];exact h1.trans h2
def zHn(f:Nat->zl):Nat->zl
 | 0=>zAV
 | k+1=>f k
def zMM(W:zB)(i:Nat):Prop:=qG W (W.zeJ i).set/\zA0 (W.zeJ i).name/\(W.zeJ i).zeL<(W.zeJ i).id/\Mid (zHn W.zeJ i).id (W.zeJ i).id W.next/\Mid (zHn W.zeJ i).time (W.zeJ i).time W.time
def zXw(W:zB):Prop:=W.pn<=20/\(∀i,i<W.pn->zMM W i)/\zFK W.pn W.zeJ
theorem zGk(w:World):(zeroValue 44).run Tryz.prog w = .ok (.agg #[.string ⟨#[]⟩,.int .i64 0,.int .i64 0,.int .i64 0,.int .i64 0,.slice none 0 0]) w:=by kernel_rfl
theorem zPn{W:zB}{vd:Nat->Value}(hd:∀i,i<W.sn->∃a n c,vd i = .slice a n c)(x:ByteArray):∃(s0:ByteArray) (i1 i2 i3 i4:Int) (a:Option Addr) (n c:Nat),(putD (fun i=>zEH (W.zeK i).name) (fun i=>zHG (vd i) (W.zeK i)) W.sn).atKey (zEH x) (.held (.agg #[.string ⟨#[]⟩,.int .i64 0,.int .i64 0,.int .i64 0,.int .i64 0,.slice none 0 0])) = .held (.agg #[.string s0,.int .i64 i1,.int .i64 i2,.int .i64 i3,.int .i64 i4,.slice a n c]):=by
 have hk:zF2 (fun i=>zEH (W.zeK i).name):=fun i=>zM4 _
 have:∀k,k<=W.sn->∃(s0:ByteArray) (i1 i2 i3 i4:Int) (a:Option Addr) (n c:Nat),(putD (fun i=>zEH (W.zeK i).name) (fun i=>zHG (vd i) (W.zeK i)) k).atKey (zEH x) (.held (.agg #[.string ⟨#[]⟩,.int .i64 0,.int .i64 0,.int .i64 0,.int .i64 0,.slice none 0 0])) = .held (.agg #[.string s0,.int .i64 i1,.int .i64 i2,.int .i64 i3,.int .i64 i4,.slice a n c]):=by
  intro k
  induction k with
  | zero=>exact fun _=>⟨⟨#[]⟩,0,0,0,0,none,0,0,zIM hk _ (fun i hi=>absurd hi (Nat.not_lt_zero _)) _⟩
  | succ k ih=>
   intro aA;by_cases e:zEH (W.zeK k).name=zEH x
   ·obtain⟨a,n,c,hv⟩:=hd k (by omega);refine⟨(W.zeK k).name,(W.zeK k).origin,(W.zeK k).zeL,(W.zeK k).rs,(W.zeK k).rb,a,n,c,?_⟩;rw[<-e];refine(atKey_put_same (zFH hk _ k).isMap (hk k) _ _).trans ?_;show DataW.held (zHG (vd k) (W.zeK k))=_;rw[hv];rfl
   ·obtain⟨s0,i1,i2,i3,i4,a,n,c,h⟩:=ih (by omega);exact⟨s0,i1,i2,i3,i4,a,n,c,(atKey_put_other (Ne.symm e) _ _).trans h⟩
 exact this W.sn (Nat.le_refl _)
theorem zSp{W:zB}{vd:Nat->Value}(x:ByteArray):Maps.has (putD (fun i=>zEH (W.zeK i).name) (fun i=>zHG (vd i) (W.zeK i)) W.sn) (zEH x)=true↔qG W x:=by
 rw[zHz (fun i=>zM4 _)];constructor
 ·rintro⟨i,hi,e⟩;exact⟨i,hi,zM3 e⟩
 ·rintro⟨i,hi,e⟩;exact⟨i,hi,by rw[e]⟩
abbrev put8(w:World)(b:Nat)(u0 u1 u2 u3 u4 u5 u6 u7:Value):World:=(((((((w.setCell ⟨b,0,none⟩ u0).setCell ⟨b,1,none⟩ u1).setCell ⟨b,2,none⟩ u2).setCell ⟨b,3,none⟩ u3).setCell ⟨b,4,none⟩ u4).setCell ⟨b,5,none⟩ u5).setCell ⟨b,6,none⟩ u6).setCell ⟨b,7,none⟩ u7
theorem zF0.put{w:World}{b:Nat}{v0 v1 v2 v3 v4 v5 v6 v7:Value}(h:zF0 w b v0 v1 v2 v3 v4 v5 v6 v7)(u0 u1 u2 u3 u4 u5 u6 u7:Value):zF0 (put8 w b u0 u1 u2 u3 u4 u5 u6 u7) b u0 u1 u2 u3 u4 u5 u6 u7:=by
 obtain⟨⟨h0,h1,h2,h3⟩,h4,h5,h6,h7⟩:=h;refine⟨⟨?_,?_,?_,?_⟩,?_,?_,?_,?_⟩
 ·exact(((((((h0.set _).other _ (Or.inr (by omega))).other _ (Or.inr (by omega))).other _ (Or.inr (by omega))).other _ (Or.inr (by omega))).other _ (Or.inr (by omega))).other _ (Or.inr (by omega))).other _ (Or.inr (by omega))
 ·exact(((((((h1.other _ (Or.inr (by omega))).set _).other _ (Or.inr (by omega))).other _ (Or.inr (by omega))).other _ (Or.inr (by omega))).other _ (Or.inr (by omega))).other _ (Or.inr (by omega))).other _ (Or.inr (by omega))
 ·exact(((((((h2.other _ (Or.inr (by omega))).other _ (Or.inr (by omega))).set _).other _ (Or.inr (by omega))).other _ (Or.inr (by omega))).other _ (Or.inr (by omega))).other _ (Or.inr (by omega))).other _ (Or.inr (by omega))
 ·exact(((((((h3.other _ (Or.inr (by omega))).other _ (Or.inr (by omega))).other _ (Or.inr (by omega))).set _).other _ (Or.inr (by omega))).other _ (Or.inr (by omega))).other _ (Or.inr (by omega))).other _ (Or.inr (by omega))
 ·exact(((((((h4.other _ (Or.inr (by omega))).other _ (Or.inr (by omega))).other _ (Or.inr (by omega))).other _ (Or.inr (by omega))).set _).other _ (Or.inr (by omega))).other _ (Or.inr (by omega))).other _ (Or.inr (by omega))
 ·exact(((((((h5.other _ (Or.inr (by omega))).other _ (Or.inr (by omega))).other _ (Or.inr (by omega))).other _ (Or.inr (by omega))).other _ (Or.inr (by omega))).set _).other _ (Or.inr (by omega))).other _ (Or.inr (by omega))
 ·exact(((((((h6.other _ (Or.inr (by omega))).other _ (Or.inr (by omega))).other _ (Or.inr (by omega))).other _ (Or.inr (by omega))).other _ (Or.inr (by omega))).other _ (Or.inr (by omega))).set _).other _ (Or.inr (by omega))
 ·exact(((((((h7.other _ (Or.inr (by omega))).other _ (Or.inr (by omega))).other _ (Or.inr (by omega))).other _ (Or.inr (by omega))).other _ (Or.inr (by omega))).other _ (Or.inr (by omega))).other _ (Or.inr (by omega))).set _
theorem zJ.put8(w:World)(b:Nat)(u0 u1 u2 u3 u4 u5 u6 u7:Value):zJ (fun k=>k=b) w (put8 w b u0 u1 u2 u3 u4 u5 u6 u7):=
 (((((((zJ.put w b 0 u0).trans (zJ.put _ b 1 u1)).trans (zJ.put _ b 2 u2)).trans (zJ.put _ b 3 u3)).trans (zJ.put _ b 4 u4)).trans (zJ.put _ b 5 u5)).trans (zJ.put _ b 6 u6)).trans (zJ.put _ b 7 u7)
theorem zDV.put8{w:World}{W:zB}{M n b:Nat}{vd:Nat->Value}(h:zDV w W M n vd)(hb:M≠b)(u0 u1 u2 u3 u4 u5 u6 u7:Value):zDV (Go.Proofs.YtjganmlaooofoaaGreatDoor.put8 w b u0 u1 u2 u3 u4 u5 u6 u7) W M n vd:=
 (((((((World.ownsMap.setCell h hb u0).setCell hb u1).setCell hb u2).setCell hb u3).setCell hb u4).setCell hb u5).setCell hb u6).setCell hb u7
theorem zTN{B:Nat}{w w':World}(h:Below B w w'){b:Nat}(hb:B<=b)(u0 u1 u2 u3 u4 u5 u6 u7:Value):Below B w (put8 w' b u0 u1 u2 u3 u4 u5 u6 u7):=
 (((((((h.setCell hb u0).setCell hb u1).setCell hb u2).setCell hb u3).setCell hb u4).setCell hb u5).setCell hb u6).setCell hb u7
theorem zNy(v0 v1 v2 v3:Value)(lo hi:Nat)(W:zB)(w:World)(h:yO w lo hi v0 v1 v2 v3 W)(hs:W.sn<=8) :
  Calls Tryz.prog 67 #[zA8 v0 v1 v2 v3 W] w fun e w'=>zL (zXw W) e/\Below w.heap.size w w':=by
 have Hp:=zC h;obtain⟨m1,a,c,rfl,mc,-⟩:=id h.zeJ;unfold maxLen at m1;clear h;have ha:=zD w (.cells #[v0,v1,.int .i64 W.time,.int .i64 W.next,v2,.slice a W.pn c] 30);have HB:=zC (zAN.new w v0 v1 (.int .i64 W.time) (.int .i64 W.next) v2 (.slice a W.pn c) 30);obtain⟨x0,x2,x4,x6,x8,iA⟩:=HB.out.c;by_cases hn:W.pn<=20;rotate_left
 ·have dC:(20:Int)<(W.pn:Int):=(by omega);go_enter Tryz.func67,Tryz.ntmps67;go_wp2;go_ret;exact⟨zL.no fun h=>hn h.1,ha⟩
 have dC:¬(20:Int)<(W.pn:Int):=by omega
 go_enter Tryz.func67,Tryz.ntmps67;go_wp2_with fail;clear x0 x2 x4 x6 x8 iA;generalize w.alloc (.cells #[v0,v1,.int .i64 W.time,.int .i64 W.next,v2,.slice a W.pn c] 30)=W0 at ha HB ⊢;refine(zDA v0 v1 v2 _ lo hi W W0 (Hp.out.zeF ha) hs).mono ?_;rintro e w1 ⟨vd,rfl,gA,sB,iB⟩;have pB:∀i,i<W.sn->∃a n c,vd i = .slice a n c:=fun i bC=>by
  obtain⟨_,aa,cc,hv,_⟩:=sB i bC;exact⟨aa,_,cc,hv⟩
 have nA:=zC (zPn pB);have mA:=zC (zSp (W:=W) (vd:=vd));have rA:=zD w1 (.cells #[.int .i64 0,.string ⟨#[]⟩,.string ⟨#[]⟩,.int .i64 0,.int .i64 0,.int .i64 0,.int .i64 0,.slice none 0 0] 41);have cB:=zC ((HB.out.zeF iB).zeF rA);have sA:=zC (zF0.new w1 (.int .i64 0) (.string ⟨#[]⟩) (.string ⟨#[]⟩) (.int .i64 0) (.int .i64 0) (.int .i64 0) (.int .i64 0) (.slice none 0 0) 41);have tA:=zC (gA.zeF rA);have lB:=zC (zA (zA ha iB) rA);have nB:W0.heap.size+1<w1.heap.size:=gA.lt;have mB:=zC (show w.heap.size<W0.heap.size+1 by have:=HB.out.1.lt;omega);clear gA sB pB iB rA ha HB;obtain⟨x0,x2,x4,x6,x8,iA⟩:=cB.out.c;go_wp2;clear x0 x2 x4 x6 x8 iA;obtain⟨L,hL⟩:∃L,L=w1.heap.size:=⟨_,rfl⟩;rw[<-hL]at sA nB ⊢;obtain⟨M,hM⟩:∃M,M=W0.heap.size+1:=⟨_,rfl⟩;rw[<-hM]at tA nB mB ⊢;have fC:w.heap.size<L:=by have:=mB.out;omega
 go_loopw [18] (fun i wr=>∃(k:Nat) (al:Option Addr) (nl cl:Nat),k<=W.pn/\i = .int .i64 k/\(∀j,j<k->zMM W j)/\zF0 wr L (.int .i64 (zHn W.zeJ k).id) (.string (zHn W.zeJ k).name) (.string (zHn W.zeJ k).set) (.int .i64 (zHn W.zeJ k).zeL) (.int .i64 (zHn W.zeJ k).time) (.int .i64 (zHn W.zeJ k).rs) (.int .i64 (zHn W.zeJ k).rb) (.slice al nl cl)/\zAN wr w.heap.size v0 v1 (.int .i64 W.time) (.int .i64 W.next) v2 (.slice a W.pn c)/\zDV wr W M W.sn vd/\Below w.heap.size w wr) (fun i _=>W.pn - (intOf i).toNat)
 case atStart=>exact⟨0,none,0,0,Nat.zero_le _,rfl,fun j hj=>absurd hj (Nat.not_lt_zero _),sA.out,cB.out,tA.out,lB.out⟩
 case round=>
  clear sA cB tA lB hL hM;obtain⟨k,al,nl,cl,hk,rfl,oA,hV,hX,hM,hb⟩:=hrel;have lA:=zC oA;have HV:=zC hV;have HX:=zC hX;have HM:=zC hM;clear oA hV hX hM;obtain⟨x0,x2,x4,x6,x8,iA⟩:=HX.out.c;by_cases fA:k<W.pn
  ·have cC:(k:Int)<(W.pn:Int):=(by omega);obtain⟨b,off,iC,rfl,cA⟩:=(Hp.out.zeJ.zeF hb).cells fA;obtain⟨-,ad,cd,rfl,-,-⟩:=id cA.dead;obtain⟨s0,i1,i2,i3,i4,sa,sn,sc,oB⟩:=nA.out (W.zeJ k).set;have fB:=zC oB;have dA:=zC (zJ2 cA.zeP.2);have eC:=cA.zeP.1;clear oB;have vB:wr.heap.size≠L:=(by have:=HV.out.1.1.lt;omega);have jA:=zD wr (.cells #[.int .i64 (W.zeJ k).id,.string (W.zeJ k).name,.string (W.zeJ k).set,.int .i64 (W.zeJ k).zeL,.int .i64 (W.zeJ k).time,.int .i64 (W.zeJ k).rs,.int .i64 (W.zeJ k).rb,.slice ad (W.zeJ k).dn cd] 41);have kA:=zD (wr.alloc (.cells #[.int .i64 (W.zeJ k).id,.string (W.zeJ k).name,.string (W.zeJ k).set,.int .i64 (W.zeJ k).zeL,.int .i64 (W.zeJ k).time,.int .i64 (W.zeJ k).rs,.int .i64 (W.zeJ k).rb,.slice ad (W.zeJ k).dn cd] 41)) (.cells #[.string s0,.int .i64 i1,.int .i64 i2,.int .i64 i3,.int .i64 i4,.slice sa sn sc] 44);have aB:=zC (zF0.new wr (.int .i64 (W.zeJ k).id) (.string (W.zeJ k).name) (.string (W.zeJ k).set) (.int .i64 (W.zeJ k).zeL) (.int .i64 (W.zeJ k).time) (.int .i64 (W.zeJ k).rs) (.int .i64 (W.zeJ k).rb) (.slice ad (W.zeJ k).dn cd) 41);have vA:=zC (HM.out.zeF jA);have pA:=zC (aB.out.zeF kA);have bB:=zC ((HV.out.zeF jA).zeF kA);have eB:=zC ((HX.out.zeF jA).zeF kA);have kB:=zC ((HM.out.zeF jA).zeF kA);have eA:=zA (zA hb jA) kA;have jB:((wr.alloc (.cells #[.int .i64 (W.zeJ k).id,.string (W.zeJ k).name,.string (W.zeJ k).set,.int .i64 (W.zeJ k).zeL,.int .i64 (W.zeJ k).time,.int .i64 (W.zeJ k).rs,.int .i64 (W.zeJ k).rb,.slice ad (W.zeJ k).dn cd] 41)).alloc (.cells #[.string s0,.int .i64 i1,.int .i64 i2,.int .i64 i3,.int .i64 i4,.slice sa sn sc] 44)).heap.size=wr.heap.size+2:=(by rw[World.size_alloc,World.size_alloc]);have q0:=cA.c0;have q1:=cA.c1;have q2:=cA.c2;have q3:=cA.c3;have q4:=cA.c4;have q5:=cA.c5;have q6:=cA.c6;have q7:=cA.c7;obtain⟨⟨⟨y0,-⟩,⟨y1,-⟩,⟨y2,-⟩,⟨y3,-⟩⟩,⟨y4,-⟩,⟨y5,-⟩,⟨y6,-⟩,⟨y7,-⟩⟩:=aB.out;obtain⟨⟨⟨z0,-⟩,⟨z1,-⟩,⟨z2,-⟩,⟨z3,-⟩⟩,⟨z4,-⟩,⟨z5,-⟩,⟨z6,-⟩,⟨z7,-⟩⟩:=pA.out;clear cA;by_cases bA:qG W (W.zeJ k).set;rotate_left
   ·have Hc:=zC (show Maps.has (putD (fun i=>zEH (W.zeK i).name) (fun i=>zHG (vd i) (W.zeK i)) W.sn) (zEH (W.zeJ k).set)=false by rw[Bool.eq_false_iff];exact fun h=>bA ((mA.out _).1 h));have Hn:=zC (show ¬zMM W k from fun h=>bA h.1);clear bA;go_wp2_with (first
     | (at_lookup;refine zCD _ rfl _ _ 78 rfl 9 44 zT8 zNt (zGk _) M W.sn _ rfl vA.out _ _ rfl dA.out _ fB.out false Hc.out ?_)
     | go_in)
    go_ret;exact⟨zL.no fun h=>Hn.out (h.2.1 k fA),eA⟩
   have gB:=zC bA;have Hc:=zC ((mA.out _).2 bA);clear bA;go_wp2_with (first
    | (at_lookup;refine zCD _ rfl _ _ 78 rfl 9 44 zT8 zNt (zGk _) M W.sn _ rfl vA.out _ _ rfl dA.out _ fB.out true Hc.out ?_)
    | fail)
   clear x0 x2 x4 x6 x8 iA y0 y1 y2 y3 y4 y5 y6 y7 z0 z1 z2 z3 z4 z5 z6 z7 q0 q1 q2 q3 q4 q5 q6 q7 aB vA HV HX HM hb jA kA dA fB Hc;generalize (wr.alloc (.cells #[.int .i64 (W.zeJ k).id,.string (W.zeJ k).name,.string (W.zeJ k).set,.int .i64 (W.zeJ k).zeL,.int .i64 (W.zeJ k).time,.int .i64 (W.zeJ k).rs,.int .i64 (W.zeJ k).rb,.slice ad (W.zeJ k).dn cd] 41)).alloc (.cells #[.string s0,.int .i64 i1,.int .i64 i2,.int .i64 i3,.int .i64 i4,.slice sa sn sc] 44)=W2 at pA bB eB kB eA jB ⊢;generalize wr.heap.size=V8 at pA vB ⊢;obtain⟨x0,x2,x4,x6,x8,iA⟩:=eB.out.c;obtain⟨⟨⟨z0,-⟩,⟨z1,-⟩,⟨z2,-⟩,⟨z3,-⟩⟩,⟨z4,-⟩,⟨z5,-⟩,⟨z6,-⟩,⟨z7,-⟩⟩:=pA.out;obtain⟨⟨⟨l0,m0⟩,⟨l1,n1⟩,⟨l2,n2⟩,⟨l3,n3⟩⟩,⟨l4,n4⟩,⟨l5,n5⟩,⟨l6,n6⟩,⟨l7,n7⟩⟩:=bB.out;refine(zGx (W.zeJ k).name _ eC).mono ?_;rintro e wn ⟨⟨tn,rfl,aA⟩,rfl⟩;by_cases hA:zA0 (W.zeJ k).name;rotate_left
   ·have Hn:=zC (show ¬zMM W k from fun h=>hA h.2.1);obtain rfl:tn=false:=qj aA hA;clear aA hA;go_wp2;go_ret;exact⟨zL.no fun h=>Hn.out (h.2.1 k fA),eA⟩
   have HA:=zC hA;obtain rfl:tn=true:=aA.2 hA;clear aA hA;by_cases hg:(W.zeJ k).id<=(W.zeJ k).zeL
   ·have Hn:=zC (show ¬zMM W k from fun h=>by have:=h.2.2.1;omega);go_wp2;go_ret;exact⟨zL.no fun h=>Hn.out (h.2.1 k fA),eA⟩
   have Hg:=zC (show(W.zeJ k).zeL<(W.zeJ k).id by omega);go_wp2_with fail;clear hg;refine(zLJ _ _ _ _).mono ?_;rintro e wn ⟨⟨tn,rfl,aA⟩,rfl⟩;by_cases hB:Mid (zHn W.zeJ k).id (W.zeJ k).id W.next;rotate_left
   ·have Hn:=zC (show ¬zMM W k from fun h=>hB h.2.2.2.1);obtain rfl:tn=false:=qj aA hB;clear aA hB;go_wp2;go_ret;exact⟨zL.no fun h=>Hn.out (h.2.1 k fA),eA⟩
   have HB:=zC hB;obtain rfl:tn=true:=aA.2 hB;clear aA hB;go_wp2_with fail;refine(zLJ _ _ _ _).mono ?_;rintro e wn ⟨⟨tn,rfl,aA⟩,rfl⟩;by_cases hB:Mid (zHn W.zeJ k).time (W.zeJ k).time W.time;rotate_left
   ·have Hn:=zC (show ¬zMM W k from fun h=>hB h.2.2.2.2);obtain rfl:tn=false:=qj aA hB;clear aA hB;go_wp2;go_ret;exact⟨zL.no fun h=>Hn.out (h.2.1 k fA),eA⟩
   have tB:=zC hB;obtain rfl:tn=true:=aA.2 hB;clear aA hB;go_wp2;go_roundw
   case rel=>exact⟨k+1,_,_,_,by omega,by go_num,yJ fA lA.out ⟨gB.out,HA.out,Hg.out,HB.out,tB.out⟩,bB.out.put _ _ _ _ _ _ _ _,eB.out.zeG (zJ.put8 _ L _ _ _ _ _ _ _ _) (by omega),kB.out.put8 (by omega) _ _ _ _ _ _ _ _,zTN eA (by omega) _ _ _ _ _ _ _ _⟩
   case measure=>simp[intOf];omega
  ·obtain rfl:k=W.pn:=(by omega);go_wp2_with fail;clear x0 x2 x4 x6 x8 iA;refine(zNT _ W.pn lo hi W.zeJ _ (Hp.out.zeJ.zeF hb) hn).mono ?_;rintro e w6 ⟨⟨t6,rfl,rB⟩,aC⟩;have Ht:=zC rB;clear rB;go_wp2;go_ret;exact⟨⟨t6,rfl,Ht.out.trans ⟨fun hA=>⟨hn,lA.out,hA⟩,fun hA=>hA.2.2⟩⟩,zA hb aC⟩
def zEU(W:zB):Prop:=∀i,i<W.pn->∀j,j<i->(W.zeJ j).id≠(W.zeJ i).id
def zDT(w:World)(lo hi:Nat)(W:zB)(A:Nat):Prop:=∃M vd,zY w A 0 (.map (some M))/\zFO w W M W.pn vd/\zH6 w lo hi W.pn W.zeJ vd
abbrev zKc(A:Nat):Value:=.func (.func 89) #[] #[.pointer (some ⟨A,0,none⟩)]
theorem zDT.zeF{w w':World}{lo hi:Nat}{W:zB}{A:Nat}(h:zDT w lo hi W A)(t:Below w.heap.size w w'):zDT w' lo hi W A:=by
 obtain⟨M,vd,h1,h2,h3⟩:=h;exact⟨M,vd,h1.zeF t,h2.zeF t,fun i aA=>(h3 i aA).zeF t⟩
theorem zXi(w:World):(zeroValue 41).run Tryz.prog w = .ok (.agg #[.int .i64 0,.string ⟨#[]⟩,.string ⟨#[]⟩,.int .i64 0,.int .i64 0,.int .i64 0,.int .i64 0,.slice none 0 0]) w:=by kernel_rfl
theorem zUc{W:zB}{w:World}{lo hi:Nat}{vd:Nat->Value}(hD:zEU W)(hd:zH6 w lo hi W.pn W.zeJ vd)(x:Int):∃a c,(putD (fun i=>zQY (W.zeJ i).id) (fun i=>zCi (vd i) (W.zeJ i)) W.pn).atKey (zQY x) (.held (.agg #[.int .i64 0,.string ⟨#[]⟩,.string ⟨#[]⟩,.int .i64 0,.int .i64 0,.int .i64 0,.int .i64 0,.slice none 0 0])) = .held (zCi (.slice a (zE W x).dn c) (zE W x))/\qn w lo hi (.slice a (zE W x).dn c) (zE W x).dn (zE W x).ds (zE W x).db:=by
 have hk:zF2 (fun i=>zQY (W.zeJ i).id):=fun i=>zYj _
 by_cases hx:∃k,yV W x k
 ·obtain⟨k,aA⟩:=hx;rw[yQ aA];have hp:=hd k aA.1;obtain⟨_,a,c,hv,_⟩:=id hp;refine⟨a,c,?_,by rw[<-hv];exact hp⟩;have:=zL7 hk (fun i=>zCi (vd i) (W.zeJ i)) (.held (.agg #[.int .i64 0,.string ⟨#[]⟩,.string ⟨#[]⟩,.int .i64 0,.int .i64 0,.int .i64 0,.int .i64 0,.slice none 0 0])) W.pn k aA.1 (fun j h1 h2 e=>hD j h2 k h1 (zR4 e).symm);rw[aA.2.1]at this;rw[this,hv]
 ·have e:zE W x=zAV:=(by unfold zE;rw[dif_neg hx]);rw[e];refine⟨none,0,?_,⟨Nat.zero_le _,none,0,rfl,Nat.le_refl _,fun h=>absurd h (by simp[zAV])⟩⟩;refine zIM hk _ (fun i bA e2=>?_) _;exact hx (zLA (Nat.le_refl _) ⟨i,bA,zR4 e2⟩)
theorem zDh(lo hi:Nat)(W:zB)(A:Nat)(x:Int)(w:World)(h:zDT w lo hi W A)(hD:zEU W)(hx:(Lit.int .i64 x).wf=true)(hn:W.pn<=20) :
  Calls Tryz.prog 89 #[.int .i64 x,.pointer (some ⟨A,0,none⟩)] w fun e w'=>∃a c,e = .returned (zCi (.slice a (zE W x).dn c) (zE W x))/\qn w lo hi (.slice a (zE W x).dn c) (zE W x).dn (zE W x).ds (zE W x).db/\Below w.heap.size w w':=by
 obtain⟨M,vd,hc,hm,hd⟩:=h;obtain⟨a,c,eA,hp⟩:=zUc hD hd x;have dA:=zC eA;have fA:=zC hp;have aA:=zC (zU7 hx);clear eA hp hd hx;unfold zCi at dA ⊢;generalize zE W x=S at *;have bA:=zD w (.cells #[.int .i64 0,.string ⟨#[]⟩,.string ⟨#[]⟩,.int .i64 0,.int .i64 0,.int .i64 0,.int .i64 0,.slice none 0 0] 41);have HM:=zC (hm.zeF bA);obtain⟨x0,-⟩:=hc.zeF bA;have cA:=zD w (.cells #[.int .i64 S.id,.string S.name,.string S.set,.int .i64 S.zeL,.int .i64 S.time,.int .i64 S.rs,.int .i64 S.rb,.slice a S.dn c] 41);obtain⟨⟨⟨y0,-⟩,⟨y1,-⟩,⟨y2,-⟩,⟨y3,-⟩⟩,⟨y4,-⟩,⟨y5,-⟩,⟨y6,-⟩,⟨y7,-⟩⟩:=zF0.new w (.int .i64 S.id) (.string S.name) (.string S.set) (.int .i64 S.zeL) (.int .i64 S.time) (.int .i64 S.rs) (.int .i64 S.rb) (.slice a S.dn c) 41;clear hm hc bA;go_enter Tryz.func89,Tryz.ntmps89;go_wp2_with (first
  | (at_lookup;refine zFz _ rfl _ _ 120 rfl 2 41 zdZ zaL (zXi _) M W.pn _ rfl HM.out _ _ rfl aA.out _ dA.out ?_)
  | go_in)
 refine bodyPost_ret (v:=.agg #[.int .i64 S.id,.string S.name,.string S.set,.int .i64 S.zeL,.int .i64 S.time,.int .i64 S.rs,.int .i64 S.rb,.slice a S.dn c]) (by simp[results,Tryz.results89,go_sem,y0,y1,y2,y3,y4,y5,y6,y7]) rfl ⟨a,c,rfl,fA.out,cA⟩
theorem zFp(v0 v1 v2 v3:Value)(lo hi:Nat)(W:zB)(w:World)(h:yO w lo hi v0 v1 v2 v3 W)(hn:W.pn<=20)(eA:zRC W.pn W.zeJ) :
  Calls Tryz.prog 48 #[zA8 v0 v1 v2 v3 W] w fun e w'=>∃A,e = .returned (zKc A)/\zDT w' lo hi W A/\Below w.heap.size w w':=by
 have Hp:=zC h;clear h;have gA:∀(fn:Fn) (first cap:Array Value) (w:World),(Instr.makeFunc fn first cap).run Tryz.prog w = .ok (.func fn first cap) w:=fun _ _ _ _=>rfl
 have ha:=zD w (.cells #[v0,v1,.int .i64 W.time,.int .i64 W.next,v2,v3] 30);obtain⟨x0,x2,x4,x6,x8,fA⟩:=(zAN.new w v0 v1 (.int .i64 W.time) (.int .i64 W.next) v2 v3 30).c;go_enter Tryz.func48,Tryz.ntmps48;go_wp2_with fail;clear x0 x2 x4 x6 x8 fA;generalize w.alloc (.cells #[v0,v1,.int .i64 W.time,.int .i64 W.next,v2,v3] 30)=W0 at ha ⊢;refine(zOc v0 v1 v2 v3 lo hi W W0 (Hp.out.zeF ha) hn eA).mono ?_;rintro e w1 ⟨vd,rfl,hm,hd,bA⟩;have aA:=zD w1 (.cells #[.map (some (W0.heap.size+1))] 120);have hc:zY (w1.alloc (.cells #[.map (some (W0.heap.size+1))] 120)) w1.heap.size 0 (.map (some (W0.heap.size+1))):=zK (heap_alloc_new _ _) rfl;have HA:=zC (show zDT (w1.alloc (.cells #[.map (some (W0.heap.size+1))] 120)) lo hi W w1.heap.size from⟨_,vd,hc,hm.zeF aA,fun i dA=>((hd i dA).zeF bA).zeF aA⟩);have cA:=zA (zA ha bA) aA;clear hm hd bA aA hc;go_wp2;go_ret;exact⟨_,rfl,HA.out,cA⟩
end Go.Proofs.YtjganmlaooofoaaGreatDoor

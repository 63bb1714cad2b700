/- A part of the proof. -/
import Derived.Test.YtjganmlaooofoaaGreatDoorF7
import Derived.Test.YtjganmlaooofoaaGreatDoorProg
import Derived.KernelRfl
import GoSem.ClaimJoined
import GoSem.ClaimMapViews
import Derived.JoinedTies
import Derived.RowKit
import Derived.Deep.RegionHeld3
import Derived.Deep.QuietTactic
import Derived.BigQuiet
set_option linter.unusedVariables false
set_option maxRecDepth 20000
set_option maxHeartbeats 4000000
namespace Go.Proofs.YtjganmlaooofoaaGreatDoor
open Go.RowKit
set_option linter.unusedSimpArgs false
def qg:Nat->List (Bool×List Tr)->List (Nat×Bool×Av)
 | _,[]=>[]
 | i,q :: r=>(i,true,.m q.1 (q.2.map Tr.cv)) :: qg (i+1) r
theorem zM0:∀{aA:List (Bool×List Tr)} {i d:Nat} {x:Bool×Av},get (qg i aA) d=some x->∃j q,d=i+j/\aA[j]?=some q/\x=(true,.m q.1 (q.2.map Tr.cv))
 | [],i,d,x,h=>by cases h
 | p :: r,i,d,x,h=>by
  simp only[qg,get]at h;split at h
  ·rename_i e;cases h;exact⟨0,p,by omega,rfl,rfl⟩
  ·obtain⟨j,q,h1,h2,h3⟩:=zM0 h;exact⟨j+1,q,by omega,by simpa using h2,h3⟩
theorem zaj{w:World}{E:En}{D:Nat->Prop}{l:List Tr}{cs:List Value}(h:qE (Sh w E.g) l cs):CsR w E D (l.map Tr.cv) cs:=by
 induction h with
 | nil=>exact qE.nil
 | cons h1 _ ih=>exact qE.cons h1.cv ih
theorem zQW{w:World}{E:En}{D:Nat->Prop}{aA:List (Bool×List Tr)}{ys xs:List Value}(h:qE (zLi w E.g) aA ys){i:Nat}{l:List Value}(hl:l.drop i=ys ++ xs){a:Act}(ha:a.tmps=l.toArray):TmR w E D (qg i aA) a:=by
 intro d c av hg;obtain⟨j,q,h1,h2,h3⟩:=zM0 hg;subst h1;cases h3;obtain⟨y,hy,bA⟩:=h.at h2;have e:a.tmps.getD (i+j) undef=y:=by
  have cA:=(List.getElem?_eq_some_iff.1 hy).1;have h4:(l.drop i)[j]?=some y:=(by rw[hl,List.getElem?_append_left cA];exact hy);rw[List.getElem?_drop]at h4;rw[ha,Array.getD_eq_getD_getElem?,List.getElem?_toArray,h4];rfl
 refine⟨fun _=>?_,fun hc=>by cases hc⟩;rw[e];obtain⟨g,l⟩:=q;cases g with
 | true=>obtain⟨cs,e,hc⟩:=bA;exact⟨cs,e,zaj hc⟩
 | false=>obtain⟨T,e,hc⟩:=bA;simp only at e;subst e;exact⟨_,rfl,Sh.cv hc⟩
theorem zU5{w:World}{g0:Nat->Bs}{aA:List (Bool×List Tr)}{ys:List Value}(h:qE (zLi w g0) aA ys){N:Nat}(hN:aA.length<=N):Rel w ⟨g0,none⟩ N ⟨qg 0 aA,[]⟩ ⟨ys.toArray ++ Array.replicate (N - ys.toArray.size) undef,[]⟩ w:=by
 have hl:=h.length;refine⟨⟨g0,fun _=>0,fun _=>.bool false⟩,Kp.refl _ _,zQW (E:=⟨g0,fun _=>0,fun _=>.bool false⟩) h (l:=ys ++ List.replicate (N - ys.length) undef) (xs:=List.replicate (N - ys.length) undef) (by simp) (by apply Array.ext';simp),fun i o hi=>(by cases hi),rfl,(by simp;omega),fun B hB=>by cases hB⟩
theorem zYZ{w:World}{E:En}{vs:List Tr}{aA:List (Bool×List Tr)}{ys:List Value}(ho:qO w E (zBs vs))(h:qE (zLi w E.g) aA ys){N:Nat}(hN:1+aA.length<=N):Rel w ⟨E.g,some (E.bl 0)⟩ N ⟨(0,true,.m false [.p 0 0]) :: qg 1 aA,zBs vs⟩ ⟨(.pointer (some ⟨E.bl 0,0,none⟩) :: ys).toArray ++ Array.replicate (N - (.pointer (some ⟨E.bl 0,0,none⟩) :: ys).toArray.size) undef,[]⟩ w:=by
 have hl:=h.length;have hd:dom (zBs vs) 0:=by unfold dom zBs;simp only[get,if_pos];rfl
 have e:(.pointer (some ⟨E.bl 0,0,none⟩) :: ys).toArray ++ Array.replicate (N - (.pointer (some ⟨E.bl 0,0,none⟩) :: ys).toArray.size) undef=((.pointer (some ⟨E.bl 0,0,none⟩) :: (ys ++ List.replicate (N - (ys.length+1)) undef)):List Value).toArray:=by apply Array.ext';simp
 refine⟨E,Kp.refl _ _,fun d c av hg=>?_,ho,rfl,(by simp;omega),fun B hB=>by cases hB;exact⟨hd,rfl⟩⟩;simp only[get]at hg;split at hg
 ·rename_i e0
  subst e0;cases hg;refine⟨fun _=>?_,fun hc=>by cases hc⟩;rw[e];exact av1 ⟨hd,rfl⟩
 ·exact zQW h (i:=1) (l:=.pointer (some ⟨E.bl 0,0,none⟩) :: (ys ++ List.replicate (N - (ys.length+1)) undef)) (xs:=List.replicate (N - (ys.length+1)) undef) (by simp) e d c av hg
theorem zYY{w:World}{E:En}{vs:List Tr}{aA:List (Bool×List Tr)}{ys:List Value}{y:Value}(ho:qO w E (qP 0 vs))(h:qE (zLi w E.g) aA ys)(bA:VlR w E (dom (qP 0 vs)) true (qK 0 0 vs) y){N:Nat}(hN:aA.length+1<=N) :
  Rel w ⟨E.g,none⟩ N ⟨(aA.length,true,.m true (qK 0 0 vs)) :: qg 0 aA,qP 0 vs⟩ ⟨(ys ++ [y]).toArray ++ Array.replicate (N - (ys ++ [y]).toArray.size) undef,[]⟩ w:=by
 have hl:=h.length;have e:(ys ++ [y]).toArray ++ Array.replicate (N - (ys ++ [y]).toArray.size) undef=(ys ++ (y :: List.replicate (N - (ys.length+1)) undef):List Value).toArray:=by apply Array.ext';simp
 refine⟨E,Kp.refl _ _,fun d c av hg=>?_,ho,rfl,(by simp;omega),fun B hB=>by cases hB⟩;simp only[get]at hg;split at hg
 ·rename_i e0
  subst e0;cases hg;refine⟨fun _=>?_,fun hc=>by cases hc⟩;have e2:(⟨(ys ++ [y]).toArray ++ Array.replicate (N - (ys ++ [y]).toArray.size) undef,[]⟩:Act).tmps.getD aA.length undef=y:=by
   rw[e,hl];simp[Array.getD_eq_getD_getElem?]
  rw[e2];exact bA
 ·exact zQW h (i:=0) (l:=ys ++ (y :: List.replicate (N - (ys.length+1)) undef)) (xs:=y :: List.replicate (N - (ys.length+1)) undef) (by simp) e d c av hg
def resCv(T:Tb)(S:St):List ResultVar->Option (List (Bool×List Cv))
 | []=>some []
 | .tmp t :: r=>match get S.tm t,resCv T S r with
  | some (true,.m g l),some q=>some ((g,l) :: q)
  | _,_=>none
 | .cell t ty :: r=>match get S.tm t,T.ty ty,resCv T S r with
  | some (true,.m false [.p i o]),some d,some q=>match evLoad d S.ob (.p i o)with
   | some (_,.m g l)=>some ((g,l) :: q)
   | _=>none
  | _,_,_=>none
def zXL(tmps:Array Value):ResultVar->Sem Value
 | .tmp t=>pure (tmps.getD t undef)
 | .cell a t=>do loadVar t (<-asAddr (tmps.getD a undef))
theorem zGZ{P:Program}{T:Tb}(hT:zF4 P T){w0:World}{g0:Gh}{N:Nat}{S:St}{a:Act}{w:World}{E:En}(h:zLm w0 g0 N S a w E):∀{rv:List ResultVar} {q:List (Bool×List Cv)},resCv T S rv=some q->
  ∃vs:List Value,(rv.mapM (zXL a.tmps)).run P w = .ok vs w/\qE (fun (q:Bool×List Cv) u=>VlR w E (dom S.ob) q.1 q.2 u) q vs
 | [],q,hq=>by cases hq;exact⟨[],by simp,.nil⟩
 | .tmp t :: r,q,hq=>by
  simp only[resCv]at hq;split at hq
  ·rename_i g l q' hg hr
   cases hq;obtain⟨vs,h1,h2⟩:=zGZ hT h hr;have h3:=(h.tm t _ _ hg).1 rfl;exact⟨a.tmps.getD t undef :: vs,by simp[List.mapM_cons,h1,zXL],.cons h3 h2⟩
  ·cases hq
 | .cell t ty :: r,q,hq=>by
  simp only[resCv]at hq;split at hq
  ·rename_i i o d q' hg hd hr
   split at hq
   ·rename_i c g l hl
    cases hq;obtain⟨vs,h1,h2⟩:=zGZ hT h hr;have h3:=vl1 ((h.tm t _ _ hg).1 rfl);have hc:c:=by
     simp only[evLoad]at hl;split at hl
     ·split at hl
      ·cases hl;trivial
      ·cases hl
     ·cases hl
    obtain⟨z,h4,h5⟩:=zO7 (hT.ok _ _ hd) h.ob hl hc h3;refine⟨z :: vs,?_,.cons h5 h2⟩;have h6:(zXL a.tmps (.cell t ty)).run P w = .ok z w:=by
     simp only[zXL];rw[h3.2];have h7:=h4;rw[h3.2]at h7;unfold Instr.loadAt at h7;simpa[Instr.sureAddr,asAddr]using h7
    rw[List.mapM_cons];simp[h6,h1]
   ·cases hq
  ·cases hq
def cellM(ob:List (Nat×Ob)):Cv->Tr->Prop
 | .v x,.v y=>x=y
 | .v x,.s .o k n f=>x = .slice none 0 0/\n=0
 | .h i,.s .o k n f=>match get ob i with
  | some (.row k' n' f')=>TrE (.s .o k' n' f') (.s .o k n f)/\(Tr.s .o k n f).kept
  | _=>False
 | .s fl k n f,.s .z k' n' f'=>fl≠.b/\TrE (.s .z k n f) (.s .z k' n' f')/\(Tr.s .z k' n' f').kept
 | _,_=>False
def yY(ob:List (Nat×Ob)):List Cv->List Tr->Prop
 | [],[]=>True
 | x :: r,y :: s=>cellM ob x y/\yY ob r s
 | _,_=>False
def zCB(ob:List (Nat×Ob)):List (Bool×List Cv)->List (Bool×List Tr)->Prop
 | [],[]=>True
 | x :: r,y :: s=>x.1=y.1/\yY ob x.2 y.2/\zCB ob r s
 | _,_=>False
def zCI:Nat->List Cv->List (Nat×Nat)
 | _,[]=>[]
 | n,.h i :: r=>(i,n) :: zCI (n+1) r
 | n,_ :: r=>zCI (n+1) r
def zBl:Nat->List (Bool×List Cv)->List (Nat×Nat)
 | _,[]=>[]
 | n,q :: r=>zCI n q.2 ++ zBl (n+q.2.length) r
def Ret(T:Tb)(rv:List ResultVar)(S:St)(rs:List (Bool×List Tr)):Prop:=
 match resCv T S rv with
 | some q=>zCB S.ob q rs/\qh ((zBl 0 q).map (·.1))=true
 | none=>False
def RetP(T:Tb)(rv:List ResultVar)(S:St)(rs:List (Bool×List Tr)):Prop:=
 match get S.ob 0,resCv T S rv with
 | some (.var l),some q=>zCB S.ob ((true,l) :: q) rs/\qh (0 :: (zBl 1 ((true,l) :: q)).map (·.1))=true
 | _,_=>False
def RetN(T:Tb)(rv:List ResultVar)(S:St)(rs:List (Bool×List Tr)):Prop:=
 match resCv T S rv with
 | some [(false,[.p i 0])]=>match get S.ob i with
  | some (.var l)=>zCB S.ob [(true,l)] rs/\qh (i :: (zBl 1 [(true,l)]).map (·.1))=true
  | _=>False
 | _=>False
def Bs.ren(r:Nat->Nat):Bs->Bs
 | .ow (.nm j) lim=>.ow (.nm (r j)) lim
 | s=>s
theorem Bs.ren_ok{r:Nat->Nat}{s:Bs}{fl:Fl}{e:Nat}(h:s.ok fl e):(s.ren r).ok fl e:=by
 cases s with
 | fz x=>exact h
 | ow o lim=>cases o<;>exact h
theorem Kp.ren{w w':World}{g g':Nat->Bs}{r:Nat->Nat}(h:Kp w g w' g'):Kp w g w' (fun b=>(g' b).ren r):=by
 refine⟨h.os,h.tape,h.output,h.size,fun b x hb hl=>?_,fun b o aA hb hl=>?_⟩
 ·obtain⟨h1,h2⟩:=h.fz b x hb hl;exact⟨h1,by simp only[h2,Bs.ren]⟩
 ·obtain⟨h1,⟨o',l',h2,h3⟩ | h2⟩:=h.ow b o aA hb hl
  ·refine⟨h1,.inl ?_⟩;cases o' with
   | nm i=>exact⟨.nm (r i),l',by simp only[h2,Bs.ren],h3⟩
   | tl b j=>exact⟨.tl b j,l',by simp only[h2,Bs.ren],h3⟩
  ·exact⟨h1,.inr (by simp only[h2,Bs.ren])⟩
section
variable {w : World} {E : En} {ob : List (Nat × Ob)}
theorem zX7(ho:qO w E ob){x:Cv}{y:Tr}{u:Value}(h:cellM ob x y)(hu:CvR w E (dom ob) x u){r:Nat->Nat}{n:Nat}(hr:∀i,x = .h i->r i=n):zLv w (fun b=>(E.g b).ren r) n y u:=by
 have cA:∀b fl e,(E.g b).ok fl e->((E.g b).ren r).ok fl e:=fun b fl e h=>Bs.ren_ok h
 cases x with
 | v x=>
  cases y with
  | v y=>cases h;exact hu
  | s fl k n f=>
   cases fl<;>simp only[cellM]at h
   obtain⟨rfl,rfl⟩:=h;exact⟨none,0,hu.1,Nat.le_refl _,fun h0=>by omega⟩
 | h i=>
  cases y with
  | v y=>exact h.elim
  | s fl k m f=>
   cases fl<;>simp only[cellM]at h
   split at h
   ·rename_i k' n' f' hi
    obtain⟨⟨-,rfl,rfl,hf⟩,bA⟩:=h;obtain⟨a,cap,hv,hn,hc⟩:=ho _ _ hi;refine⟨a,cap,hu.2.1.trans hv,hn,fun h0=>?_⟩;obtain⟨ha,hg,c,t,hh,hl,aA⟩:=hc h0;refine⟨_,ha,?_,c,t,hh,hl,fun p j hp hj=>?_⟩
    ·show(E.g (E.bl i)).ren r=_;rw[hg];simp only[Bs.ren,hr i rfl]
    ·obtain⟨u,hu,hs,ht⟩:=aA p j hp hj;exact⟨u,hu,(hs.e (hf p j hp hj)).okm cA,bA.2 p j hp hj,(ht.e (hf p j hp hj) hs).ext (fun b dA hb _=>⟨rfl,by show(E.g b).ren r=_;rw[hb];rfl⟩)⟩
   ·exact h.elim
 | s fl k m f=>
  cases y with
  | v y=>exact h.elim
  | s fl' k' n' f'=>
   cases fl'<;>simp only[cellM]at h
   obtain⟨h1,h2,h3⟩:=h;refine⟨(Sh.e h2 ?_).okm cA,h3⟩;have h4:=Sh.cv (E:=E) (D:=dom ob) hu;cases fl with
   | b=>exact absurd rfl h1
   | z=>exact h4
   | o=>exact h4
 | _=>cases y<;>exact h.elim
theorem zOz(ho:qO w E ob){r:Nat->Nat}:∀{l:List Cv} {m:List Tr} {us:List Value} {n:Nat},yY ob l m->CsR w E (dom ob) l us->(∀q∈zCI n l,r q.1=q.2)->zJU w (fun b=>(E.g b).ren r) n m us
 | [],[],us,n,h,hu,hr=>by cases hu;rfl
 | x :: l,y :: m,us,n,h,hu,hr=>by
  cases hu with
  | cons h1 t=>
   refine⟨_,_,rfl,zX7 ho h.1 h1 (fun i e=>by subst e;exact hr (i,n) (List.mem_cons_self ..)),zOz ho h.2 t (fun q hq=>hr q ?_)⟩;cases x<;>first | exact hq | exact List.mem_cons_of_mem _ hq
 | [],_ :: _,us,n,h,hu,hr=>h.elim
 | _ :: _,[],us,n,h,hu,hr=>h.elim
theorem zMU:∀{l:List Cv} {m:List Tr},yY ob l m->l.length=m.length
 | [],[],_=>rfl
 | x :: l,y :: m,h=>by simp[zMU h.2]
 | [],_ :: _,h=>h.elim
 | _ :: _,[],h=>h.elim
theorem zHy(ho:qO w E ob){r:Nat->Nat}:∀{q:List (Bool×List Cv)} {rs:List (Bool×List Tr)} {vs:List Value} {n:Nat},zCB ob q rs->qE (fun (q:Bool×List Cv) u=>VlR w E (dom ob) q.1 q.2 u) q vs->(∀p∈zBl n q,r p.1=p.2)->zMJ w (fun b=>(E.g b).ren r) n rs vs
 | [],[],vs,n,h,hv,hr=>by cases hv;rfl
 | x :: q,y :: rs,vs,n,h,hv,hr=>by
  cases hv with
  | @cons _ v _ vs' h1 t=>
   obtain⟨e,h2,h3⟩:=h;have hl:=zMU h2;refine⟨v,vs',v.cells.toList,rfl,?_,zOz ho h2 (VlR.cells h1) (fun p hp=>hr p (List.mem_append_left _ hp)),?_⟩
   ·rw[<-e];obtain⟨g,l⟩:=x;cases g with
    | true=>obtain⟨cs,rfl,_⟩:=h1;simp[zRM,Value.cells]
    | false=>
     obtain⟨x,_,hx⟩:=h1;have h1:=hx.one;have:v.cells=#[v]:=by cases v<;>first | rfl | (simp[Value.oneCell']at h1)
     simp[zRM,this]
   ·rw[<-hl];exact zHy ho h3 t (fun p hp=>hr p (List.mem_append_right _ hp))
 | [],_ :: _,vs,n,h,hv,hr=>h.elim
 | _ :: _,[],vs,n,h,hv,hr=>h.elim
end
theorem zKE{ob:List (Nat×Ob)}:∀{q:List (Bool×List Cv)} {rs:List (Bool×List Tr)},zCB ob q rs->q.length=rs.length
 | [],[],_=>rfl
 | x :: q,y :: rs,h=>by simp[zKE h.2.2]
 | [],_ :: _,h=>h.elim
 | _ :: _,[],h=>h.elim
theorem zFw{P:Program}{fn:Func}{rv:Array ResultVar}(aA:fn.results=rv){tmps:Array Value}{vs:List Value}{w:World}(h:(rv.toList.mapM (zXL tmps)).run P w = .ok vs w):(results fn tmps).run P w = .ok (if h:vs.toArray.size=1 then vs.toArray[0] else .tuple vs.toArray) w:=by
 have e:results fn tmps=(do let vs <-fn.results.mapM (zXL tmps);pure (if h:vs.size=1 then vs[0] else .tuple vs)):=rfl;rw[e,aA,Array.mapM_eq_mapM_toList];simp only[Sem.run_bind,Sem.run_map,h];rfl
section
variable {P : Program} {T : Tb} {Γ : List (Nat × zX)} {f : Nat} {fn : Func} {body : Code} {N : Nat} {rv : Array ResultVar}
theorem zIq(hT:zF4 P T){w:World}(hΓ : ∀g0,(∀b,∃r,g0 b = .fz r)->zPz P Γ w ⟨g0,none⟩)(hm:P.follows .mixedOrders=true)(hf:P.funcs[f]?=some fn)(hb:fn.body=some body)(hN:fn.ntmps=N)(iA:fn.results=rv)(n:Nat){sp:zX}
  (h:∀cA c rs,sp cA=some (c,rs)->c->cA.length<=N/\ev N T Γ n body ⟨qg 0 cA,[]⟩ (fun e S=>match e with
   | .ret=>Ret T rv.toList S rs
   | .normal=>Ret T rv.toList S rs
   | _=>False)):zDX P f sp w:=by
 intro cA c rs jA hc g0 ys hz hy;obtain⟨dA,fA⟩:=h cA c rs jA hc;refine calls_of_wp hf hb ?_;rw[hN];refine wp_mono (zIj hT (hΓ g0 hz) hm fA (zU5 hy dA)) ?_;have eA:∀S a w',Ret T rv.toList S rs->Rel w ⟨g0,none⟩ N S a w'->a.defers = []/\∃v,(results fn a.tmps).run P w' = .ok v w'/\∃v' g,Ending.returned v = .returned v'/\Kp w g0 w' g/\zTE w' g rs v':=by
  intro S a w' aA ⟨E,hE⟩;unfold Ret at aA;split at aA
  ·rename_i q hq
   obtain⟨hm,gA⟩:=aA;obtain⟨vs,h1,h2⟩:=zGZ hT hE hq;have h3:=zHy hE.ob (r:=fun i=>(get (zBl 0 q) i).getD 0) (n:=0) hm h2 (fun p hp=>by rw[zCy gA hp];rfl);have bA:vs.length=rs.length:=h2.length.symm.trans (zKE hm);refine⟨hE.df,_,zFw iA h1,_,_,rfl,hE.kp.ren,vs,h3,?_⟩
   match rs,bA with
   | [r],bA=>
    match vs,bA with
    | [v],_=>rfl
   | [],bA=>
    match vs,bA with
    | [],_=>rfl
   | r1 :: r2 :: rr,bA=>
    match vs,bA with
    | v1 :: v2 :: vv,_=>simp
  ·exact aA.elim
 intro e a w' hq;cases e with
 | normal=>obtain⟨S,h1,h2⟩:=hq;exact eA S a w' h1 h2
 | ret=>obtain⟨S,h1,h2⟩:=hq;exact eA S a w' h1 h2
 | exit i=>obtain⟨S,h1,h2⟩:=hq;exact h1.elim
 | _=>exact hq.elim
theorem zQ1(hT:zF4 P T)(hΓ : GOk P Γ)(hm:P.follows .mixedOrders=true)(hf:P.funcs[f]?=some fn)(hb:fn.body=some body)(hN:fn.ntmps=N)(iA:fn.results=rv)(n:Nat){sp:zX}
  (h:∀vs cA c rs,sp (cA ++ [(true,vs)])=some (c,rs)->c->cA.length+1<=N/\ev N T Γ n body ⟨(cA.length,true,.m true (qK 0 0 vs)) :: qg 0 cA,qP 0 vs⟩ (fun e S=>match e with
   | .ret=>Ret T rv.toList S rs
   | .normal=>Ret T rv.toList S rs
   | _=>False)):zP9 P f sp:=by
 intro w vs cA c rs jA hc E0 ys y ho hy kA;obtain⟨dA,fA⟩:=h vs cA c rs jA hc;refine calls_of_wp hf hb ?_;rw[hN];refine wp_mono (zIj hT (fun w _ _=>hΓ w) hm fA (zYY ho hy kA dA)) ?_;have eA:∀S a w',Ret T rv.toList S rs->Rel w ⟨E0.g,none⟩ N S a w'->a.defers = []/\∃v,(results fn a.tmps).run P w' = .ok v w'/\∃v' g,Ending.returned v = .returned v'/\Kp w E0.g w' g/\zTE w' g rs v':=by
  intro S a w' aA ⟨E,hE⟩;unfold Ret at aA;split at aA
  ·rename_i q hq
   obtain⟨hm,gA⟩:=aA;obtain⟨vs,h1,h2⟩:=zGZ hT hE hq;have h3:=zHy hE.ob (r:=fun i=>(get (zBl 0 q) i).getD 0) (n:=0) hm h2 (fun p hp=>by rw[zCy gA hp];rfl);have bA:vs.length=rs.length:=h2.length.symm.trans (zKE hm);refine⟨hE.df,_,zFw iA h1,_,_,rfl,hE.kp.ren,vs,h3,?_⟩
   match rs,bA with
   | [r],bA=>
    match vs,bA with
    | [v],_=>rfl
   | [],bA=>
    match vs,bA with
    | [],_=>rfl
   | r1 :: r2 :: rr,bA=>
    match vs,bA with
    | v1 :: v2 :: vv,_=>simp
  ·exact aA.elim
 intro e a w' hq;cases e with
 | normal=>obtain⟨S,h1,h2⟩:=hq;exact eA S a w' h1 h2
 | ret=>obtain⟨S,h1,h2⟩:=hq;exact eA S a w' h1 h2
 | exit i=>obtain⟨S,h1,h2⟩:=hq;exact h1.elim
 | _=>exact hq.elim
theorem zQ2(hT:zF4 P T)(hΓ : GOk P Γ)(hm:P.follows .mixedOrders=true)(hf:P.funcs[f]?=some fn)(hb:fn.body=some body)(hN:fn.ntmps=N)(pA:fn.results=rv)(n:Nat){sp:zX}
  (h:∀vs dA c rs,sp ((true,vs) :: dA)=some (c,rs)->c->1+dA.length<=N/\ev N T Γ n body ⟨(0,true,.m false [.p 0 0]) :: qg 1 dA,zBs vs⟩ (fun e S=>match e with
   | .ret=>RetP T rv.toList S rs
   | .normal=>RetP T rv.toList S rs
   | _=>False)):zBv P f sp:=by
 intro w vs dA c rs rA hc E ys ho hy;obtain⟨fA,nA⟩:=h vs dA c rs rA hc;refine calls_of_wp hf hb ?_;rw[hN];refine wp_mono (zIj hT (fun w _ _=>hΓ w) hm nA (zYZ ho hy fA)) ?_;have gA:∀S a w',RetP T rv.toList S rs->Rel w ⟨E.g,some (E.bl 0)⟩ N S a w'->a.defers = []/\∃v,(results fn a.tmps).run P w' = .ok v w'/\∃v' g,Ending.returned v = .returned v'/\Kp w E.g w' g/\zdS w' g (E.bl 0) rs v':=by
  intro S a w' aA ⟨E',hE⟩;unfold RetP at aA;split at aA
  ·rename_i l q h0 hq
   obtain⟨hm,eA⟩:=aA;simp only[qh,Bool.and_eq_true,Bool.not_eq_true']at eA;obtain⟨kA,eA⟩:=eA;obtain⟨cA,h1,h2⟩:=zGZ hT hE hq;obtain⟨jA,cs,TT,iA,mA⟩:=hE.ob 0 _ h0;have lA:=(hE.b0 _ rfl).2;rw[lA]at jA iA;have oA:∀p∈zBl 1 ((true,l) :: q),p.1≠0:=fun p hp e=>by
    have:((zBl 1 ((true,l) :: q)).map (·.1)).contains 0=true:=by
     rw[List.contains_iff_mem];exact List.mem_map.2 ⟨p,hp,e⟩
    rw[this]at kA;cases kA
   have h3:=zHy hE.ob (r:=fun i=>if i=0 then 0 else(get (zBl 1 ((true,l) :: q)) i).getD 0) (n:=1) (q:=(true,l) :: q) (vs:=.agg cs.toArray :: cA) hm (.cons ⟨cs,rfl,mA⟩ h2) (fun p hp=>by rw[if_neg (oA p hp),zCy eA hp];rfl);have bA:cA.length+1=rs.length:=by
    have:=zKE hm;have:=h2.length;simp at *;omega
   refine⟨hE.df,_,zFw pA h1,_,_,rfl,hE.kp.ren,cs,TT,cA,iA,?_,h3,?_⟩
   ·show(E'.g (E.bl 0)).ren _=_;rw[jA];simp[Bs.ren]
   ·match rs,bA with
    | [_,_],bA=>
     match cA,bA with
     | [v],_=>rfl
    | [_],bA=>
     match cA,bA with
     | [],_=>rfl
    | r0 :: r1 :: r2 :: rr,bA=>
     match cA,bA with
     | v1 :: v2 :: vv,_=>simp
  ·exact aA.elim
 intro e a w' hq;cases e with
 | normal=>obtain⟨S,h1,h2⟩:=hq;exact gA S a w' h1 h2
 | ret=>obtain⟨S,h1,h2⟩:=hq;exact gA S a w' h1 h2
 | exit i=>obtain⟨S,h1,h2⟩:=hq;exact h1.elim
 | _=>exact hq.elim
theorem zQ0(hT:zF4 P T)(hΓ : GOk P Γ)(hm:P.follows .mixedOrders=true)(hf:P.funcs[f]?=some fn)(hb:fn.body=some body)(hN:fn.ntmps=N)(mA:fn.results=rv)(n:Nat){sp:zX}
  (h:∀bA c rs,sp bA=some (c,rs)->c->bA.length<=N/\ev N T Γ n body ⟨qg 0 bA,[]⟩ (fun e S=>match e with
   | .ret=>RetN T rv.toList S rs
   | .normal=>RetN T rv.toList S rs
   | _=>False)):zP8 P f sp:=by
 intro w bA c cells nA hc g0 ys hz hy;obtain⟨dA,jA⟩:=h bA c _ nA hc;refine calls_of_wp hf hb ?_;rw[hN];refine wp_mono (zIj hT (fun w _ _=>hΓ w) hm jA (zU5 hy dA)) ?_;have eA:∀S a w',RetN T rv.toList S [(true,cells)]->Rel w ⟨g0,none⟩ N S a w'->a.defers = []/\∃v,(results fn a.tmps).run P w' = .ok v w'/\∃B g,Ending.returned v = .returned (.pointer (some ⟨B,0,none⟩))/\Kp w g0 w' g/\∃(cs:List Value) (T:TypeId),w'.heap[B]?=some (.cells cs.toArray T (0,0))/\g B = .ow (.nm 0) 0/\zMJ w' g 1 [(true,cells)] [.agg cs.toArray]:=by
  intro S a w' aA ⟨E,hE⟩;unfold RetN at aA;split at aA
  ·rename_i i hq
   split at aA
   ·rename_i l h0
    obtain⟨hm,cA⟩:=aA;simp only[qh,Bool.and_eq_true,Bool.not_eq_true']at cA;obtain⟨fA,cA⟩:=cA;obtain⟨oA,h1,h2⟩:=zGZ hT hE hq;obtain⟨kA,cs,TT,gA,iA⟩:=hE.ob i _ h0;have lA:∀p∈zBl 1 [(true,l)],p.1≠i:=fun p hp e=>by
     have:((zBl 1 [(true,l)]).map (·.1)).contains i=true:=by
      rw[List.contains_iff_mem];exact List.mem_map.2 ⟨p,hp,e⟩
     rw[this]at fA;cases fA
    have h3:=zHy hE.ob (r:=fun j=>if j=i then 0 else(get (zBl 1 [(true,l)]) j).getD 0) (n:=1) (q:=[(true,l)]) (vs:=[.agg cs.toArray]) hm (.cons ⟨cs,rfl,iA⟩ .nil) (fun p hp=>by rw[if_neg (lA p hp),zCy cA hp];rfl);cases h2 with
    | cons k1 k2=>
     cases k2;obtain⟨x,ex,hx⟩:=k1;cases ex;obtain⟨-,rfl⟩:=hx;refine⟨hE.df,_,zFw mA h1,E.bl i,_,rfl,hE.kp.ren,cs,TT,gA,?_,h3⟩;show(E.g (E.bl i)).ren _=_;rw[kA];simp[Bs.ren]
   ·exact aA.elim
  ·exact aA.elim
 intro e a w' hq;cases e with
 | normal=>obtain⟨S,h1,h2⟩:=hq;exact eA S a w' h1 h2
 | ret=>obtain⟨S,h1,h2⟩:=hq;exact eA S a w' h1 h2
 | exit i=>obtain⟨S,h1,h2⟩:=hq;exact h1.elim
 | _=>exact hq.elim
theorem zSx(hT:zF4 P T)(hΓ : GOk P Γ)(hm:P.follows .mixedOrders=true)(hf:P.funcs[f]?=some fn)(hb:fn.body=some body)(hN:fn.ntmps=N)(bA:fn.results=rv)(n:Nat){sp:zX}
  (h:∀aA c rs,sp aA=some (c,rs)->c->aA.length<=N/\ev N T Γ n body ⟨qg 0 aA,[]⟩ (fun e S=>match e with
   | .ret=>Ret T rv.toList S rs
   | .normal=>Ret T rv.toList S rs
   | _=>False)):zy P f sp:=fun w=>zIq hT (fun _ _ w _ _=>hΓ w) hm hf hb hN bA n h
end
abbrev i0:Value:=.int .i64 0
abbrev n0:Value:=.slice none 0 0
abbrev e0:Value:=.string ⟨#[]⟩
def tyT:Nat->Option TyD
 | 2=>some ⟨1,false,[i0],8,[],0⟩
 | 3=>some ⟨1,false,[i0],8,[],0⟩
 | 4=>some ⟨1,false,[.bool false],1,[],0⟩
 | 5=>some ⟨1,false,[.int .u8 0],1,[],0⟩
 | 9=>some ⟨1,false,[e0],16,[],0⟩
 | 23=>some ⟨1,false,[n0],24,[],101⟩
 | 24=>some ⟨1,false,[n0],24,[],2⟩
 | 39=>some ⟨1,false,[n0],24,[],38⟩
 | 27=>some ⟨1,false,[n0],24,[],44⟩
 | 28=>some ⟨1,false,[n0],24,[],41⟩
 | 97=>some ⟨1,false,[n0],24,[],4⟩
 | 38=>some ⟨2,true,[i0,i0],16,[(0,1),(1,1)],0⟩
 | 101=>some ⟨3,true,[i0,n0,e0],48,[(0,1),(1,1),(2,1)],0⟩
 | 26=>some ⟨2,true,[n0,n0],48,[(0,1),(1,1)],0⟩
 | 30=>some ⟨6,true,[n0,n0,i0,i0,n0,n0],112,[(0,2),(2,1),(3,1),(4,1),(5,1)],0⟩
 | 44=>some ⟨6,true,[e0,i0,i0,i0,i0,n0],72,[(0,1),(1,1),(2,1),(3,2),(5,1)],0⟩
 | 41=>some ⟨8,true,[i0,e0,e0,i0,i0,i0,i0,n0],96,[(0,1),(1,1),(2,1),(3,1),(4,1),(5,2),(7,1)],0⟩
 | 112=>some ⟨1,false,[.int .u64 0],8,[],0⟩
 | 22=>some ⟨1,false,[n0],24,[],5⟩
 | 50=>some ⟨1,false,[n0],24,[],9⟩
 | 189=>some ⟨6,true,[n0,n0,i0,i0,n0,i0],96,[(0,2),(2,2),(4,1),(5,1)],0⟩
 | 114=>some ⟨4,true,[n0,i0,.int .u64 0,i0],48,[(0,1),(1,1),(2,1),(3,1)],0⟩
 | 34=>some ⟨9,true,[n0,n0,i0,i0,n0,n0,i0,i0,i0],136,[(0,6),(6,1),(7,1),(8,1)],0⟩
 | _=>none
def ikT:Nat->Option IntKind
 | 2=>some .i64
 | 3=>some .i64
 | 5=>some .u8
 | 112=>some .u64
 | _=>none
def tb:Tb:=⟨tyT,4,38,9,39,27,22,5,ikT⟩
theorem zdQ:∀t d,tyT t=some d->zAr Tryz.prog t d:=by
 intro t d h;unfold tyT at h;split at h<;>first
  | (cases h;exact⟨by kernel_rfl,by kernel_rfl,rfl,rfl,rfl,fun _=>rfl,by decide,by decide,by kernel_rfl⟩)
  | (cases h;exact⟨by kernel_rfl,by kernel_rfl,rfl,rfl,rfl,fun h=>(by cases h),by decide,by decide,by kernel_rfl⟩)
  | (cases h;done)
theorem qA:zF4 Tryz.prog tb:=by
 refine⟨zdQ,by kernel_rfl,by kernel_rfl,?_,by kernel_rfl,by kernel_rfl,by kernel_rfl,?_⟩;rotate_left
 ·intro t k h;simp only[tb,ikT]at h;split at h<;>first
   | (cases h;kernel_rfl)
   | (cases h;done)
 intro a b c d w;show(Op.equalIn (9998+1+1) 38 (.agg #[.int .i64 a,.int .i64 b]) (.agg #[.int .i64 c,.int .i64 d])).run Tryz.prog w=_;rw[Op.equalIn];simp[go_sem];by_cases h:a=c<;>by_cases h':b=d<;>simp[h,h']
theorem zz:Tryz.prog.follows .mixedOrders=true:=by kernel_rfl
open Classical in
noncomputable def qk{ι : Type}(A:ι->List (Bool×List Tr))(C:ι->Prop)(R:ι->List (Bool×List Tr)):zX:=fun l=>
 if h:∃x,A x=l then some (C h.choose,R h.choose)else none
theorem zO{ι : Type}{A:ι->List (Bool×List Tr)}{C:ι->Prop}{R:ι->List (Bool×List Tr)}(aA:List (Bool×List Tr)->ι)(hd:∀x,aA (A x)=x)(x:ι):qk A C R (A x)=some (C x,R x):=by
 unfold qk;have h:∃y,A y=A x:=⟨x,rfl⟩;rw[dif_pos h];have:h.choose=x:=by
  have:=congrArg aA h.choose_spec
  rwa [hd,hd]at this
 rw[this]
def zWG(T:Tb)(rv:List ResultVar)(rs:List (Bool×List Tr)):Exit->St->Prop:=fun e S=>match e with
 | .ret=>Ret T rv S rs
 | .normal=>Ret T rv S rs
 | _=>False
theorem zQ{P:Program}{f:Nat}{ι : Type}{A:ι->List (Bool×List Tr)}{C:ι->Prop}{R:ι->List (Bool×List Tr)}{T:Tb}{Γ : List (Nat×zX)}(hT:zF4 P T)(hΓ : GOk P Γ)(hm:P.follows .mixedOrders=true){fn:Func}{body:Code}{N:Nat}{rv:Array ResultVar}(hf:P.funcs[f]?=some fn)(hb:fn.body=some body)(hN:fn.ntmps=N)(bA:fn.results=rv)(n:Nat)
  (h:∀x,C x->(A x).length<=N/\ev N T Γ n body ⟨qg 0 (A x),[]⟩ (zWG T rv.toList (R x))):zy P f (qk A C R):=by
 refine zSx hT hΓ hm hf hb hN bA n (fun l c rs aA hc=>?_);unfold qk at aA;split at aA
 ·rename_i hx
  cases aA;have:=h hx.choose hc;rw[hx.choose_spec]at this;exact this
 ·cases aA
def zRE(T:Tb)(rv:List ResultVar)(rs:List (Bool×List Tr)):Exit->St->Prop:=fun e S=>match e with
 | .ret=>RetP T rv S rs
 | .normal=>RetP T rv S rs
 | _=>False
theorem zBg{P:Program}{f:Nat}{ι : Type}{V:ι->List Tr}{A:ι->List (Bool×List Tr)}{C:ι->Prop}{R:ι->List (Bool×List Tr)}{T:Tb}{Γ : List (Nat×zX)}(hT:zF4 P T)(hΓ : GOk P Γ)(hm:P.follows .mixedOrders=true){fn:Func}{body:Code}{N:Nat}{rv:Array ResultVar}(hf:P.funcs[f]?=some fn)(hb:fn.body=some body)(hN:fn.ntmps=N)(bA:fn.results=rv)(n:Nat)
  (h:∀x,C x->1+(A x).length<=N/\ev N T Γ n body ⟨(0,true,.m false [.p 0 0]) :: qg 1 (A x),zBs (V x)⟩ (zRE T rv.toList (R x))):zBv P f (qk (fun x=>(true,V x) :: A x) C R):=by
 refine zQ2 hT hΓ hm hf hb hN bA n (fun vs l c rs aA hc=>?_);obtain⟨y,e,hy,rfl⟩:∃y,(true,V y) :: A y=(true,vs) :: l/\C y/\R y=rs:=by
  unfold qk at aA;split at aA
  ·rename_i hx
   cases aA;exact⟨_,hx.choose_spec,hc,rfl⟩
  ·cases aA
 simp only[List.cons.injEq,Prod.mk.injEq,true_and]at e;obtain⟨rfl,rfl⟩:=e;exact h y hy
theorem zXd{P:Program}{f:Nat}{ι : Type}{V:ι->List Tr}{A:ι->List (Bool×List Tr)}{C:ι->Prop}{R:ι->List (Bool×List Tr)}{T:Tb}{Γ : List (Nat×zX)}(hT:zF4 P T)(hΓ : GOk P Γ)(hm:P.follows .mixedOrders=true){fn:Func}{body:Code}{N:Nat}{rv:Array ResultVar}(hf:P.funcs[f]?=some fn)(hb:fn.body=some body)(hN:fn.ntmps=N)(bA:fn.results=rv)(n:Nat)
  (h:∀x,C x->(A x).length+1<=N/\ev N T Γ n body ⟨((A x).length,true,.m true (qK 0 0 (V x))) :: qg 0 (A x),qP 0 (V x)⟩ (zWG T rv.toList (R x))):zP9 P f (qk (fun x=>A x ++ [(true,V x)]) C R):=by
 refine zQ1 hT hΓ hm hf hb hN bA n (fun vs l c rs aA hc=>?_);obtain⟨y,e,hy,rfl⟩:∃y,A y ++ [(true,V y)]=l ++ [(true,vs)]/\C y/\R y=rs:=by
  unfold qk at aA;split at aA
  ·rename_i hx
   cases aA;exact⟨_,hx.choose_spec,hc,rfl⟩
  ·cases aA
 obtain⟨e1,e2⟩:=List.append_inj' e rfl;subst e1;cases e2;exact h y hy
def zXo(T:Tb)(rv:List ResultVar)(rs:List (Bool×List Tr)):Exit->St->Prop:=fun e S=>match e with
 | .ret=>RetN T rv S rs
 | .normal=>RetN T rv S rs
 | _=>False
theorem zXc{P:Program}{f:Nat}{ι : Type}{A:ι->List (Bool×List Tr)}{C:ι->Prop}{R:ι->List (Bool×List Tr)}{T:Tb}{Γ : List (Nat×zX)}(hT:zF4 P T)(hΓ : GOk P Γ)(hm:P.follows .mixedOrders=true){fn:Func}{body:Code}{N:Nat}{rv:Array ResultVar}(hf:P.funcs[f]?=some fn)(hb:fn.body=some body)(hN:fn.ntmps=N)(bA:fn.results=rv)(n:Nat)
  (h:∀x,C x->(A x).length<=N/\ev N T Γ n body ⟨qg 0 (A x),[]⟩ (zXo T rv.toList (R x))):zP8 P f (qk A C R):=by
 refine zQ0 hT hΓ hm hf hb hN bA n (fun l c rs aA hc=>?_);unfold qk at aA;split at aA
 ·rename_i hx
  cases aA;have:=h hx.choose hc;rw[hx.choose_spec]at this;exact this
 ·cases aA
def yT(h:Nat->Int):Nat->Nat->Tr:=fun i _=>.v (.int .i64 (h i))
def qM:Tr->Int
 | .v (.int _ x)=>x
 | _=>0
def zF8:Tr->Nat
 | .s _ _ n _=>n
 | _=>0
def zCh:Tr->Nat->Nat->Tr
 | .s _ _ _ f=>f
 | _=>fun _ _=>.v (.bool false)
def nth(l:List (Bool×List Tr))(i j:Nat):Tr:=((l.getD i (false,[])).2).getD j (.v (.bool false))
noncomputable def dB(p:Prop):Bool:=@decide p (Classical.propDecidable p)
theorem zBe{p:Prop}:dB p=true↔p:=@decide_eq_true_iff p (Classical.propDecidable p)
theorem zCH{p:Prop}:dB p=false↔¬p:=@decide_eq_false_iff_not p (Classical.propDecidable p)
theorem zBG{b:Bool}{p:Prop}:(b=dB p)↔(b=true↔p):=by
 rw[Bool.eq_iff_iff,zBe]
theorem qB{k:Nat}(h:k<=1000000000):IntKind.i64.wrap ((k:Int)+1)=((k+1:Nat):Int):=by
 rw[IntKind.wrap_i64];omega
abbrev Av.i(x:Int):Av:=.m false [.v (.int .i64 x)]
section
variable {N : Nat} {T : Tb} {Γ : List (Nat × zX)} {n : Nat} {tm : List (Nat × Bool × Av)} {ob : List (Nat × Ob)} {K : Exit -> St -> Prop} {ops : Array Oper} {dst : Option Nat}
def Ksq(N:Nat)(T:Tb)(Γ : List (Nat×zX))(n:Nat)(b:Code)(K:Exit->St->Prop):Exit->St->Prop:=fun e S=>match e with
 | .normal=>ev N T Γ n b S K
 | e=>K e S
def Kbl(id:Nat)(K:Exit->St->Prop):Exit->St->Prop:=fun e S=>match e with
 | .exit i=>if i=id then K .normal S else K (.exit i) S
 | e=>K e S
def bnd:Option (Prop×St)->(St->Prop)->Prop
 | some q,f=>q.1/\f q.2
 | none,_=>False
theorem yv{a b:Code}:ev N T Γ n (.seq a b) ⟨tm,ob⟩ K=ev N T Γ n a ⟨tm,ob⟩ (Ksq N T Γ n b K):=rfl
theorem qT{id:Nat}{a:Code}:ev N T Γ n (.block id a) ⟨tm,ob⟩ K=ev N T Γ n a ⟨tm,ob⟩ (Kbl id K):=rfl
theorem yF:ev N T Γ n .skip ⟨tm,ob⟩ K=K .normal ⟨tm,ob⟩:=rfl
theorem yD{id:Nat}:ev N T Γ n (.exit id) ⟨tm,ob⟩ K=K (.exit id) ⟨tm,ob⟩:=rfl
theorem yu:ev N T Γ n .ret ⟨tm,ob⟩ K=K .ret ⟨tm,ob⟩:=rfl
theorem yr{id:Nat}:ev N T Γ n (.region id ops false) ⟨tm,ob⟩ K=runL N T Γ ops ops.toList ⟨fgt n tm,ob⟩ (K .normal):=rfl
theorem yq{id:Nat}:ev N T Γ n (.region id ops true) ⟨tm,ob⟩ K=runT N T Γ ops ops.toList ⟨fgt n tm,ob⟩ [] (fun S ts=>chk ops.toList ts=true/\K .normal S):=rfl
theorem yC{c:Operand}{a b:Code}:ev N T Γ n (.cond c a b) ⟨tm,ob⟩ K=match opd ⟨tm,ob⟩ c with
  | some (cc,.m false [.v (.bool t)])=>cc=true/\(t=true->ev N T Γ n a ⟨tm,ob⟩ K)/\(t=false->ev N T Γ n b ⟨tm,ob⟩ K)
  | _=>False:=rfl
theorem yp{rv:List ResultVar}{rs:List (Bool×List Tr)}:zWG T rv rs .ret ⟨tm,ob⟩=Ret T rv ⟨tm,ob⟩ rs:=rfl
theorem yo{rv:List ResultVar}{rs:List (Bool×List Tr)}:zWG T rv rs .normal ⟨tm,ob⟩=Ret T rv ⟨tm,ob⟩ rs:=rfl
theorem zBP:tb.ty=tyT:=rfl
theorem zBI:tb.bt=4:=rfl
theorem zBM:tb.pt=38:=rfl
theorem zBN:tb.sx=9:=rfl
theorem zBO:tb.tk=39:=rfl
theorem zBL:tb.mv=27:=rfl
theorem zBJ:tb.by'=22:=rfl
theorem zBK:tb.ik=ikT:=rfl
theorem yB{rv:List ResultVar}{rs:List (Bool×List Tr)}:zRE T rv rs .ret ⟨tm,ob⟩=RetP T rv ⟨tm,ob⟩ rs:=rfl
theorem yA{rv:List ResultVar}{rs:List (Bool×List Tr)}:zRE T rv rs .normal ⟨tm,ob⟩=RetP T rv ⟨tm,ob⟩ rs:=rfl
theorem qz{rv:List ResultVar}{rs:List (Bool×List Tr)}:zXo T rv rs .ret ⟨tm,ob⟩=RetN T rv ⟨tm,ob⟩ rs:=rfl
theorem qy{rv:List ResultVar}{rs:List (Bool×List Tr)}:zXo T rv rs .normal ⟨tm,ob⟩=RetN T rv ⟨tm,ob⟩ rs:=rfl
def Kl{α : Type}(I:α->St)(μ : α->Nat)(J:α->Prop)(a:α)(K:Exit->St->Prop):Exit->St->Prop:=fun e S'=>match e with
 | .normal=>∃a',J a'/\μ a' < μ a/\StW S' (I a')
 | e=>K e S'
theorem zCc{α : Type}{I:α->St}{μ : α->Nat}{J:α->Prop}{a:α}:Kl I μ J a K .normal ⟨tm,ob⟩ = ∃a',J a'/\μ a' < μ a/\StW ⟨tm,ob⟩ (I a'):=rfl
theorem zCe{α : Type}{I:α->St}{μ : α->Nat}{J:α->Prop}{a:α}{i:Nat}{S:St}:Kl I μ J a K (.exit i) S=K (.exit i) S:=rfl
theorem zCd{α : Type}{I:α->St}{μ : α->Nat}{J:α->Prop}{a:α}{S:St}:Kl I μ J a K .ret S=K .ret S:=rfl
theorem yE{α : Type}(I:α->St)(μ : α->Nat)(J:α->Prop)(a0:α){c:Code}{S:St}(hw:StW S (I a0))(hj:J a0)(h:∀a,J a->ev N T Γ n c (I a) (Kl I μ J a K)):ev N T Γ n (.loop c) S K:=by
 refine⟨fun m S=>∃a,J a/\μ a=m/\S=I a,μ a0,I a0,hw,⟨a0,hj,rfl,rfl⟩,?_⟩;rintro m S ⟨a,ha,rfl,rfl⟩;refine cast (congrArg (ev N T Γ n c (I a)) ?_) (h a ha);funext e S';cases e<;>first | rfl | skip
 refine propext ⟨fun ⟨a',h1,h2,h3⟩=>⟨μ a',I a',h3,h2,a',h1,rfl,rfl⟩,?_⟩;rintro⟨m',aA,h1,h2,a',h3,rfl,rfl⟩;exact⟨a',h3,h2,h1⟩
theorem zBD{b:Code}{S:St}:Ksq N T Γ n b K .normal S=ev N T Γ n b S K:=rfl
theorem zBF{b:Code}{S:St}{i:Nat}:Ksq N T Γ n b K (.exit i) S=K (.exit i) S:=rfl
theorem zBE{b:Code}{S:St}:Ksq N T Γ n b K .ret S=K .ret S:=rfl
theorem zBA{id:Nat}{S:St}:Kbl id K .normal S=K .normal S:=rfl
theorem zBC{id i:Nat}{S:St}:Kbl id K (.exit i) S=if i=id then K .normal S else K (.exit i) S:=rfl
theorem zBB{id:Nat}{S:St}:Kbl id K .ret S=K .ret S:=rfl
theorem qY{f:St->Prop}:runL N T Γ ops [] ⟨tm,ob⟩ f=f ⟨tm,ob⟩:=rfl
theorem zt{o:Oper}{r:List Oper}{f:St->Prop}:runL N T Γ ops (o :: r) ⟨tm,ob⟩ f=bnd (stp N T Γ ops ⟨tm,ob⟩ o) (fun S=>runL N T Γ ops r S f):=by
 simp only[runL];cases stp N T Γ ops ⟨tm,ob⟩ o<;>rfl
theorem qZ{ts:List Tc}{f:St->List Tc->Prop}:runT N T Γ ops [] ⟨tm,ob⟩ ts f=f ⟨tm,ob⟩ ts:=rfl
theorem zu{o:Oper}{r:List Oper}{ts:List Tc}{f:St->List Tc->Prop}:runT N T Γ ops (o :: r) ⟨tm,ob⟩ ts f=bnd (stp N T Γ ops ⟨tm,ob⟩ o) (fun S=>runT N T Γ ops r S (ts ++ [tcAt T Γ ops ⟨tm,ob⟩ o]) f):=by
 simp only[runT];cases stp N T Γ ops ⟨tm,ob⟩ o<;>rfl
theorem qR{q:Prop×St}{f:St->Prop}:bnd (some q) f=(q.1/\f q.2):=rfl
theorem qQ{f:St->Prop}:bnd none f=False:=rfl
theorem qf{d:Option Nat}{x y z:Operand}{t:Nat}{pos:String}{aA:Array Edge}{g:Option (Nat×Bool)}:stp N T Γ ops ⟨tm,ob⟩ ⟨d,.pick x y z,t,pos,aA,g⟩=stpP N (gtmp ops ⟨d,.pick x y z,t,pos,aA,g⟩) ⟨tm,ob⟩ x y z d:=rfl
theorem zAL{d:Option Nat}{op:Op}{t:Nat}{pos:String}{aA:Array Edge}{g:Option (Nat×Bool)}(h:∀x y z,op≠.pick x y z):stp N T Γ ops ⟨tm,ob⟩ ⟨d,op,t,pos,aA,g⟩=stp0 N T Γ (gtmp ops ⟨d,op,t,pos,aA,g⟩) ⟨tm,ob⟩ op d:=by
 unfold stp;split
 ·rename_i x y z e;exact absurd e (h x y z)
 ·rfl
def zRl(N:Nat)(gt:Option (Option Nat×Bool))(κ : Bool)(l:List (Bool×Av))(tm:List (Nat×Bool×Av))(dst:Option Nat)(ob0:List (Nat×Ob)):Option Dl->Option (Prop×St)
 | some D=>match dst,D.av with
  | some d,some av=>if d<N then some (zAS κ l/\(κ = true->D.c),⟨put tm d (κ,av),obK κ ob0 D⟩)else none
  | none,none=>if gt.isSome then none else some (zAS κ l/\(κ = true->D.c),⟨tm,D.ob⟩)
  | _,_=>none
 | none=>match κ,dst with
  | false,some d=>if d<N then some (True,⟨put tm d (false,.m false [.v (.bool false)]),ob0⟩)else none
  | _,_=>none
def onK(f:Bool->List (Bool×Av)->Option (Prop×St)):Option Bool->Option (List (Bool×Av))->Option (Prop×St)
 | some κ,some l=>f κ l
 | _,_=>none
def Fc(N:Nat)(T:Tb)(Γ : List (Nat×zX))(gt:Option (Option Nat×Bool))(tm:List (Nat×Bool×Av))(ob:List (Nat×Ob))(op:Op)(dst:Option Nat)(κ : Bool)(l:List (Bool×Av)):Option (Prop×St):=zRl N gt κ l tm dst ob (zA1 T Γ dst ob op (l.map (·.2)))
theorem yK{gt:Option (Option Nat×Bool)}{op:Op}:stp0 N T Γ gt ⟨tm,ob⟩ op dst=onK (Fc N T Γ gt tm ob op dst) (kap ⟨tm,ob⟩ gt) (opds ⟨tm,ob⟩ op.operands.toList):=by
 unfold stp0;cases kap ⟨tm,ob⟩ gt with
 | none=>rfl
 | some κ=>
  cases opds ⟨tm,ob⟩ op.operands.toList with
  | none=>rfl
  | some l=>
   simp only[onK,Fc,zRl];cases zA1 T Γ dst ob op (l.map (·.2))<;>rfl
theorem qV{f:Bool->List (Bool×Av)->Option (Prop×St)}{κ : Bool}{l:List (Bool×Av)}:onK f (some κ) (some l)=f κ l:=rfl
theorem zA9{gt:Option (Option Nat×Bool)}{op:Op}{κ : Bool}{l:List (Bool×Av)}:Fc N T Γ gt tm ob op dst κ l=zRl N gt κ l tm dst ob (zA1 T Γ dst ob op (l.map (·.2))):=rfl
theorem yz{g:Option (Option Nat×Bool)}{l:List (Bool×Av)}{aA:List (Nat×Ob)}{d:Nat}{c:Prop}{av:Av}{nw:Bool}:zRl N g true l tm (some d) aA (some ⟨c,some av,ob,nw⟩)=if d<N then some (zAS true l/\(true=true->c),⟨put tm d (true,av),ob⟩)else none:=rfl
theorem yx{g:Option (Option Nat×Bool)}{κ : Bool}{l:List (Bool×Av)}{aA:List (Nat×Ob)}{d:Nat}{c:Prop}{av:Av}:zRl N g κ l tm (some d) aA (some ⟨c,some av,ob,false⟩)=if d<N then some (zAS κ l/\(κ = true->c),⟨put tm d (κ,av),ob⟩)else none:=by cases κ<;>rfl
theorem yw{g:Option (Option Nat×Bool)}{l:List (Bool×Av)}{aA:List (Nat×Ob)}{d:Nat}{c:Prop}{av:Av}:zRl N g false l tm (some d) aA (some ⟨c,some av,ob,true⟩)=if d<N then some (zAS false l/\(false=true->c),⟨put tm d (false,av),aA⟩)else none:=rfl
theorem zAA{g:Option (Option Nat×Bool)}{l:List (Bool×Av)}{aA:List (Nat×Ob)}{d:Nat}:zRl N g false l tm (some d) aA none=if d<N then some (True,⟨put tm d (false,.m false [.v (.bool false)]),aA⟩)else none:=rfl
theorem yy{κ : Bool}{l:List (Bool×Av)}{aA:List (Nat×Ob)}{c:Prop}{nw:Bool}:zRl N none κ l tm none aA (some ⟨c,none,ob,nw⟩)=some (zAS κ l/\(κ = true->c),⟨tm,ob⟩):=rfl
theorem qU{h:Nat->Int}{i j:Nat}:yT h i j = .v (.int .i64 (h i)):=rfl
theorem zp{d:Option Nat}{op:Op}{t:Nat}{pos:String}{aA:Array Edge}:gtmp ops ⟨d,op,t,pos,aA,none⟩=none:=rfl
theorem zq{d:Option Nat}{op:Op}{t:Nat}{pos:String}{aA:Array Edge}{j:Nat}{b:Bool}{os:List Oper}:gtmp os.toArray ⟨d,op,t,pos,aA,some (j,b)⟩=some ((os[j]?).bind (·.dst),b):=by
 simp only[gtmp,List.getElem?_toArray];cases (os[j]?).bind (·.dst)<;>rfl
def onT(T:Tb)(Γ : List (Nat×zX))(ob:List (Nat×Ob))(op:Op)(d:Option Nat)(rd:List Nat):Option (List (Bool×Av))->Tc
 | some l=>⟨rd,d,tks T Γ ob op d (l.map (·.2))⟩
 | none=>tc0
theorem yL{d:Option Nat}{op:Op}{t:Nat}{pos:String}{aA:Array Edge}{g:Option (Nat×Bool)}:tcAt T Γ ops ⟨tm,ob⟩ ⟨d,op,t,pos,aA,g⟩=onT T Γ ob op d (tmpsOf op.operands.toList ++ zAy (gtmp ops ⟨d,op,t,pos,aA,g⟩)) (opds ⟨tm,ob⟩ op.operands.toList):=by
 unfold tcAt onT;cases opds ⟨tm,ob⟩ op.operands.toList<;>rfl
theorem qW{op:Op}{d:Option Nat}{rd:List Nat}{l:List (Bool×Av)}:onT T Γ ob op d rd (some l)=⟨rd,d,tks T Γ ob op d (l.map (·.2))⟩:=rfl
theorem qS{op:Op}:zA1 T Γ dst ob op []=coreU T Γ dst ob op []:=rfl
theorem zo{op:Op}{x:Av}{l:List Av}:zA1 T Γ dst ob op (x :: l)=coreU T Γ dst ob op (x :: l):=rfl
end
def zL(P:Prop)(e:Ending):Prop:=∃b:Bool,e = .returned (.bool b)/\(b=true↔P)
theorem zL.yes{P:Prop}(h:P):zL P (.returned (.bool true)):=⟨true,rfl,by simp[h]⟩
theorem zL.no{P:Prop}(h:¬P):zL P (.returned (.bool false)):=⟨false,rfl,by simp[h]⟩
theorem yJ{n k:Nat}{P:Nat->Prop}(hk:k<n)(h:∀i,i<k->P i)(hp:P k):∀i,i<k+1->P i:=fun i hi=>by
 by_cases e:i=k
 ·subst e;exact hp
 ·exact h i (by omega)
theorem zCx{B:Nat}{w w':World}(h:Below B w w')(n:Nat):Below B w (w'.drewN n):=⟨h.os,h.tape,h.output,h.size,h.block⟩
theorem zN0{s t:ByteArray}(h:s=t):(s.toList == t.toList)=true:=by simp[h]
theorem zN1{s t:ByteArray}(h:¬s=t):(s.toList == t.toList)=false:=by
 rw[beq_eq_false_iff_ne];intro e;rw[Go.ByteArray.toList_eq,Go.ByteArray.toList_eq]at e;apply h;cases s;cases t;simp only[ByteArray.mk.injEq]at *;exact Array.toList_inj.1 e
theorem qF{w w1:World}(h:Below w.drew.heap.size w.drew w1):Below w.heap.size w w1:=⟨h.os,h.tape,h.output,h.size,h.block⟩
theorem zI2{w wr w1:World}(hb:Below w.heap.size w wr)(h1:Below wr.drew.heap.size wr.drew w1):Below w.heap.size w w1:=
 hb.drew.trans (h1.mono hb.size)
theorem zA{w wr w1:World}(hb:Below w.heap.size w wr)(h1:Below wr.heap.size wr w1):Below w.heap.size w w1:=
 hb.trans (h1.mono hb.size)
structure zN where
 birth:Int
 kn:Nat
 ks:Nat->Int
 kb:Nat->Int
 data:ByteArray
structure zF where
 n:Nat
 s:Nat->zN
 hn:Nat
 h:Nat->Int
def zMH(a b c d:Int):Prop:=a=c/\b=d
theorem zH{w:World}{b o:Nat}{v:Value}(h:w.cell? ⟨b,o,none⟩=some v):b<w.heap.size:=by
 simp only[World.cell?]at h;by_cases hb:b<w.heap.size
 ·exact hb
 ·rw[Array.getElem?_eq_none (by omega)]at h;simp at h
def zCn(w:World)(lo hi:Nat)(v:Value)(n:Nat)(f:Nat->Int):Prop:=
 n<=maxLen/\∃a cap,v = .slice a n cap/\n<=cap/\(0<n->∃b off,a=some ⟨b,off,none⟩/\lo<=b/\b<hi/\∀i,i<n->w.cell? ⟨b,off+i,none⟩=some (.int .i64 (f i)))
def qn(w:World)(lo hi:Nat)(v:Value)(n:Nat)(fs fb:Nat->Int):Prop:=
 n<=maxLen/\∃a cap,v = .slice a n cap/\n<=cap/\(0<n->∃b off,a=some ⟨b,off,none⟩/\lo<=b/\b<hi/\∀i,i<n->w.cell? ⟨b,off+i*2,none⟩=some (.int .i64 (fs i))/\w.cell? ⟨b,off+i*2+1,none⟩=some (.int .i64 (fb i)))
def zCK(w:World)(lo hi:Nat)(v0 v1 v2:Value)(s:zN):Prop:=
 v0 = .int .i64 s.birth/\qn w lo hi v1 s.kn s.ks s.kb/\v2 = .string s.data/\s.data.size<=maxLen
def zA3(w:World)(lo hi:Nat)(v:Value)(n:Nat)(f:Nat->zN):Prop:=
 n<=maxLen/\∃a cap,v = .slice a n cap/\n<=cap/\(0<n->∃b off,a=some ⟨b,off,none⟩/\lo<=b/\b<hi/\∀i,i<n->∃v0 v1 v2,w.cell? ⟨b,off+i*3,none⟩=some v0/\w.cell? ⟨b,off+i*3+1,none⟩=some v1/\w.cell? ⟨b,off+i*3+2,none⟩=some v2/\zCK w lo hi v0 v1 v2 (f i))
def zCG(w:World)(lo hi:Nat)(v0 v1:Value)(p:zF):Prop:=zA3 w lo hi v0 p.n p.s/\zCn w lo hi v1 p.hn p.h
theorem zCn.zeF{w w':World}{lo hi:Nat}{v:Value}{n:Nat}{f:Nat->Int}(h:zCn w lo hi v n f)(s:Below w.heap.size w w'):zCn w' lo hi v n f:=by
 obtain⟨h0,a,cap,hv,aA,hc⟩:=h;refine⟨h0,a,cap,hv,aA,fun hn=>?_⟩;obtain⟨b,off,ha,h1,h2,h3⟩:=hc hn;exact⟨b,off,ha,h1,h2,fun i hi=>(s.cell (zH (h3 i hi))).trans (h3 i hi)⟩
theorem qn.zeF{w w':World}{lo hi:Nat}{v:Value}{n:Nat}{f g:Nat->Int}(h:qn w lo hi v n f g)(s:Below w.heap.size w w'):qn w' lo hi v n f g:=by
 obtain⟨h0,a,cap,hv,aA,hc⟩:=h;refine⟨h0,a,cap,hv,aA,fun hn=>?_⟩;obtain⟨b,off,ha,h1,h2,h3⟩:=hc hn;exact⟨b,off,ha,h1,h2,fun i hi=>⟨(s.cell (zH (h3 i hi).1)).trans (h3 i hi).1,(s.cell (zH (h3 i hi).2)).trans (h3 i hi).2⟩⟩
theorem zCK.zeF{w w':World}{lo hi:Nat}{v0 v1 v2:Value}{t:zN}(h:zCK w lo hi v0 v1 v2 t)(s:Below w.heap.size w w'):zCK w' lo hi v0 v1 v2 t:=
 ⟨h.1,h.2.1.zeF s,h.2.2⟩
theorem zA3.zeF{w w':World}{lo hi:Nat}{v:Value}{n:Nat}{f:Nat->zN}(h:zA3 w lo hi v n f)(s:Below w.heap.size w w'):zA3 w' lo hi v n f:=by
 obtain⟨h0,a,cap,hv,aA,hc⟩:=h;refine⟨h0,a,cap,hv,aA,fun hn=>?_⟩;obtain⟨b,off,ha,h1,h2,h3⟩:=hc hn;refine⟨b,off,ha,h1,h2,fun i hi=>?_⟩;obtain⟨v0,v1,v2,c0,c1,c2,hs⟩:=h3 i hi;exact⟨v0,v1,v2,(s.cell (zH c0)).trans c0,(s.cell (zH c1)).trans c1,(s.cell (zH c2)).trans c2,hs.zeF s⟩
theorem zCG.zeF{w w':World}{lo hi:Nat}{v0 v1:Value}{p:zF}(h:zCG w lo hi v0 v1 p)(s:Below w.heap.size w w'):zCG w' lo hi v0 v1 p:=⟨h.1.zeF s,h.2.zeF s⟩
theorem zCn.take{w:World}{lo hi:Nat}{a:Option Addr}{n c m c':Nat}{f:Nat->Int}(h:zCn w lo hi (.slice a n c) n f)(hm:m<=n)(hc:m<=c'):zCn w lo hi (.slice a m c') m f:=by
 obtain⟨h0,a2,cap,hv,aA,hx⟩:=h;simp only[Value.slice.injEq,true_and]at hv;obtain⟨rfl,rfl⟩:=hv;refine⟨by omega,a,c',rfl,hc,fun h0=>?_⟩;obtain⟨b,off,ha,h1,h2,h3⟩:=hx (by omega);exact⟨b,off,ha,h1,h2,fun i hi=>h3 i (by omega)⟩
structure zEA (w:World) (b o:Nat) (lo hi:Nat) (ka:Option Addr) (kc:Nat) (s:zN):Prop where
 c0:w.cell? ⟨b,o,none⟩=some (.int .i64 s.birth)
 c1:w.cell? ⟨b,o+1,none⟩=some (.slice ka s.kn kc)
 c2:w.cell? ⟨b,o+2,none⟩=some (.string s.data)
 slot:zCK w lo hi (.int .i64 s.birth) (.slice ka s.kn kc) (.string s.data) s
theorem zEA.zeF{w w':World}{b o lo hi:Nat}{ka:Option Addr}{kc:Nat}{s:zN}(h:zEA w b o lo hi ka kc s)(t:Below w.heap.size w w'):zEA w' b o lo hi ka kc s:=
 ⟨(t.cell (zH h.c0)).trans h.c0,(t.cell (zH h.c1)).trans h.c1,(t.cell (zH h.c2)).trans h.c2,h.slot.zeF t⟩
theorem zA3.cells{w:World}{lo hi:Nat}{a:Option Addr}{n c:Nat}{f:Nat->zN}(h:zA3 w lo hi (.slice a n c) n f){i:Nat}(aA:i<n) :
  ∃b off ka kc,a=some ⟨b,off,none⟩/\zEA w b (off+i*3) lo hi ka kc (f i):=by
 obtain⟨h0,a2,cap,hv,cA,hx⟩:=h;simp only[Value.slice.injEq,true_and]at hv;obtain⟨rfl,rfl⟩:=hv;obtain⟨b,off,ha,h1,h2,h3⟩:=hx (by omega);obtain⟨v0,v1,v2,c0,c1,c2,hs⟩:=h3 i aA;have bA:=hs;obtain⟨rfl,⟨_,ka,kc,rfl,_⟩,rfl,_⟩:=hs;exact⟨b,off,ka,kc,ha,⟨c0,c1,c2,bA⟩⟩
theorem qj{P:Prop}{t:Bool}(ht:t=true↔P)(h:¬P):t=false:=Bool.eq_false_iff.2 (fun e=>h (ht.1 e))
def zAO(s:zN):Prop:=s.birth=0/\s.kn=0/\s.data.toList.isEmpty=true
def zBW(n:Int):Prop:=1<=n/\n<=1000000
def qp(p:zF)(xs xb:Int):Prop:=1<=xb/\0<=xs/\xs<p.n/\(p.s xs.toNat).birth=xb
def zUk(p:zF)(b:Int)(xs xb:Int):Prop:=(xs=0/\xb=0)\/(qp p xs xb/\xb<=b)
def zDp(p:zF)(s:zN):Prop:=zBW s.birth/\((s.kn=0/\s.data.size=16)\/(s.kn=8/\s.data.toList.isEmpty=true/\∀i,i<s.kn->zUk p s.birth (s.ks i) (s.kb i)))
def Has(n:Nat)(f:Nat->Int)(x:Int):Prop:=∃j,j<n/\f j=x
def zXn(p:zF)(i:Nat):Prop:=0<=p.h i/\p.h i<p.n/\¬zAO (p.s (p.h i).toNat)/\¬Has i p.h (p.h i)
def zg(p:zF):Prop:=p.n<=200/\(∀i,i<p.n->zAO (p.s i)\/zDp p (p.s i))/\∀i,i<p.hn->zXn p i
end Go.Proofs.YtjganmlaooofoaaGreatDoor

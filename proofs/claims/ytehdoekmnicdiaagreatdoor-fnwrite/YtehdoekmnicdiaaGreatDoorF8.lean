/- A part of the proof. -/
import Derived.Test.YtehdoekmnicdiaaGreatDoorF7
import Derived.Test.YtehdoekmnicdiaaGreatDoorProg
import Derived.KernelRfl
import GoSem.ClaimJoined
import GoSem.ClaimMapViews
import Derived.JoinedTies
import Derived.RowKit
import Derived.Deep.RegionHeld3
import Derived.Deep.QuietTactic
import Derived.BigQuiet
set_option linter.unusedVariables false
set_option maxRecDepth 20000
set_option maxHeartbeats 4000000
namespace Go.Proofs.YtehdoekmnicdiaaGreatDoor
open Go.RowKit
set_option linter.unusedSimpArgs false
def Dz:Nat->List (Bool×List Tr)->List (Nat×Bool×Av)
 | _,[]=>[]
 | i,q :: r=>(i,true,.m q.1 (q.2.map Tr.cv)) :: Dz (i+1) r
theorem YY:∀{a:List (Bool×List Tr)} {i d:Nat} {x:Bool×Av},get (Dz i a) d=some x->∃j q,d=i+j/\a[j]?=some q/\x=(true,.m q.1 (q.2.map Tr.cv))
 | [],i,d,x,h=>by cases h
 | p :: r,i,d,x,h=>by
  simp only[Dz,get]at h;split at h
  ·rename_i e;cases h;exact⟨0,p,by omega,rfl,rfl⟩
  ·obtain⟨j,q,f,b,c⟩:=YY h;exact⟨j+1,q,by omega,by simpa using b,c⟩
variable{w:World}{E:En}{D:Nat->Prop}
theorem zGT{l:List Tr}{cs:List Value}(h:AP (Sh w E.g) l cs):CsR w E D (l.map Tr.cv) cs:=by
 induction h with
 | nil=>exact AP.nil
 | cons h1 _ ih=>exact AP.cons h1.cv ih
variable{ys xs:List Value}
theorem Q1{b:List (Bool×List Tr)}(h:AP (FE w E.g) b ys){i:Nat}{l:List Value}(v:l.drop i=ys ++ xs){a:Act}(t:a.tmps=l.toArray):TmR w E D (Dz i b) a:=by
 intro d c x u;obtain⟨j,q,p,r,s⟩:=YY u;subst p;cases s;obtain⟨y,o,k⟩:=h.at r;have e:a.tmps.getD (i+j) undef=y:=by
  have m:=(List.getElem?_eq_some_iff.1 o).1;have n:(l.drop i)[j]?=some y:=(by rw[v,List.getElem?_append_left m];exact o);rw[List.getElem?_drop]at n;rw[t,Array.getD_eq_getD_getElem?,List.getElem?_toArray,n];rfl
 refine⟨fun _=>?_,fun f=>by cases f⟩;rw[e];obtain⟨g,l⟩:=q;cases g with
 | true=>obtain⟨cs,e,f⟩:=k;exact⟨cs,e,zGT f⟩
 | false=>obtain⟨T,e,f⟩:=k;simp only at e;subst e;exact⟨_,rfl,Sh.cv f⟩
variable{a:List (Bool×List Tr)}{N:Nat}
theorem Tp{g0:Nat->Bs}(h:AP (FE w g0) a ys)(c:a.length<=N):Rel w ⟨g0,none⟩ N ⟨Dz 0 a,[]⟩ ⟨ys.toArray ++ Array.replicate (N - ys.toArray.size) undef,[]⟩ w:=by
 have d:=h.length;refine⟨⟨g0,fun _=>0,fun _=>.bool false⟩,Kp.refl _ _,Q1 (E:=⟨g0,fun _=>0,fun _=>.bool false⟩) h (l:=ys ++ List.replicate (N - ys.length) undef) (xs:=List.replicate (N - ys.length) undef) (by simp) (by apply Array.ext';simp),fun i o hi=>(by cases hi),rfl,(by simp;omega),fun B b=>by cases b⟩
variable{vs:List Tr}
theorem zEK(o:AS w E (Fu vs))(h:AP (FE w E.g) a ys)(q:1+a.length<=N):Rel w ⟨E.g,some (E.bl 0)⟩ N ⟨(0,true,.m false [.p 0 0]) :: Dz 1 a,Fu vs⟩ ⟨(.pointer (some ⟨E.bl 0,0,none⟩) :: ys).toArray ++ Array.replicate (N - (.pointer (some ⟨E.bl 0,0,none⟩) :: ys).toArray.size) undef,[]⟩ w:=by
 have r:=h.length;have f:dom (Fu vs) 0:=by unfold dom Fu;simp only[get,if_pos];rfl
 have e:(.pointer (some ⟨E.bl 0,0,none⟩) :: ys).toArray ++ Array.replicate (N - (.pointer (some ⟨E.bl 0,0,none⟩) :: ys).toArray.size) undef=((.pointer (some ⟨E.bl 0,0,none⟩) :: (ys ++ List.replicate (N - (ys.length+1)) undef)):List Value).toArray:=by apply Array.ext';simp
 refine⟨E,Kp.refl _ _,fun d c j b=>?_,o,rfl,(by simp;omega),fun B k=>by cases k;exact⟨f,rfl⟩⟩;simp only[get]at b;split at b
 ·rename_i e0
  subst e0;cases b;refine⟨fun _=>?_,fun n=>by cases n⟩;rw[e];exact av1 ⟨f,rfl⟩
 ·exact Q1 h (i:=1) (l:=.pointer (some ⟨E.bl 0,0,none⟩) :: (ys ++ List.replicate (N - (ys.length+1)) undef)) (xs:=List.replicate (N - (ys.length+1)) undef) (by simp) e d c j b
theorem zEJ{y:Value}(q:AS w E (DV 0 vs))(h:AP (FE w E.g) a ys)(f:VlR w E (dom (DV 0 vs)) true (D8 0 0 vs) y)(r:a.length+1<=N) :
 Rel w ⟨E.g,none⟩ N ⟨(a.length,true,.m true (D8 0 0 vs)) :: Dz 0 a,DV 0 vs⟩ ⟨(ys ++ [y]).toArray ++ Array.replicate (N - (ys ++ [y]).toArray.size) undef,[]⟩ w:=by
 have p:=h.length;have e:(ys ++ [y]).toArray ++ Array.replicate (N - (ys ++ [y]).toArray.size) undef=(ys ++ (y :: List.replicate (N - (ys.length+1)) undef):List Value).toArray:=by apply Array.ext';simp
 refine⟨E,Kp.refl _ _,fun d c j b=>?_,q,rfl,(by simp;omega),fun B n=>by cases n⟩;simp only[get]at b;split at b
 ·rename_i e0
  subst e0;cases b;refine⟨fun _=>?_,fun o=>by cases o⟩;have k:(⟨(ys ++ [y]).toArray ++ Array.replicate (N - (ys ++ [y]).toArray.size) undef,[]⟩:Act).tmps.getD a.length undef=y:=by
   rw[e,p];simp[Array.getD_eq_getD_getElem?]
  rw[k];exact f
 ·exact Q1 h (i:=0) (l:=ys ++ (y :: List.replicate (N - (ys.length+1)) undef)) (xs:=y :: List.replicate (N - (ys.length+1)) undef) (by simp) e d c j b
def resCv(T:Tb)(S:St):List ResultVar->Option (List (Bool×List Cv))
 | []=>some []
 | .tmp t :: r=>match get S.tm t,resCv T S r with
  | some (true,.m g l),some q=>some ((g,l) :: q)
  | _,_=>none
 | .cell t ty :: r=>match get S.tm t,T.ty ty,resCv T S r with
  | some (true,.m false [.p i o]),some d,some q=>match evLoad d S.ob (.p i o)with
   | some (_,.m g l)=>some ((g,l) :: q)
   | _=>none
  | _,_,_=>none
def LD(tmps:Array Value):ResultVar->Sem Value
 | .tmp t=>pure (tmps.getD t undef)
 | .cell a t=>do loadVar t (<-asAddr (tmps.getD a undef))
theorem Kj{P:Program}{T:Tb}(k:DS P T){w0:World}{g0:Gh}{N:Nat}{S:St}{a:Act}{w:World}{E:En}(h:FH w0 g0 N S a w E):∀{rv:List ResultVar} {q:List (Bool×List Cv)},resCv T S rv=some q->
 ∃vs:List Value,(rv.mapM (LD a.tmps)).run P w = .ok vs w/\AP (fun (q:Bool×List Cv) u=>VlR w E (dom S.ob) q.1 q.2 u) q vs
 | [],q,hq=>by cases hq;exact⟨[],by simp,.nil⟩
 | .tmp t :: r,q,hq=>by
  simp only[resCv]at hq;split at hq
  ·rename_i g l q' hg hr
   cases hq;obtain⟨vs,e,f⟩:=Kj k h hr;have b:=(h.tm t _ _ hg).1 rfl;exact⟨a.tmps.getD t undef :: vs,by simp[List.mapM_cons,e,LD],.cons b f⟩
  ·cases hq
 | .cell t ty :: r,q,hq=>by
  simp only[resCv]at hq;split at hq
  ·rename_i i o d q' hg hd hr
   split at hq
   ·rename_i c g l hl
    cases hq;obtain⟨vs,e,f⟩:=Kj k h hr;have b:=vl1 ((h.tm t _ _ hg).1 rfl);have s:c:=by
     simp only[evLoad]at hl;split at hl
     ·split at hl
      ·cases hl;trivial
      ·cases hl
     ·cases hl
    obtain⟨z,m,n⟩:=XN (k.ok _ _ hd) h.ob hl s b;refine⟨z :: vs,?_,.cons n f⟩;have p:(LD a.tmps (.cell t ty)).run P w = .ok z w:=by
     simp only[LD];rw[b.2];have j:=m;rw[b.2]at j;unfold Instr.loadAt at j;simpa[Instr.sureAddr,asAddr]using j
    rw[List.mapM_cons];simp[p,e]
   ·cases hq
  ·cases hq
def cellM(ob:List (Nat×Ob)):Cv->Tr->Prop
 | .v x,.v y=>x=y
 | .v x,.s .o k n f=>x = .slice none 0 0/\n=0
 | .h i,.s .o k n f=>match get ob i with
  | some (.row k' n' f')=>TrE (.s .o k' n' f') (.s .o k n f)/\(Tr.s .o k n f).kept
  | _=>False
 | .s fl k n f,.s .z k' n' f'=>fl≠.b/\TrE (.s .z k n f) (.s .z k' n' f')/\(Tr.s .z k' n' f').kept
 | _,_=>False
def LX(ob:List (Nat×Ob)):List Cv->List Tr->Prop
 | [],[]=>True
 | x :: r,y :: s=>cellM ob x y/\LX ob r s
 | _,_=>False
def JB(ob:List (Nat×Ob)):List (Bool×List Cv)->List (Bool×List Tr)->Prop
 | [],[]=>True
 | x :: r,y :: s=>x.1=y.1/\LX ob x.2 y.2/\JB ob r s
 | _,_=>False
def Mh:Nat->List Cv->List (Nat×Nat)
 | _,[]=>[]
 | n,.h i :: r=>(i,n) :: Mh (n+1) r
 | n,_ :: r=>Mh (n+1) r
def Ef:Nat->List (Bool×List Cv)->List (Nat×Nat)
 | _,[]=>[]
 | n,q :: r=>Mh n q.2 ++ Ef (n+q.2.length) r
def Ret(T:Tb)(rv:List ResultVar)(S:St)(rs:List (Bool×List Tr)):Prop:=
 match resCv T S rv with
 | some q=>JB S.ob q rs/\E3 ((Ef 0 q).map (·.1))=true
 | none=>False
def RetP(T:Tb)(rv:List ResultVar)(S:St)(rs:List (Bool×List Tr)):Prop:=
 match get S.ob 0,resCv T S rv with
 | some (.var l),some q=>JB S.ob ((true,l) :: q) rs/\E3 (0 :: (Ef 1 ((true,l) :: q)).map (·.1))=true
 | _,_=>False
def RetN(T:Tb)(rv:List ResultVar)(S:St)(rs:List (Bool×List Tr)):Prop:=
 match resCv T S rv with
 | some [(false,[.p i 0])]=>match get S.ob i with
  | some (.var l)=>JB S.ob [(true,l)] rs/\E3 (i :: (Ef 1 [(true,l)]).map (·.1))=true
  | _=>False
 | _=>False
def Bs.ren(r:Nat->Nat):Bs->Bs
 | .ow (.nm j) lim=>.ow (.nm (r j)) lim
 | s=>s
variable{r:Nat->Nat}
theorem Bs.ren_ok{s:Bs}{fl:Fl}{e:Nat}(h:s.ok fl e):(s.ren r).ok fl e:=by
 cases s with
 | fz x=>exact h
 | ow o lim=>cases o<;>exact h
theorem Kp.ren{w':World}{g g':Nat->Bs}(h:Kp w g w' g'):Kp w g w' (fun b=>(g' b).ren r):=by
 refine⟨h.os,h.tape,h.output,h.size,fun b x d e=>?_,fun b o f d e=>?_⟩
 ·obtain⟨c,a⟩:=h.fz b x d e;exact⟨c,by simp only[a,Bs.ren]⟩
 ·obtain⟨c,⟨o',l',a,k⟩ | a⟩:=h.ow b o f d e
  ·refine⟨c,.inl ?_⟩;cases o' with
   | nm i=>exact⟨.nm (r i),l',by simp only[a,Bs.ren],k⟩
   | tl b j=>exact⟨.tl b j,l',by simp only[a,Bs.ren],k⟩
  ·exact⟨c,.inr (by simp only[a,Bs.ren])⟩
section
variable {w : World} {E : En} {ob : List (Nat × Ob)}
theorem zEX(R:AS w E ob){x:Cv}{y:Tr}{u:Value}(h:cellM ob x y)(q:CvR w E (dom ob) x u){n:Nat}(S:∀i,x = .h i->r i=n):NR w (fun b=>(E.g b).ren r) n y u:=by
 have A:∀b fl e,(E.g b).ok fl e->((E.g b).ren r).ok fl e:=fun b fl e h=>Bs.ren_ok h
 cases x with
 | v x=>
  cases y with
  | v y=>cases h;exact q
  | s fl k n f=>
   cases fl<;>simp only[cellM]at h
   obtain⟨rfl,rfl⟩:=h;exact⟨none,0,q.1,Nat.le_refl _,fun F=>by omega⟩
 | h i=>
  cases y with
  | v y=>exact h.elim
  | s fl k m f=>
   cases fl<;>simp only[cellM]at h
   split at h
   ·rename_i U n' f' hi
    obtain⟨⟨-,rfl,rfl,H⟩,l⟩:=h;obtain⟨a,cap,hv,hn,N⟩:=R _ _ hi;refine⟨a,cap,q.2.1.trans hv,hn,fun F=>?_⟩;obtain⟨L,O,c,t,P,Q,d⟩:=N F;refine⟨_,L,?_,c,t,P,Q,fun p j C B=>?_⟩
    ·show(E.g (E.bl i)).ren r=_;rw[O];simp only[Bs.ren,S i rfl]
    ·obtain⟨u,q,hs,T⟩:=d p j C B;exact⟨u,q,(hs.e (H p j C B)).okm A,l.2 p j C B,(T.e (H p j C B) hs).ext (fun b V M _=>⟨rfl,by show(E.g b).ren r=_;rw[M];rfl⟩)⟩
   ·exact h.elim
 | s fl k m f=>
  cases y with
  | v y=>exact h.elim
  | s fl' U n' f'=>
   cases fl'<;>simp only[cellM]at h
   obtain⟨I,J,K⟩:=h;refine⟨(Sh.e J ?_).okm A,K⟩;have G:=Sh.cv (E:=E) (D:=dom ob) q;cases fl with
   | b=>exact absurd rfl I
   | z=>exact G
   | o=>exact G
 | _=>cases y<;>exact h.elim
theorem Xe(a:AS w E ob){r:Nat->Nat}:∀{l:List Cv} {m:List Tr} {us:List Value} {n:Nat},LX ob l m->CsR w E (dom ob) l us->(∀q∈Mh n l,r q.1=q.2)->OA w (fun b=>(E.g b).ren r) n m us
 | [],[],us,n,h,hu,hr=>by cases hu;rfl
 | x :: l,y :: m,us,n,h,hu,hr=>by
  cases hu with
  | cons h1 t=>
   refine⟨_,_,rfl,zEX a h.1 h1 (fun i e=>by subst e;exact hr (i,n) (List.mem_cons_self ..)),Xe a h.2 t (fun q c=>hr q ?_)⟩;cases x<;>first | exact c | exact List.mem_cons_of_mem _ c
 | [],_ :: _,us,n,h,hu,hr=>h.elim
 | _ :: _,[],us,n,h,hu,hr=>h.elim
theorem YJ:∀{l:List Cv} {m:List Tr},LX ob l m->l.length=m.length
 | [],[],_=>rfl
 | x :: l,y :: m,h=>by simp[YJ h.2]
 | [],_ :: _,h=>h.elim
 | _ :: _,[],h=>h.elim
theorem Lz(f:AS w E ob){r:Nat->Nat}:∀{q:List (Bool×List Cv)} {rs:List (Bool×List Tr)} {vs:List Value} {n:Nat},JB ob q rs->AP (fun (q:Bool×List Cv) u=>VlR w E (dom ob) q.1 q.2 u) q vs->(∀p∈Ef n q,r p.1=p.2)->JK w (fun b=>(E.g b).ren r) n rs vs
 | [],[],vs,n,h,hv,hr=>by cases hv;rfl
 | x :: q,y :: rs,vs,n,h,hv,hr=>by
  cases hv with
  | @cons _ v _ vs' a t=>
   obtain⟨e,d,i⟩:=h;have j:=YJ d;refine⟨v,vs',v.cells.toList,rfl,?_,Xe f d (VlR.cells a) (fun p c=>hr p (List.mem_append_left _ c)),?_⟩
   ·rw[<-e];obtain⟨g,l⟩:=x;cases g with
    | true=>obtain⟨cs,rfl,_⟩:=a;simp[LR,Value.cells]
    | false=>
     obtain⟨x,_,k⟩:=a;have a:=k.one;have:v.cells=#[v]:=by cases v<;>first | rfl | (simp[Value.oneCell']at a)
     simp[LR,this]
   ·rw[<-j];exact Lz f i t (fun p c=>hr p (List.mem_append_right _ c))
 | [],_ :: _,vs,n,h,hv,hr=>h.elim
 | _ :: _,[],vs,n,h,hv,hr=>h.elim
end
theorem Ny{ob:List (Nat×Ob)}:∀{q:List (Bool×List Cv)} {rs:List (Bool×List Tr)},JB ob q rs->q.length=rs.length
 | [],[],_=>rfl
 | x :: q,y :: rs,h=>by simp[Ny h.2.2]
 | [],_ :: _,h=>h.elim
 | _ :: _,[],h=>h.elim
theorem On{P:Program}{fn:Func}{rv:Array ResultVar}(a:fn.results=rv){tmps:Array Value}{vs:List Value}(h:(rv.toList.mapM (LD tmps)).run P w = .ok vs w):(results fn tmps).run P w = .ok (if h:vs.toArray.size=1 then vs.toArray[0] else .tuple vs.toArray) w:=by
 have e:results fn tmps=(do let vs <-fn.results.mapM (LD tmps);pure (if h:vs.size=1 then vs[0] else .tuple vs)):=rfl;rw[e,a,Array.mapM_eq_mapM_toList];simp only[Sem.run_bind,Sem.run_map,h];rfl
section
variable {P : Program} {T : Tb} {Γ : List (Nat × AJ)} {f : Nat} {fn : Func} {body : Code} {N : Nat} {rv : Array ResultVar}
variable{sp:AJ}
theorem ZH(B:DS P T)(hΓ : ∀g0,(∀b,∃r,g0 b = .fz r)->Gq P Γ w ⟨g0,none⟩)(u:P.follows .mixedOrders=true)(I:P.funcs[f]?=some fn)(G:fn.body=some body)(F:fn.ntmps=N)(z:fn.results=rv)(n:Nat)
 (h:∀k c rs,sp k=some (c,rs)->c->k.length<=N/\ev N T Γ n body ⟨Dz 0 k,[]⟩ (fun e S=>match e with
  | .ret=>Ret T rv.toList S rs
  | .normal=>Ret T rv.toList S rs
  | _=>False)):Fe P f sp w:=by
 intro k c rs A H g0 ys L K;obtain⟨t,x⟩:=h k c rs A H;refine calls_of_wp I G ?_;rw[F];refine wp_mono (GU B (hΓ g0 L) u x (Tp K t)) ?_;have s:∀S a w',Ret T rv.toList S rs->Rel w ⟨g0,none⟩ N S a w'->a.defers = []/\∃v,(results fn a.tmps).run P w' = .ok v w'/\∃C g,Ending.returned v = .returned C/\Kp w g0 w' g/\JE w' g rs C:=by
  intro S a w' j ⟨E,hE⟩;unfold Ret at j;split at j
  ·rename_i q o
   obtain⟨u,y⟩:=j;obtain⟨vs,l,m⟩:=Kj B hE o;have D:=Lz hE.ob (r:=fun i=>(get (Ef 0 q) i).getD 0) (n:=0) u m (fun p J=>by rw[J5 y J];rfl);have d:vs.length=rs.length:=m.length.symm.trans (Ny u);refine⟨hE.df,_,On z l,_,_,rfl,hE.kp.ren,vs,D,?_⟩
   match rs,d with
   | [r],d=>
    match vs,d with
    | [v],_=>rfl
   | [],d=>
    match vs,d with
    | [],_=>rfl
   | r1 :: r2 :: rr,d=>
    match vs,d with
    | v1 :: v2 :: vv,_=>simp
  ·exact j.elim
 intro e a w' o;cases e with
 | normal=>obtain⟨S,l,m⟩:=o;exact s S a w' l m
 | ret=>obtain⟨S,l,m⟩:=o;exact s S a w' l m
 | exit i=>obtain⟨S,l,m⟩:=o;exact l.elim
 | _=>exact o.elim
theorem zBz(F:DS P T)(hΓ : GOk P Γ)(u:P.follows .mixedOrders=true)(L:P.funcs[f]?=some fn)(J:fn.body=some body)(I:fn.ntmps=N)(A:fn.results=rv)(n:Nat)
 (h:∀vs j c rs,sp (j ++ [(true,vs)])=some (c,rs)->c->j.length+1<=N/\ev N T Γ n body ⟨(j.length,true,.m true (D8 0 0 vs)) :: Dz 0 j,DV 0 vs⟩ (fun e S=>match e with
  | .ret=>Ret T rv.toList S rs
  | .normal=>Ret T rv.toList S rs
  | _=>False)):NL P f sp:=by
 intro w vs j c rs B K D ys y M Q C;obtain⟨t,x⟩:=h vs j c rs B K;refine calls_of_wp L J ?_;rw[I];refine wp_mono (GU F (fun w _ _=>hΓ w) u x (zEJ M Q C t)) ?_;have s:∀S a w',Ret T rv.toList S rs->Rel w ⟨D.g,none⟩ N S a w'->a.defers = []/\∃v,(results fn a.tmps).run P w' = .ok v w'/\∃G g,Ending.returned v = .returned G/\Kp w D.g w' g/\JE w' g rs G:=by
  intro S a w' d ⟨E,hE⟩;unfold Ret at d;split at d
  ·rename_i q o
   obtain⟨u,z⟩:=d;obtain⟨vs,k,l⟩:=Kj F hE o;have H:=Lz hE.ob (r:=fun i=>(get (Ef 0 q) i).getD 0) (n:=0) u l (fun p O=>by rw[J5 z O];rfl);have b:vs.length=rs.length:=l.length.symm.trans (Ny u);refine⟨hE.df,_,On A k,_,_,rfl,hE.kp.ren,vs,H,?_⟩
   match rs,b with
   | [r],b=>
    match vs,b with
    | [v],_=>rfl
   | [],b=>
    match vs,b with
    | [],_=>rfl
   | r1 :: r2 :: rr,b=>
    match vs,b with
    | v1 :: v2 :: vv,_=>simp
  ·exact d.elim
 intro e a w' o;cases e with
 | normal=>obtain⟨S,k,l⟩:=o;exact s S a w' k l
 | ret=>obtain⟨S,k,l⟩:=o;exact s S a w' k l
 | exit i=>obtain⟨S,k,l⟩:=o;exact k.elim
 | _=>exact o.elim
theorem zC0(L:DS P T)(hΓ : GOk P Γ)(C:P.follows .mixedOrders=true)(X:P.funcs[f]?=some fn)(V:fn.body=some body)(U:fn.ntmps=N)(J:fn.results=rv)(n:Nat)
 (h:∀vs k c rs,sp ((true,vs) :: k)=some (c,rs)->c->1+k.length<=N/\ev N T Γ n body ⟨(0,true,.m false [.p 0 0]) :: Dz 1 k,Fu vs⟩ (fun e S=>match e with
  | .ret=>RetP T rv.toList S rs
  | .normal=>RetP T rv.toList S rs
  | _=>False)):D7 P f sp:=by
 intro w vs k c rs K W E ys Y Z;obtain⟨A,H⟩:=h vs k c rs K W;refine calls_of_wp X V ?_;rw[U];refine wp_mono (GU L (fun w _ _=>hΓ w) C H (zEK Y Z A)) ?_;have x:∀S a w',RetP T rv.toList S rs->Rel w ⟨E.g,some (E.bl 0)⟩ N S a w'->a.defers = []/\∃v,(results fn a.tmps).run P w' = .ok v w'/\∃M g,Ending.returned v = .returned M/\Kp w E.g w' g/\zI w' g (E.bl 0) rs M:=by
  intro S a w' d ⟨O,hE⟩;unfold RetP at d;split at d
  ·rename_i l q h0 u
   obtain⟨C,o⟩:=d;simp only[E3,Bool.and_eq_true,Bool.not_eq_true']at o;obtain⟨B,o⟩:=o;obtain⟨j,s,t⟩:=Kj L hE u;obtain⟨z,cs,Q,y,G⟩:=hE.ob 0 _ h0;have F:=(hE.b0 _ rfl).2;rw[F]at z y;have I:∀p∈Ef 1 ((true,l) :: q),p.1≠0:=fun p D e=>by
    have:((Ef 1 ((true,l) :: q)).map (·.1)).contains 0=true:=by
     rw[List.contains_iff_mem];exact List.mem_map.2 ⟨p,D,e⟩
    rw[this]at B;cases B
   have R:=Lz hE.ob (r:=fun i=>if i=0 then 0 else(get (Ef 1 ((true,l) :: q)) i).getD 0) (n:=1) (q:=(true,l) :: q) (vs:=.agg cs.toArray :: j) C (.cons ⟨cs,rfl,G⟩ t) (fun p D=>by rw[if_neg (I p D),J5 o D];rfl);have b:j.length+1=rs.length:=by
    have:=Ny C;have:=t.length;simp at *;omega
   refine⟨hE.df,_,On J s,_,_,rfl,hE.kp.ren,cs,Q,j,y,?_,R,?_⟩
   ·show(O.g (E.bl 0)).ren _=_;rw[z];simp[Bs.ren]
   ·match rs,b with
    | [_,_],b=>
     match j,b with
     | [v],_=>rfl
    | [_],b=>
     match j,b with
     | [],_=>rfl
    | r0 :: r1 :: r2 :: rr,b=>
     match j,b with
     | v1 :: v2 :: vv,_=>simp
  ·exact d.elim
 intro e a w' u;cases e with
 | normal=>obtain⟨S,s,t⟩:=u;exact x S a w' s t
 | ret=>obtain⟨S,s,t⟩:=u;exact x S a w' s t
 | exit i=>obtain⟨S,s,t⟩:=u;exact s.elim
 | _=>exact u.elim
theorem zBy(K:DS P T)(hΓ : GOk P Γ)(G:P.follows .mixedOrders=true)(V:P.funcs[f]?=some fn)(R:fn.body=some body)(Q:fn.ntmps=N)(I:fn.results=rv)(n:Nat)
 (h:∀d c rs,sp d=some (c,rs)->c->d.length<=N/\ev N T Γ n body ⟨Dz 0 d,[]⟩ (fun e S=>match e with
  | .ret=>RetN T rv.toList S rs
  | .normal=>RetN T rv.toList S rs
  | _=>False)):NK P f sp:=by
 intro w d c cells J U g0 ys Z X;obtain⟨u,D⟩:=h d c _ J U;refine calls_of_wp V R ?_;rw[Q];refine wp_mono (GU K (fun w _ _=>hΓ w) G D (Tp X u)) ?_;have t:∀S a w',RetN T rv.toList S [(true,cells)]->Rel w ⟨g0,none⟩ N S a w'->a.defers = []/\∃v,(results fn a.tmps).run P w' = .ok v w'/\∃B g,Ending.returned v = .returned (.pointer (some ⟨B,0,none⟩))/\Kp w g0 w' g/\∃(cs:List Value) (T:TypeId),w'.heap[B]?=some (.cells cs.toArray T (0,0))/\g B = .ow (.nm 0) 0/\JK w' g 1 [(true,cells)] [.agg cs.toArray]:=by
  intro S a w' b ⟨E,hE⟩;unfold RetN at b;split at b
  ·rename_i i s
   split at b
   ·rename_i l h0
    obtain⟨G,k⟩:=b;simp only[E3,Bool.and_eq_true,Bool.not_eq_true']at k;obtain⟨y,k⟩:=k;obtain⟨Y,m,o⟩:=Kj K hE s;obtain⟨F,cs,L,A,C⟩:=hE.ob i _ h0;have H:∀p∈Ef 1 [(true,l)],p.1≠i:=fun p z e=>by
     have:((Ef 1 [(true,l)]).map (·.1)).contains i=true:=by
      rw[List.contains_iff_mem];exact List.mem_map.2 ⟨p,z,e⟩
     rw[this]at y;cases y
    have O:=Lz hE.ob (r:=fun j=>if j=i then 0 else(get (Ef 1 [(true,l)]) j).getD 0) (n:=1) (q:=[(true,l)]) (vs:=[.agg cs.toArray]) G (.cons ⟨cs,rfl,C⟩ .nil) (fun p z=>by rw[if_neg (H p z),J5 k z];rfl);cases o with
    | cons k1 k2=>
     cases k2;obtain⟨x,M,W⟩:=k1;cases M;obtain⟨-,rfl⟩:=W;refine⟨hE.df,_,On I m,E.bl i,_,rfl,hE.kp.ren,cs,L,A,?_,O⟩;show(E.g (E.bl i)).ren _=_;rw[F];simp[Bs.ren]
   ·exact b.elim
  ·exact b.elim
 intro e a w' s;cases e with
 | normal=>obtain⟨S,m,o⟩:=s;exact t S a w' m o
 | ret=>obtain⟨S,m,o⟩:=s;exact t S a w' m o
 | exit i=>obtain⟨S,m,o⟩:=s;exact m.elim
 | _=>exact s.elim
theorem zBc(g:DS P T)(hΓ : GOk P Γ)(k:P.follows .mixedOrders=true)(j:P.funcs[f]?=some fn)(i:fn.body=some body)(d:fn.ntmps=N)(b:fn.results=rv)(n:Nat)
 (h:∀a c rs,sp a=some (c,rs)->c->a.length<=N/\ev N T Γ n body ⟨Dz 0 a,[]⟩ (fun e S=>match e with
  | .ret=>Ret T rv.toList S rs
  | .normal=>Ret T rv.toList S rs
  | _=>False)):Am P f sp:=fun w=>ZH g (fun _ _ w _ _=>hΓ w) k j i d b n h
end
abbrev i0:Value:=.int .i64 0
abbrev n0:Value:=.slice none 0 0
abbrev e0:Value:=.string ⟨#[]⟩
def tyT:Nat->Option TyD
 | 2=>some ⟨1,false,[i0],8,[],0⟩
 | 3=>some ⟨1,false,[i0],8,[],0⟩
 | 4=>some ⟨1,false,[.bool false],1,[],0⟩
 | 5=>some ⟨1,false,[.int .u8 0],1,[],0⟩
 | 9=>some ⟨1,false,[e0],16,[],0⟩
 | 23=>some ⟨1,false,[n0],24,[],86⟩
 | 24=>some ⟨1,false,[n0],24,[],2⟩
 | 39=>some ⟨1,false,[n0],24,[],38⟩
 | 27=>some ⟨1,false,[n0],24,[],41⟩
 | 28=>some ⟨1,false,[n0],24,[],83⟩
 | 121=>some ⟨1,false,[n0],24,[],4⟩
 | 38=>some ⟨2,true,[i0,i0],16,[(0,1),(1,1)],0⟩
 | 86=>some ⟨3,true,[i0,n0,e0],48,[(0,1),(1,1),(2,1)],0⟩
 | 26=>some ⟨2,true,[n0,n0],48,[(0,1),(1,1)],0⟩
 | 30=>some ⟨6,true,[n0,n0,i0,i0,n0,n0],112,[(0,2),(2,1),(3,1),(4,1),(5,1)],0⟩
 | 41=>some ⟨6,true,[e0,i0,i0,i0,i0,n0],72,[(0,1),(1,1),(2,1),(3,2),(5,1)],0⟩
 | 83=>some ⟨8,true,[i0,e0,e0,i0,i0,i0,i0,n0],96,[(0,1),(1,1),(2,1),(3,1),(4,1),(5,2),(7,1)],0⟩
 | 88=>some ⟨1,false,[.int .u64 0],8,[],0⟩
 | 22=>some ⟨1,false,[n0],24,[],5⟩
 | 58=>some ⟨1,false,[n0],24,[],9⟩
 | 69=>some ⟨6,true,[n0,n0,i0,i0,n0,i0],96,[(0,2),(2,2),(4,1),(5,1)],0⟩
 | 90=>some ⟨4,true,[n0,i0,.int .u64 0,i0],48,[(0,1),(1,1),(2,1),(3,1)],0⟩
 | 34=>some ⟨9,true,[n0,n0,i0,i0,n0,n0,i0,i0,i0],136,[(0,6),(6,1),(7,1),(8,1)],0⟩
 | _=>none
def ikT:Nat->Option IntKind
 | 2=>some .i64
 | 3=>some .i64
 | 5=>some .u8
 | 88=>some .u64
 | _=>none
def tb:Tb:=⟨tyT,4,38,9,39,27,22,5,ikT⟩
theorem zIH:∀t d,tyT t=some d->B8 Tryz.prog t d:=by
 intro t d h;unfold tyT at h;split at h<;>first
  | (cases h;exact⟨by kernel_rfl,by kernel_rfl,rfl,rfl,rfl,fun _=>rfl,by decide,by decide,by kernel_rfl⟩)
  | (cases h;exact⟨by kernel_rfl,by kernel_rfl,rfl,rfl,rfl,fun h=>(by cases h),by decide,by decide,by kernel_rfl⟩)
  | (cases h;done)
theorem Al:DS Tryz.prog tb:=by
 refine⟨zIH,by kernel_rfl,by kernel_rfl,?_,by kernel_rfl,by kernel_rfl,by kernel_rfl,?_⟩;rotate_left
 ·intro t k h;simp only[tb,ikT]at h;split at h<;>first
   | (cases h;kernel_rfl)
   | (cases h;done)
 intro a b c d w;show(Op.equalIn (9998+1+1) 38 (.agg #[.int .i64 a,.int .i64 b]) (.agg #[.int .i64 c,.int .i64 d])).run Tryz.prog w=_;rw[Op.equalIn];simp[go_sem];by_cases h:a=c<;>by_cases e:b=d<;>simp[h,e]
theorem Ak:Tryz.prog.follows .mixedOrders=true:=by kernel_rfl
def AL(P:Prop)(e:Ending):Prop:=∃b:Bool,e = .returned (.bool b)/\(b=true↔P)
theorem AL.yes{P:Prop}(h:P):AL P (.returned (.bool true)):=⟨true,rfl,by simp[h]⟩
theorem AL.no{P:Prop}(h:¬P):AL P (.returned (.bool false)):=⟨false,rfl,by simp[h]⟩
variable{n:Nat}
theorem Bu{k:Nat}{P:Nat->Prop}(b:k<n)(h:∀i,i<k->P i)(a:P k):∀i,i<k+1->P i:=fun i hi=>by
 by_cases e:i=k
 ·subst e;exact a
 ·exact h i (by omega)
variable{w':World}
theorem Jv{B:Nat}(h:Below B w w')(n:Nat):Below B w (w'.drewN n):=⟨h.os,h.tape,h.output,h.size,h.block⟩
variable{s t:ByteArray}
theorem qX(h:s=t):(s.toList == t.toList)=true:=by simp[h]
theorem qY(h:¬s=t):(s.toList == t.toList)=false:=by
 rw[beq_eq_false_iff_ne];intro e;rw[Go.ByteArray.toList_eq,Go.ByteArray.toList_eq]at e;apply h;cases s;cases t;simp only[ByteArray.mk.injEq]at *;exact Array.toList_inj.1 e
variable{w1:World}
theorem Cr(h:Below w.drew.heap.size w.drew w1):Below w.heap.size w w1:=⟨h.os,h.tape,h.output,h.size,h.block⟩
theorem RJ{wr:World}(a:Below w.heap.size w wr)(b:Below wr.drew.heap.size wr.drew w1):Below w.heap.size w w1:=
 a.drew.trans (b.mono a.size)
theorem A7{wr:World}(a:Below w.heap.size w wr)(b:Below wr.heap.size wr w1):Below w.heap.size w w1:=
 a.trans (b.mono a.size)
structure AG where
 birth:Int
 kn:Nat
 ks:Nat->Int
 kb:Nat->Int
 data:ByteArray
structure A5 where
 n:Nat
 s:Nat->AG
 hn:Nat
 h:Nat->Int
def JW(a b c d:Int):Prop:=a=c/\b=d
def Il(lo hi:Nat)(w w':World):Prop:=∀k,lo<=k->k<hi->w'.heap[k]?=w.heap[k]?
variable{lo hi b o:Nat}
theorem Il.cell(h:Il lo hi w w')(a:lo<=b)(c:b<hi):w'.cell? ⟨b,o,none⟩=w.cell? ⟨b,o,none⟩:=
 World.cell?_of_block (w:=w) (h b a c)
variable{v:Value}
theorem AZ(h:w.cell? ⟨b,o,none⟩=some v):b<w.heap.size:=by
 simp only[World.cell?]at h;by_cases a:b<w.heap.size
 ·exact a
 ·rw[Array.getElem?_eq_none (by omega)]at h;simp at h
def D6(w:World)(lo hi:Nat)(v:Value)(n:Nat)(f:Nat->Int):Prop:=
 n<=maxLen/\∃a cap,v = .slice a n cap/\n<=cap/\(0<n->∃b off,a=some ⟨b,off,none⟩/\lo<=b/\b<hi/\∀i,i<n->w.cell? ⟨b,off+i,none⟩=some (.int .i64 (f i)))
def BI(w:World)(lo hi:Nat)(v:Value)(n:Nat)(fs fb:Nat->Int):Prop:=
 n<=maxLen/\∃a cap,v = .slice a n cap/\n<=cap/\(0<n->∃b off,a=some ⟨b,off,none⟩/\lo<=b/\b<hi/\∀i,i<n->w.cell? ⟨b,off+i*2,none⟩=some (.int .i64 (fs i))/\w.cell? ⟨b,off+i*2+1,none⟩=some (.int .i64 (fb i)))
def CQ(w:World)(lo hi:Nat)(v0 v1 v2:Value)(s:AG):Prop:=
 v0 = .int .i64 s.birth/\BI w lo hi v1 s.kn s.ks s.kb/\v2 = .string s.data/\s.data.size<=maxLen
def CD(w:World)(lo hi:Nat)(v:Value)(n:Nat)(f:Nat->AG):Prop:=
 n<=maxLen/\∃a cap,v = .slice a n cap/\n<=cap/\(0<n->∃b off,a=some ⟨b,off,none⟩/\lo<=b/\b<hi/\∀i,i<n->∃v0 v1 v2,w.cell? ⟨b,off+i*3,none⟩=some v0/\w.cell? ⟨b,off+i*3+1,none⟩=some v1/\w.cell? ⟨b,off+i*3+2,none⟩=some v2/\CQ w lo hi v0 v1 v2 (f i))
def C6(w:World)(lo hi:Nat)(v0 v1:Value)(p:A5):Prop:=CD w lo hi v0 p.n p.s/\D6 w lo hi v1 p.hn p.h
variable{f:Nat->Int}
theorem D6.same(h:D6 w lo hi v n f)(s:Il lo hi w w'):D6 w' lo hi v n f:=by
 obtain⟨g,a,cap,hv,c,l⟩:=h;refine⟨g,a,cap,hv,c,fun hn=>?_⟩;obtain⟨b,off,k,d,e,j⟩:=l hn;exact⟨b,off,k,d,e,fun i hi=>by rw[s.cell d e];exact j i hi⟩
variable{g:Nat->Int}
theorem BI.same(h:BI w lo hi v n f g)(s:Il lo hi w w'):BI w' lo hi v n f g:=by
 obtain⟨j,a,cap,hv,e,m⟩:=h;refine⟨j,a,cap,hv,e,fun hn=>?_⟩;obtain⟨b,off,l,c,d,k⟩:=m hn;exact⟨b,off,l,c,d,fun i hi=>by rw[s.cell c d,s.cell c d];exact k i hi⟩
variable{v0 v1 v2:Value}
theorem CQ.same{t:AG}(h:CQ w lo hi v0 v1 v2 t)(s:Il lo hi w w'):CQ w' lo hi v0 v1 v2 t:=
 ⟨h.1,h.2.1.same s,h.2.2⟩
theorem CD.same{f:Nat->AG}(h:CD w lo hi v n f)(s:Il lo hi w w'):CD w' lo hi v n f:=by
 obtain⟨j,a,cap,hv,e,m⟩:=h;refine⟨j,a,cap,hv,e,fun hn=>?_⟩;obtain⟨b,off,l,c,d,k⟩:=m hn;refine⟨b,off,l,c,d,fun i hi=>?_⟩;obtain⟨o,v1,p,c0,c1,g,hs⟩:=k i hi;exact⟨o,v1,p,by rw[s.cell c d];exact c0,by rw[s.cell c d];exact c1,by rw[s.cell c d];exact g,hs.same s⟩
theorem C6.same{p:A5}(h:C6 w lo hi v0 v1 p)(s:Il lo hi w w'):C6 w' lo hi v0 v1 p:=⟨h.1.same s,h.2.same s⟩
theorem D6.A0(h:D6 w lo hi v n f)(s:Below w.heap.size w w'):D6 w' lo hi v n f:=by
 obtain⟨e,a,cap,hv,c,l⟩:=h;refine⟨e,a,cap,hv,c,fun hn=>?_⟩;obtain⟨b,off,k,g,j,d⟩:=l hn;exact⟨b,off,k,g,j,fun i hi=>(s.cell (AZ (d i hi))).trans (d i hi)⟩
theorem BI.A0(h:BI w lo hi v n f g)(s:Below w.heap.size w w'):BI w' lo hi v n f g:=by
 obtain⟨e,a,cap,hv,d,m⟩:=h;refine⟨e,a,cap,hv,d,fun hn=>?_⟩;obtain⟨b,off,l,j,k,c⟩:=m hn;exact⟨b,off,l,j,k,fun i hi=>⟨(s.cell (AZ (c i hi).1)).trans (c i hi).1,(s.cell (AZ (c i hi).2)).trans (c i hi).2⟩⟩
theorem CQ.A0{t:AG}(h:CQ w lo hi v0 v1 v2 t)(s:Below w.heap.size w w'):CQ w' lo hi v0 v1 v2 t:=
 ⟨h.1,h.2.1.A0 s,h.2.2⟩
theorem CD.A0{f:Nat->AG}(h:CD w lo hi v n f)(s:Below w.heap.size w w'):CD w' lo hi v n f:=by
 obtain⟨e,a,cap,hv,c,m⟩:=h;refine⟨e,a,cap,hv,c,fun hn=>?_⟩;obtain⟨b,off,l,g,j,k⟩:=m hn;refine⟨b,off,l,g,j,fun i hi=>?_⟩;obtain⟨o,v1,p,c0,c1,d,hs⟩:=k i hi;exact⟨o,v1,p,(s.cell (AZ c0)).trans c0,(s.cell (AZ c1)).trans c1,(s.cell (AZ d)).trans d,hs.A0 s⟩
theorem C6.A0{p:A5}(h:C6 w lo hi v0 v1 p)(s:Below w.heap.size w w'):C6 w' lo hi v0 v1 p:=⟨h.1.A0 s,h.2.A0 s⟩
variable{a:Option Addr}
theorem D6.take{c m c':Nat}(h:D6 w lo hi (.slice a n c) n f)(r:m<=n)(l:m<=c'):D6 w lo hi (.slice a m c') m f:=by
 obtain⟨d,q,cap,hv,o,p⟩:=h;simp only[Value.slice.injEq,true_and]at hv;obtain⟨rfl,rfl⟩:=hv;refine⟨by omega,a,c',rfl,l,fun d=>?_⟩;obtain⟨b,off,k,e,g,j⟩:=p (by omega);exact⟨b,off,k,e,g,fun i hi=>j i (by omega)⟩
structure Jo (w:World) (b o:Nat) (lo hi:Nat) (ka:Option Addr) (kc:Nat) (s:AG):Prop where
 c0:w.cell? ⟨b,o,none⟩=some (.int .i64 s.birth)
 c1:w.cell? ⟨b,o+1,none⟩=some (.slice ka s.kn kc)
 c2:w.cell? ⟨b,o+2,none⟩=some (.string s.data)
 slot:CQ w lo hi (.int .i64 s.birth) (.slice ka s.kn kc) (.string s.data) s
variable{s:AG}
theorem Jo.A0{ka:Option Addr}{kc:Nat}(h:Jo w b o lo hi ka kc s)(t:Below w.heap.size w w'):Jo w' b o lo hi ka kc s:=
 ⟨(t.cell (AZ h.c0)).trans h.c0,(t.cell (AZ h.c1)).trans h.c1,(t.cell (AZ h.c2)).trans h.c2,h.slot.A0 t⟩
theorem CD.cells{c:Nat}{f:Nat->AG}(h:CD w lo hi (.slice a n c) n f){i:Nat}(hi':i<n) :
 ∃b off e kc,a=some ⟨b,off,none⟩/\Jo w b (off+i*3) lo hi e kc (f i):=by
 obtain⟨p,o,cap,hv,l,m⟩:=h;simp only[Value.slice.injEq,true_and]at hv;obtain⟨rfl,rfl⟩:=hv;obtain⟨b,off,k,q,r,j⟩:=m (by omega);obtain⟨s,v1,t,c0,c1,g,hs⟩:=j i hi';have d:=hs;obtain⟨rfl,⟨_,e,kc,rfl,_⟩,rfl,_⟩:=hs;exact⟨b,off,e,kc,k,⟨c0,c1,g,d⟩⟩
theorem BR{P:Prop}{t:Bool}(a:t=true↔P)(h:¬P):t=false:=Bool.eq_false_iff.2 (fun e=>h (a.1 e))
def Ag(s:AG):Prop:=s.birth=0/\s.kn=0/\s.data.toList.isEmpty=true
def DM(n:Int):Prop:=1<=n/\n<=1000000
def B5(p:A5)(xs xb:Int):Prop:=1<=xb/\0<=xs/\xs<p.n/\(p.s xs.toNat).birth=xb
def Mx(p:A5)(b:Int)(xs xb:Int):Prop:=(xs=0/\xb=0)\/(B5 p xs xb/\xb<=b)
def Bm(p:A5)(s:AG):Prop:=DM s.birth/\((s.kn=0/\s.data.size=16)\/(s.kn=8/\s.data.toList.isEmpty=true/\∀i,i<s.kn->Mx p s.birth (s.ks i) (s.kb i)))
def Has(n:Nat)(f:Nat->Int)(x:Int):Prop:=∃j,j<n/\f j=x
def Zh(p:A5)(i:Nat):Prop:=0<=p.h i/\p.h i<p.n/\¬Ag (p.s (p.h i).toNat)/\¬Has i p.h (p.h i)
def AY(p:A5):Prop:=p.n<=200/\(∀i,i<p.n->Ag (p.s i)\/Bm p (p.s i))/\∀i,i<p.hn->Zh p i
structure AE (S:Nat->Prop) (w w':World):Prop where
 os:w'.os=w.os
 tape:w'.tape=w.tape
 output:w'.output=w.output
 size:w.heap.size<=w'.heap.size
 block:∀k,k<w.heap.size->¬S k->w'.heap[k]?=w.heap[k]?
theorem AE.refl(S:Nat->Prop)(w:World):AE S w w:=⟨rfl,rfl,rfl,Nat.le_refl _,fun _ _ _=>rfl⟩
variable{S:Nat->Prop}
theorem AE.trans{a b c:World}(h:AE S a b)(k:AE S b c):AE S a c:=
 ⟨k.os.trans h.os,k.tape.trans h.tape,k.output.trans h.output,Nat.le_trans h.size k.size,fun i hi hs=>(k.block i (Nat.lt_of_lt_of_le hi h.size) hs).trans (h.block i hi hs)⟩
theorem AE.mono{T:Nat->Prop}{a b:World}(h:AE S a b)(c:∀k,S k->T k):AE T a b:=
 ⟨h.os,h.tape,h.output,h.size,fun i hi hs=>h.block i hi (fun x=>hs (c i x))⟩
theorem AE.EH(h:Below w.heap.size w w'):AE S w w':=⟨h.os,h.tape,h.output,h.size,fun k a _=>h.block k a⟩
theorem AE.A0(h:AE S w w'){B:Nat}(a:B<=w.heap.size)(hs:∀k,S k->B<=k):Below B w w':=
 ⟨h.os,h.tape,h.output,h.size,fun k b=>h.block k (by omega) (fun x=>by have:=hs k x;omega)⟩
theorem AE.setCell(h:AE S w w'){p:Addr}(a:S p.block)(u:Value):AE S w (w'.setCell p u):=
 h.trans ⟨rfl,rfl,rfl,by simp,fun k _ hs=>Below.heap_setCell _ _ _ _ (fun e=>hs (e▸a))⟩
theorem AE.put(w:World)(b o:Nat)(u:Value):AE (fun k=>k=b) w (w.setCell ⟨b,o,none⟩ u):=
 (AE.refl (fun k=>k=b) w).setCell (p:=⟨b,o,none⟩) rfl u
theorem AE.cell(h:AE S w w')(a:b<w.heap.size)(hs:¬S b):w'.cell? ⟨b,o,none⟩=w.cell? ⟨b,o,none⟩:=
 World.cell?_of_block (w:=w) (h.block b a hs)
theorem AE.frozen(h:AE S w w')(a:b<w.heap.size)(hs:¬S b):w'.frozen? ⟨b,o,none⟩=w.frozen? ⟨b,o,none⟩:=
 World.frozen?_of_block (w:=w) (h.block b a hs)
theorem AE.same(h:AE S w w')(c:hi<=w.heap.size)(hs:∀k,S k->k<lo\/hi<=k):Il lo hi w w':=
 fun k a b=>h.block k (by omega) (fun x=>by have:=hs k x;omega)
def AN(w:World)(b o:Nat)(v:Value):Prop:=w.cell? ⟨b,o,none⟩=some v/\w.frozen? ⟨b,o,none⟩=false
theorem AN.lt(h:AN w b o v):b<w.heap.size:=AZ h.1
theorem AN.AD(h:AN w b o v)(t:AE S w w')(hs:¬S b):AN w' b o v:=
 ⟨(t.cell h.lt hs).trans h.1,(t.frozen h.lt hs).trans h.2⟩
theorem AN.A0(h:AN w b o v)(t:Below w.heap.size w w'):AN w' b o v:=
 ⟨(t.cell h.lt).trans h.1,(t.frozen h.lt).trans h.2⟩
theorem AN.set(h:AN w b o v)(u:Value):AN (w.setCell ⟨b,o,none⟩ u) b o u:=
 ⟨World.cell?_setCell_same' _ _ _ (by rw[h.1];rfl),by rw[World.frozen?_setCell];exact h.2⟩
theorem AN.other(h:AN w b o v){b' o':Nat}(u:Value)(a:b'≠b\/o'≠o):AN (w.setCell ⟨b',o',none⟩ u) b o v:=by
 refine⟨?_,by rw[World.frozen?_setCell];exact h.2⟩;rw[World.cell?_setCell_other]
 ·exact h.1
 ·intro e;simp only[Addr.mk.injEq]at e;rcases a with h | h
  ·exact h e.1
  ·exact h e.2.1
def Mk(w:World)(b:Nat):Nat->List Value->World
 | _,[]=>w
 | o,u :: us=>Mk (w.setCell ⟨b,o,none⟩ u) b (o+1) us
theorem QN{b j:Nat}{v:Value}:∀(us:List Value) (w:World) (o:Nat),AN w b j v->j<o\/o+us.length<=j->AN (Mk w b o us) b j v
 | [],_,_,h,_=>h
 | u :: us,w,o,h,hj=>by
  rw[List.length_cons]at hj;exact QN us _ (o+1) (h.other u (Or.inr (by omega))) (by omega)
theorem Li{b:Nat}{u v:Value}:∀(us:List Value) (w:World) (o i j:Nat),us[i]?=some u->o+i=j->AN w b j v->AN (Mk w b o us) b j u
 | [],_,_,_,_,h,_,_=>by simp at h
 | x :: us,w,o,0,j,h,e,hc=>by
  obtain rfl:x=u:=(by simpa using h);obtain rfl:o=j:=e;exact QN us _ (o+1) (hc.set x) (Or.inl (by omega))
 | x :: us,w,o,i+1,j,h,e,hc=>Li us _ (o+1) i j (by simpa using h) (by omega) (hc.other x (Or.inr (by omega)))
def zIu(w:World)(b:Nat)(a:Option Addr)(n cap:Nat):Prop:=n<cap->0<n/\a=some ⟨b,0,none⟩/\cap<=maxLen/\∃cur,w.heap[b]?=some (.cells cur 2 (0,0))/\cur.size=cap
def FZ(w:World)(b:Nat)(v:Value)(n:Nat)(f:Nat->Int):Prop:=
 n<=maxLen/\∃a cap,v = .slice a n cap/\n<=cap/\(0<n->∃off,a=some ⟨b,off,none⟩/\∀i,i<n->AN w b (off+i) (.int .i64 (f i)))/\zIu w b a n cap
def Ca(w:World)(b:Nat)(v:Value)(n:Nat)(fs fb:Nat->Int):Prop:=
 n<=maxLen/\∃a cap,v = .slice a n cap/\n<=cap/\(0<n->∃off,a=some ⟨b,off,none⟩/\∀i,i<n->AN w b (off+i*2) (.int .i64 (fs i))/\AN w b (off+i*2+1) (.int .i64 (fb i)))
theorem FZ.at(h:FZ w b v n f)(d:0<n->lo<=b/\b<hi):D6 w lo hi v n f:=by
 obtain⟨e,a,cap,hv,c,k,l⟩:=h;refine⟨e,a,cap,hv,c,fun hn=>?_⟩;obtain⟨off,j,g⟩:=k hn;exact⟨b,off,j,(d hn).1,(d hn).2,fun i hi=>(g i hi).1⟩
theorem Ca.at(h:Ca w b v n f g)(e:0<n->lo<=b/\b<hi):BI w lo hi v n f g:=by
 obtain⟨j,a,cap,hv,c,l⟩:=h;refine⟨j,a,cap,hv,c,fun hn=>?_⟩;obtain⟨off,k,d⟩:=l hn;exact⟨b,off,k,(e hn).1,(e hn).2,fun i hi=>⟨(d i hi).1.1,(d i hi).2.1⟩⟩
theorem FZ.AD(h:FZ w b v n f)(t:AE S w w')(hs:0<n->¬S b):FZ w' b v n f:=by
 obtain⟨j,a,cap,hv,d,m,o⟩:=h;refine⟨j,a,cap,hv,d,fun hn=>?_,fun e=>?_⟩;rotate_left
 ·obtain⟨r0,r1,p,c,g,q⟩:=o e;exact⟨r0,r1,p,c,(t.block b (Array.getElem?_eq_some_iff.1 g).1 (hs r0)).trans g,q⟩
 obtain⟨off,l,k⟩:=m hn;exact⟨off,l,fun i hi=>(k i hi).AD t (hs hn)⟩
theorem Ca.AD(h:Ca w b v n f g)(t:AE S w w')(hs:0<n->¬S b):Ca w' b v n f g:=by
 obtain⟨e,a,cap,hv,c,k⟩:=h;refine⟨e,a,cap,hv,c,fun hn=>?_⟩;obtain⟨off,j,d⟩:=k hn;exact⟨off,j,fun i hi=>⟨(d i hi).1.AD t (hs hn),(d i hi).2.AD t (hs hn)⟩⟩
theorem Ca.A0(h:Ca w b v n f g)(t:Below w.heap.size w w'):Ca w' b v n f g:=
 h.AD (AE.EH (S:=fun _=>False) t) (fun _ h=>h)
theorem FZ.A0(h:FZ w b v n f)(t:Below w.heap.size w w'):FZ w' b v n f:=
 h.AD (AE.EH (S:=fun _=>False) t) (fun _ h=>h)
structure Hj (w:World) (bs o kb:Nat) (kv:Value) (s:AG):Prop where
 birth:AN w bs o (.int .i64 s.birth)
 kidsv:AN w bs (o+1) kv
 data:AN w bs (o+2) (.string s.data)
 kids:Ca w kb kv s.kn s.ks s.kb
 CI:s.data.size<=maxLen
 C7:0<s.kn->kb≠bs
variable{bs kb:Nat}{kv:Value}
theorem Hj.AD(h:Hj w bs o kb kv s)(t:AE S w w')(a:¬S bs)(b:0<s.kn->¬S kb):Hj w' bs o kb kv s:=
 ⟨h.birth.AD t a,h.kidsv.AD t a,h.data.AD t a,h.kids.AD t b,h.CI,h.C7⟩
theorem Hj.A0(h:Hj w bs o kb kv s)(t:Below w.heap.size w w'):Hj w' bs o kb kv s:=
 h.AD (AE.EH (S:=fun _=>False) t) (fun h=>h) (fun _ h=>h)
theorem Hj.at(h:Hj w bs o kb kv s)(a:0<s.kn->lo<=kb/\kb<hi):CQ w lo hi (.int .i64 s.birth) kv (.string s.data) s:=
 ⟨rfl,h.kids.at a,rfl,h.CI⟩
def F9(w:World)(bs:Nat)(kb:Nat->Nat)(kv:Nat->Value)(v:Value)(n:Nat)(f:Nat->AG):Prop:=
 n<=maxLen/\∃a cap,v = .slice a n cap/\n<=cap/\(0<n->∃off,a=some ⟨bs,off,none⟩/\∀i,i<n->Hj w bs (off+i*3) (kb i) (kv i) (f i))
def MA(kb:Nat->Nat)(n:Nat)(f:Nat->AG):Prop:=∀i j,i<n->j<n->i≠j->0<(f i).kn->0<(f j).kn->kb i≠kb j
def zGQ(lo hi bs:Nat)(kb:Nat->Nat)(n:Nat)(f:Nat->AG):Prop:=0<n->(lo<=bs/\bs<hi)/\∀i,i<n->0<(f i).kn->lo<=kb i/\kb i<hi
variable{kb:Nat->Nat}{kv:Nat->Value}{f:Nat->AG}
theorem F9.at(h:F9 w bs kb kv v n f)(c:zGQ lo hi bs kb n f):CD w lo hi v n f:=by
 obtain⟨e,a,cap,hv,d,j⟩:=h;refine⟨e,a,cap,hv,d,fun hn=>?_⟩;obtain⟨off,g,b⟩:=j hn;refine⟨bs,off,g,(c hn).1.1,(c hn).1.2,fun i hi=>?_⟩;exact⟨_,_,_,(b i hi).birth.1,(b i hi).kidsv.1,(b i hi).data.1,(b i hi).at ((c hn).2 i hi)⟩
theorem F9.A0(h:F9 w bs kb kv v n f)(t:Below w.heap.size w w'):F9 w' bs kb kv v n f:=by
 obtain⟨c,a,cap,hv,b,g⟩:=h;refine⟨c,a,cap,hv,b,fun hn=>?_⟩;obtain⟨off,e,d⟩:=g hn;exact⟨off,e,fun i hi=>(d i hi).A0 t⟩
theorem F9.AD(h:F9 w bs kb kv v n f)(t:AE S w w')
 (d:0<n->¬S bs) (e:∀i,i<n->0<(f i).kn->¬S (kb i)):F9 w' bs kb kv v n f:=by
 obtain⟨c,a,cap,hv,b,k⟩:=h;refine⟨c,a,cap,hv,b,fun hn=>?_⟩;obtain⟨off,j,g⟩:=k hn;exact⟨off,j,fun i hi=>(g i hi).AD t (d hn) (e i hi)⟩
def Ac(w:World)(b:Nat)(v0 v1:Value):Prop:=AN w b 0 v0/\AN w b 1 v1
theorem Ac.A0(h:Ac w b v0 v1)(t:Below w.heap.size w w'):Ac w' b v0 v1:=⟨h.1.A0 t,h.2.A0 t⟩
theorem Ac.AD(h:Ac w b v0 v1)(t:AE S w w')(hs:¬S b):Ac w' b v0 v1:=⟨h.1.AD t hs,h.2.AD t hs⟩
theorem Ac.new(w:World)(a v1:Value)(t:TypeId):Ac (w.alloc (.cells #[a,v1] t)) w.heap.size a v1:=
 ⟨⟨by rw[World.cell?_alloc_at (hn:=rfl)];rfl,by rw[World.frozen?_alloc_at (hn:=rfl)]⟩,⟨by rw[World.cell?_alloc_at (hn:=rfl)];rfl,by rw[World.frozen?_alloc_at (hn:=rfl)]⟩⟩
def CY(w:World)(b:Nat)(v0 v1 v2:Value):Prop:=AN w b 0 v0/\AN w b 1 v1/\AN w b 2 v2
theorem CY.A0(h:CY w b v0 v1 v2)(t:Below w.heap.size w w'):CY w' b v0 v1 v2:=⟨h.1.A0 t,h.2.1.A0 t,h.2.2.A0 t⟩
theorem CY.new(w:World)(a v1 b:Value)(t:TypeId):CY (w.alloc (.cells #[a,v1,b] t)) w.heap.size a v1 b:=
 ⟨⟨by rw[World.cell?_alloc_at (hn:=rfl)];rfl,by rw[World.frozen?_alloc_at (hn:=rfl)]⟩,⟨by rw[World.cell?_alloc_at (hn:=rfl)];rfl,by rw[World.frozen?_alloc_at (hn:=rfl)]⟩,⟨by rw[World.cell?_alloc_at (hn:=rfl)];rfl,by rw[World.frozen?_alloc_at (hn:=rfl)]⟩⟩
theorem CY.put(h:CY w b v0 v1 v2)(a c u2:Value):CY (((w.setCell ⟨b,0,none⟩ a).setCell ⟨b,1,none⟩ c).setCell ⟨b,2,none⟩ u2) b a c u2:=
 ⟨((h.1.set a).other _ (Or.inr (by omega))).other _ (Or.inr (by omega)),((h.2.1.other _ (Or.inr (by omega))).set c).other _ (Or.inr (by omega)),((h.2.2.other _ (Or.inr (by omega))).other _ (Or.inr (by omega))).set u2⟩
theorem Ac.put(h:Ac w b v0 v1)(a c:Value):Ac ((w.setCell ⟨b,0,none⟩ a).setCell ⟨b,1,none⟩ c) b a c:=
 ⟨(h.1.set a).other _ (Or.inr (by omega)),(h.2.other _ (Or.inr (by omega))).set c⟩
theorem CY.other(h:CY w b v0 v1 v2){b' o':Nat}(u:Value)(a:b'≠b):CY (w.setCell ⟨b',o',none⟩ u) b v0 v1 v2:=
 ⟨h.1.other u (Or.inl a),h.2.1.other u (Or.inl a),h.2.2.other u (Or.inl a)⟩
theorem AC(w:World)(o:Obj):Below w.heap.size w (w.alloc o):=(Below.refl _ _).alloc (Nat.le_refl _) o
variable{cs:Array Value}
theorem Au{i:Nat}{t:TypeId}(h:w.heap[b]?=some (.cells cs t))(hi:cs[i]?=some v):AN w b i v:=by
 refine⟨?_,?_⟩
 ·simp[World.cell?,h,hi]
 ·simp[World.frozen?,h]
theorem P5{t:TypeId}(v:Value)(h:w.heap[b]?=some (.cells cs t)):(w.setCell ⟨b,o,none⟩ v).heap[b]?=some (.cells (cs.setIfInBounds o v) t):=by
 simp[World.setCell,Array.getElem?_modify,h]
theorem Bh{base e size:Nat}(h:w.ownsRow base e size v n xs):∃a cap,v = .slice a n cap/\n<=cap:=by
 obtain⟨_,⟨h,rfl⟩ | ⟨g,cap,c,hv,_,_,b,_⟩⟩:=h
 ·exact⟨none,0,h,Nat.le_refl _⟩
 ·exact⟨_,cap,hv,b⟩
theorem Fj{base e size:Nat}(h:w.ownsRow base e size v n xs)(hn:0<n) :
 ∃g cap,v = .slice (some ⟨g,0,none⟩) n cap/\n<=cap/\base<=g/\g<w.heap.size/\∀j u,xs[j]?=some u->AN w g j u:=by
 obtain⟨_,⟨h,rfl⟩ | ⟨g,cap,c,hv,k,b,f,m,o,i⟩⟩:=h
 ·omega
 ·refine⟨g,cap,hv,f,k,?_,fun j u l=>?_⟩
  ·by_cases d:g<w.heap.size
   ·exact d
   ·rw[Array.getElem?_eq_none (by omega)]at b;simp at b
  ·refine⟨?_,?_⟩
   ·simp only[World.cell?,b];have a:(c.toList.take (n*size))[j]?=some u:=(by rw[i];exact l);rw[List.getElem?_take]at a;split at a
    ·simpa using a
    ·simp at a
   ·simp only[World.frozen?,b];simp
end Go.Proofs.YtehdoekmnicdiaaGreatDoor

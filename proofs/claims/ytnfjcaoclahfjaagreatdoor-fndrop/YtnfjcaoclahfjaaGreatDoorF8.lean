/- A part of the proof. -/
import Derived.Test.YtnfjcaoclahfjaaGreatDoorF7
import Derived.Test.YtnfjcaoclahfjaaGreatDoorProg
import Derived.KernelRfl
import GoSem.ClaimJoined
import GoSem.ClaimMapViews
import Derived.JoinedTies
import Derived.RowKit
import Derived.Deep.RegionHeld3
import Derived.Deep.QuietTactic
import Derived.BigQuiet
set_option linter.unusedVariables false
set_option maxRecDepth 20000
set_option maxHeartbeats 4000000
namespace Go.Proofs.YtnfjcaoclahfjaaGreatDoor
open Go.RowKit
set_option linter.unusedSimpArgs false
def Dh:Nat->List (Bool×List Tr)->List (Nat×Bool×Av)
 | _,[]=>[]
 | i,q :: r=>(i,true,.m q.1 (q.2.map Tr.cv)) :: Dh (i+1) r
theorem X9:∀{a:List (Bool×List Tr)} {i d:Nat} {x:Bool×Av},get (Dh i a) d=some x->∃j q,d=i+j/\a[j]?=some q/\x=(true,.m q.1 (q.2.map Tr.cv))
 | [],i,d,x,h=>by cases h
 | p :: r,i,d,x,h=>by
  simp only[Dh,get]at h;split at h
  ·rename_i e;cases h;exact⟨0,p,by omega,rfl,rfl⟩
  ·obtain⟨j,q,f,b,c⟩:=X9 h;exact⟨j+1,q,by omega,by simpa using b,c⟩
variable{w:World}{E:En}{D:Nat->Prop}
theorem zGE{l:List Tr}{cs:List Value}(h:AN (Sh w E.g) l cs):CsR w E D (l.map Tr.cv) cs:=by
 induction h with
 | nil=>exact AN.nil
 | cons h1 _ ih=>exact AN.cons h1.cv ih
variable{ys xs:List Value}
theorem Q4{b:List (Bool×List Tr)}(h:AN (FI w E.g) b ys){i:Nat}{l:List Value}(v:l.drop i=ys ++ xs){a:Act}(t:a.tmps=l.toArray):TmR w E D (Dh i b) a:=by
 intro d c x u;obtain⟨j,q,p,r,s⟩:=X9 u;subst p;cases s;obtain⟨y,o,k⟩:=h.at r;have e:a.tmps.getD (i+j) undef=y:=by
  have m:=(List.getElem?_eq_some_iff.1 o).1;have n:(l.drop i)[j]?=some y:=(by rw[v,List.getElem?_append_left m];exact o);rw[List.getElem?_drop]at n;rw[t,Array.getD_eq_getD_getElem?,List.getElem?_toArray,n];rfl
 refine⟨fun _=>?_,fun f=>by cases f⟩;rw[e];obtain⟨g,l⟩:=q;cases g with
 | true=>obtain⟨cs,e,f⟩:=k;exact⟨cs,e,zGE f⟩
 | false=>obtain⟨T,e,f⟩:=k;simp only at e;subst e;exact⟨_,rfl,Sh.cv f⟩
variable{a:List (Bool×List Tr)}{N:Nat}
theorem TO{g0:Nat->Bs}(h:AN (FI w g0) a ys)(c:a.length<=N):Rel w ⟨g0,none⟩ N ⟨Dh 0 a,[]⟩ ⟨ys.toArray ++ Array.replicate (N - ys.toArray.size) undef,[]⟩ w:=by
 have d:=h.length;refine⟨⟨g0,fun _=>0,fun _=>.bool false⟩,Kp.refl _ _,Q4 (E:=⟨g0,fun _=>0,fun _=>.bool false⟩) h (l:=ys ++ List.replicate (N - ys.length) undef) (xs:=List.replicate (N - ys.length) undef) (by simp) (by apply Array.ext';simp),fun i o hi=>(by cases hi),rfl,(by simp;omega),fun B b=>by cases b⟩
variable{vs:List Tr}
theorem zEU(o:AQ w E (Ft vs))(h:AN (FI w E.g) a ys)(q:1+a.length<=N):Rel w ⟨E.g,some (E.bl 0)⟩ N ⟨(0,true,.m false [.p 0 0]) :: Dh 1 a,Ft vs⟩ ⟨(.pointer (some ⟨E.bl 0,0,none⟩) :: ys).toArray ++ Array.replicate (N - (.pointer (some ⟨E.bl 0,0,none⟩) :: ys).toArray.size) undef,[]⟩ w:=by
 have r:=h.length;have f:dom (Ft vs) 0:=by unfold dom Ft;simp only[get,if_pos];rfl
 have e:(.pointer (some ⟨E.bl 0,0,none⟩) :: ys).toArray ++ Array.replicate (N - (.pointer (some ⟨E.bl 0,0,none⟩) :: ys).toArray.size) undef=((.pointer (some ⟨E.bl 0,0,none⟩) :: (ys ++ List.replicate (N - (ys.length+1)) undef)):List Value).toArray:=by apply Array.ext';simp
 refine⟨E,Kp.refl _ _,fun d c j b=>?_,o,rfl,(by simp;omega),fun B k=>by cases k;exact⟨f,rfl⟩⟩;simp only[get]at b;split at b
 ·rename_i e0
  subst e0;cases b;refine⟨fun _=>?_,fun n=>by cases n⟩;rw[e];exact av1 ⟨f,rfl⟩
 ·exact Q4 h (i:=1) (l:=.pointer (some ⟨E.bl 0,0,none⟩) :: (ys ++ List.replicate (N - (ys.length+1)) undef)) (xs:=List.replicate (N - (ys.length+1)) undef) (by simp) e d c j b
theorem zET{y:Value}(q:AQ w E (DD 0 vs))(h:AN (FI w E.g) a ys)(f:VlR w E (dom (DD 0 vs)) true (Cl 0 0 vs) y)(r:a.length+1<=N) :
 Rel w ⟨E.g,none⟩ N ⟨(a.length,true,.m true (Cl 0 0 vs)) :: Dh 0 a,DD 0 vs⟩ ⟨(ys ++ [y]).toArray ++ Array.replicate (N - (ys ++ [y]).toArray.size) undef,[]⟩ w:=by
 have p:=h.length;have e:(ys ++ [y]).toArray ++ Array.replicate (N - (ys ++ [y]).toArray.size) undef=(ys ++ (y :: List.replicate (N - (ys.length+1)) undef):List Value).toArray:=by apply Array.ext';simp
 refine⟨E,Kp.refl _ _,fun d c j b=>?_,q,rfl,(by simp;omega),fun B n=>by cases n⟩;simp only[get]at b;split at b
 ·rename_i e0
  subst e0;cases b;refine⟨fun _=>?_,fun o=>by cases o⟩;have k:(⟨(ys ++ [y]).toArray ++ Array.replicate (N - (ys ++ [y]).toArray.size) undef,[]⟩:Act).tmps.getD a.length undef=y:=by
   rw[e,p];simp[Array.getD_eq_getD_getElem?]
  rw[k];exact f
 ·exact Q4 h (i:=0) (l:=ys ++ (y :: List.replicate (N - (ys.length+1)) undef)) (xs:=y :: List.replicate (N - (ys.length+1)) undef) (by simp) e d c j b
def resCv(T:Tb)(S:St):List ResultVar->Option (List (Bool×List Cv))
 | []=>some []
 | .tmp t :: r=>match get S.tm t,resCv T S r with
  | some (true,.m g l),some q=>some ((g,l) :: q)
  | _,_=>none
 | .cell t ty :: r=>match get S.tm t,T.ty ty,resCv T S r with
  | some (true,.m false [.p i o]),some d,some q=>match evLoad d S.ob (.p i o)with
   | some (_,.m g l)=>some ((g,l) :: q)
   | _=>none
  | _,_,_=>none
def L2(tmps:Array Value):ResultVar->Sem Value
 | .tmp t=>pure (tmps.getD t undef)
 | .cell a t=>do loadVar t (<-asAddr (tmps.getD a undef))
theorem KW{P:Program}{T:Tb}(k:D9 P T){w0:World}{g0:Gh}{N:Nat}{S:St}{a:Act}{w:World}{E:En}(h:FK w0 g0 N S a w E):∀{rv:List ResultVar} {q:List (Bool×List Cv)},resCv T S rv=some q->
 ∃vs:List Value,(rv.mapM (L2 a.tmps)).run P w = .ok vs w/\AN (fun (q:Bool×List Cv) u=>VlR w E (dom S.ob) q.1 q.2 u) q vs
 | [],q,hq=>by cases hq;exact⟨[],by simp,.nil⟩
 | .tmp t :: r,q,hq=>by
  simp only[resCv]at hq;split at hq
  ·rename_i g l q' hg hr
   cases hq;obtain⟨vs,e,f⟩:=KW k h hr;have b:=(h.tm t _ _ hg).1 rfl;exact⟨a.tmps.getD t undef :: vs,by simp[List.mapM_cons,e,L2],.cons b f⟩
  ·cases hq
 | .cell t ty :: r,q,hq=>by
  simp only[resCv]at hq;split at hq
  ·rename_i i o d q' hg hd hr
   split at hq
   ·rename_i c g l hl
    cases hq;obtain⟨vs,e,f⟩:=KW k h hr;have b:=vl1 ((h.tm t _ _ hg).1 rfl);have s:c:=by
     simp only[evLoad]at hl;split at hl
     ·split at hl
      ·cases hl;trivial
      ·cases hl
     ·cases hl
    obtain⟨z,m,n⟩:=V9 (k.ok _ _ hd) h.ob hl s b;refine⟨z :: vs,?_,.cons n f⟩;have p:(L2 a.tmps (.cell t ty)).run P w = .ok z w:=by
     simp only[L2];rw[b.2];have j:=m;rw[b.2]at j;unfold Instr.loadAt at j;simpa[Instr.sureAddr,asAddr]using j
    rw[List.mapM_cons];simp[p,e]
   ·cases hq
  ·cases hq
def cellM(ob:List (Nat×Ob)):Cv->Tr->Prop
 | .v x,.v y=>x=y
 | .v x,.s .o k n f=>x = .slice none 0 0/\n=0
 | .h i,.s .o k n f=>match get ob i with
  | some (.row k' n' f')=>TrE (.s .o k' n' f') (.s .o k n f)/\(Tr.s .o k n f).kept
  | _=>False
 | .s fl k n f,.s .z k' n' f'=>fl≠.b/\TrE (.s .z k n f) (.s .z k' n' f')/\(Tr.s .z k' n' f').kept
 | _,_=>False
def LS(ob:List (Nat×Ob)):List Cv->List Tr->Prop
 | [],[]=>True
 | x :: r,y :: s=>cellM ob x y/\LS ob r s
 | _,_=>False
def J6(ob:List (Nat×Ob)):List (Bool×List Cv)->List (Bool×List Tr)->Prop
 | [],[]=>True
 | x :: r,y :: s=>x.1=y.1/\LS ob x.2 y.2/\J6 ob r s
 | _,_=>False
def MR:Nat->List Cv->List (Nat×Nat)
 | _,[]=>[]
 | n,.h i :: r=>(i,n) :: MR (n+1) r
 | n,_ :: r=>MR (n+1) r
def Ea:Nat->List (Bool×List Cv)->List (Nat×Nat)
 | _,[]=>[]
 | n,q :: r=>MR n q.2 ++ Ea (n+q.2.length) r
def Ret(T:Tb)(rv:List ResultVar)(S:St)(rs:List (Bool×List Tr)):Prop:=
 match resCv T S rv with
 | some q=>J6 S.ob q rs/\Di ((Ea 0 q).map (·.1))=true
 | none=>False
def RetP(T:Tb)(rv:List ResultVar)(S:St)(rs:List (Bool×List Tr)):Prop:=
 match get S.ob 0,resCv T S rv with
 | some (.var l),some q=>J6 S.ob ((true,l) :: q) rs/\Di (0 :: (Ea 1 ((true,l) :: q)).map (·.1))=true
 | _,_=>False
def RetN(T:Tb)(rv:List ResultVar)(S:St)(rs:List (Bool×List Tr)):Prop:=
 match resCv T S rv with
 | some [(false,[.p i 0])]=>match get S.ob i with
  | some (.var l)=>J6 S.ob [(true,l)] rs/\Di (i :: (Ea 1 [(true,l)]).map (·.1))=true
  | _=>False
 | _=>False
def Bs.ren(r:Nat->Nat):Bs->Bs
 | .ow (.nm j) lim=>.ow (.nm (r j)) lim
 | s=>s
variable{r:Nat->Nat}
theorem Bs.ren_ok{s:Bs}{fl:Fl}{e:Nat}(h:s.ok fl e):(s.ren r).ok fl e:=by
 cases s with
 | fz x=>exact h
 | ow o lim=>cases o<;>exact h
theorem Kp.ren{w':World}{g g':Nat->Bs}(h:Kp w g w' g'):Kp w g w' (fun b=>(g' b).ren r):=by
 refine⟨h.os,h.tape,h.output,h.size,fun b x d e=>?_,fun b o f d e=>?_⟩
 ·obtain⟨c,a⟩:=h.fz b x d e;exact⟨c,by simp only[a,Bs.ren]⟩
 ·obtain⟨c,⟨o',l',a,k⟩ | a⟩:=h.ow b o f d e
  ·refine⟨c,.inl ?_⟩;cases o' with
   | nm i=>exact⟨.nm (r i),l',by simp only[a,Bs.ren],k⟩
   | tl b j=>exact⟨.tl b j,l',by simp only[a,Bs.ren],k⟩
  ·exact⟨c,.inr (by simp only[a,Bs.ren])⟩
section
variable {w : World} {E : En} {ob : List (Nat × Ob)}
theorem zE9(R:AQ w E ob){x:Cv}{y:Tr}{u:Value}(h:cellM ob x y)(q:CvR w E (dom ob) x u){n:Nat}(S:∀i,x = .h i->r i=n):NY w (fun b=>(E.g b).ren r) n y u:=by
 have A:∀b fl e,(E.g b).ok fl e->((E.g b).ren r).ok fl e:=fun b fl e h=>Bs.ren_ok h
 cases x with
 | v x=>
  cases y with
  | v y=>cases h;exact q
  | s fl k n f=>
   cases fl<;>simp only[cellM]at h
   obtain⟨rfl,rfl⟩:=h;exact⟨none,0,q.1,Nat.le_refl _,fun F=>by omega⟩
 | h i=>
  cases y with
  | v y=>exact h.elim
  | s fl k m f=>
   cases fl<;>simp only[cellM]at h
   split at h
   ·rename_i U n' f' hi
    obtain⟨⟨-,rfl,rfl,H⟩,l⟩:=h;obtain⟨a,cap,hv,hn,N⟩:=R _ _ hi;refine⟨a,cap,q.2.1.trans hv,hn,fun F=>?_⟩;obtain⟨L,O,c,t,P,Q,d⟩:=N F;refine⟨_,L,?_,c,t,P,Q,fun p j C B=>?_⟩
    ·show(E.g (E.bl i)).ren r=_;rw[O];simp only[Bs.ren,S i rfl]
    ·obtain⟨u,q,hs,T⟩:=d p j C B;exact⟨u,q,(hs.e (H p j C B)).okm A,l.2 p j C B,(T.e (H p j C B) hs).ext (fun b V M _=>⟨rfl,by show(E.g b).ren r=_;rw[M];rfl⟩)⟩
   ·exact h.elim
 | s fl k m f=>
  cases y with
  | v y=>exact h.elim
  | s fl' U n' f'=>
   cases fl'<;>simp only[cellM]at h
   obtain⟨I,J,K⟩:=h;refine⟨(Sh.e J ?_).okm A,K⟩;have G:=Sh.cv (E:=E) (D:=dom ob) q;cases fl with
   | b=>exact absurd rfl I
   | z=>exact G
   | o=>exact G
 | _=>cases y<;>exact h.elim
theorem Vv(a:AQ w E ob){r:Nat->Nat}:∀{l:List Cv} {m:List Tr} {us:List Value} {n:Nat},LS ob l m->CsR w E (dom ob) l us->(∀q∈MR n l,r q.1=q.2)->Ns w (fun b=>(E.g b).ren r) n m us
 | [],[],us,n,h,hu,hr=>by cases hu;rfl
 | x :: l,y :: m,us,n,h,hu,hr=>by
  cases hu with
  | cons h1 t=>
   refine⟨_,_,rfl,zE9 a h.1 h1 (fun i e=>by subst e;exact hr (i,n) (List.mem_cons_self ..)),Vv a h.2 t (fun q c=>hr q ?_)⟩;cases x<;>first | exact c | exact List.mem_cons_of_mem _ c
 | [],_ :: _,us,n,h,hu,hr=>h.elim
 | _ :: _,[],us,n,h,hu,hr=>h.elim
theorem Xf:∀{l:List Cv} {m:List Tr},LS ob l m->l.length=m.length
 | [],[],_=>rfl
 | x :: l,y :: m,h=>by simp[Xf h.2]
 | [],_ :: _,h=>h.elim
 | _ :: _,[],h=>h.elim
theorem Ls(f:AQ w E ob){r:Nat->Nat}:∀{q:List (Bool×List Cv)} {rs:List (Bool×List Tr)} {vs:List Value} {n:Nat},J6 ob q rs->AN (fun (q:Bool×List Cv) u=>VlR w E (dom ob) q.1 q.2 u) q vs->(∀p∈Ea n q,r p.1=p.2)->JG w (fun b=>(E.g b).ren r) n rs vs
 | [],[],vs,n,h,hv,hr=>by cases hv;rfl
 | x :: q,y :: rs,vs,n,h,hv,hr=>by
  cases hv with
  | @cons _ v _ vs' a t=>
   obtain⟨e,d,i⟩:=h;have j:=Xf d;refine⟨v,vs',v.cells.toList,rfl,?_,Vv f d (VlR.cells a) (fun p c=>hr p (List.mem_append_left _ c)),?_⟩
   ·rw[<-e];obtain⟨g,l⟩:=x;cases g with
    | true=>obtain⟨cs,rfl,_⟩:=a;simp[LG,Value.cells]
    | false=>
     obtain⟨x,_,k⟩:=a;have a:=k.one;have:v.cells=#[v]:=by cases v<;>first | rfl | (simp[Value.oneCell']at a)
     simp[LG,this]
   ·rw[<-j];exact Ls f i t (fun p c=>hr p (List.mem_append_right _ c))
 | [],_ :: _,vs,n,h,hv,hr=>h.elim
 | _ :: _,[],vs,n,h,hv,hr=>h.elim
end
theorem Nr{ob:List (Nat×Ob)}:∀{q:List (Bool×List Cv)} {rs:List (Bool×List Tr)},J6 ob q rs->q.length=rs.length
 | [],[],_=>rfl
 | x :: q,y :: rs,h=>by simp[Nr h.2.2]
 | [],_ :: _,h=>h.elim
 | _ :: _,[],h=>h.elim
theorem Oe{P:Program}{fn:Func}{rv:Array ResultVar}(a:fn.results=rv){tmps:Array Value}{vs:List Value}(h:(rv.toList.mapM (L2 tmps)).run P w = .ok vs w):(results fn tmps).run P w = .ok (if h:vs.toArray.size=1 then vs.toArray[0] else .tuple vs.toArray) w:=by
 have e:results fn tmps=(do let vs <-fn.results.mapM (L2 tmps);pure (if h:vs.size=1 then vs[0] else .tuple vs)):=rfl;rw[e,a,Array.mapM_eq_mapM_toList];simp only[Sem.run_bind,Sem.run_map,h];rfl
section
variable {P : Program} {T : Tb} {Γ : List (Nat × AH)} {f : Nat} {fn : Func} {body : Code} {N : Nat} {rv : Array ResultVar}
variable{sp:AH}
theorem YW(B:D9 P T)(hΓ : ∀g0,(∀b,∃r,g0 b = .fz r)->Gp P Γ w ⟨g0,none⟩)(u:P.follows .mixedOrders=true)(I:P.funcs[f]?=some fn)(G:fn.body=some body)(F:fn.ntmps=N)(z:fn.results=rv)(n:Nat)
 (h:∀k c rs,sp k=some (c,rs)->c->k.length<=N/\ev N T Γ n body ⟨Dh 0 k,[]⟩ (fun e S=>match e with
  | .ret=>Ret T rv.toList S rs
  | .normal=>Ret T rv.toList S rs
  | _=>False)):G9 P f sp w:=by
 intro k c rs A H g0 ys L K;obtain⟨t,x⟩:=h k c rs A H;refine calls_of_wp I G ?_;rw[F];refine wp_mono (GN B (hΓ g0 L) u x (TO K t)) ?_;have s:∀S a w',Ret T rv.toList S rs->Rel w ⟨g0,none⟩ N S a w'->a.defers = []/\∃v,(results fn a.tmps).run P w' = .ok v w'/\∃C g,Ending.returned v = .returned C/\Kp w g0 w' g/\IN w' g rs C:=by
  intro S a w' j ⟨E,hE⟩;unfold Ret at j;split at j
  ·rename_i q o
   obtain⟨u,y⟩:=j;obtain⟨vs,l,m⟩:=KW B hE o;have D:=Ls hE.ob (r:=fun i=>(get (Ea 0 q) i).getD 0) (n:=0) u m (fun p J=>by rw[Iu y J];rfl);have d:vs.length=rs.length:=m.length.symm.trans (Nr u);refine⟨hE.df,_,Oe z l,_,_,rfl,hE.kp.ren,vs,D,?_⟩
   match rs,d with
   | [r],d=>
    match vs,d with
    | [v],_=>rfl
   | [],d=>
    match vs,d with
    | [],_=>rfl
   | r1 :: r2 :: rr,d=>
    match vs,d with
    | v1 :: v2 :: vv,_=>simp
  ·exact j.elim
 intro e a w' o;cases e with
 | normal=>obtain⟨S,l,m⟩:=o;exact s S a w' l m
 | ret=>obtain⟨S,l,m⟩:=o;exact s S a w' l m
 | exit i=>obtain⟨S,l,m⟩:=o;exact l.elim
 | _=>exact o.elim
theorem zBz(F:D9 P T)(hΓ : GOk P Γ)(u:P.follows .mixedOrders=true)(L:P.funcs[f]?=some fn)(J:fn.body=some body)(I:fn.ntmps=N)(A:fn.results=rv)(n:Nat)
 (h:∀vs j c rs,sp (j ++ [(true,vs)])=some (c,rs)->c->j.length+1<=N/\ev N T Γ n body ⟨(j.length,true,.m true (Cl 0 0 vs)) :: Dh 0 j,DD 0 vs⟩ (fun e S=>match e with
  | .ret=>Ret T rv.toList S rs
  | .normal=>Ret T rv.toList S rs
  | _=>False)):NG P f sp:=by
 intro w vs j c rs B K D ys y M Q C;obtain⟨t,x⟩:=h vs j c rs B K;refine calls_of_wp L J ?_;rw[I];refine wp_mono (GN F (fun w _ _=>hΓ w) u x (zET M Q C t)) ?_;have s:∀S a w',Ret T rv.toList S rs->Rel w ⟨D.g,none⟩ N S a w'->a.defers = []/\∃v,(results fn a.tmps).run P w' = .ok v w'/\∃G g,Ending.returned v = .returned G/\Kp w D.g w' g/\IN w' g rs G:=by
  intro S a w' d ⟨E,hE⟩;unfold Ret at d;split at d
  ·rename_i q o
   obtain⟨u,z⟩:=d;obtain⟨vs,k,l⟩:=KW F hE o;have H:=Ls hE.ob (r:=fun i=>(get (Ea 0 q) i).getD 0) (n:=0) u l (fun p O=>by rw[Iu z O];rfl);have b:vs.length=rs.length:=l.length.symm.trans (Nr u);refine⟨hE.df,_,Oe A k,_,_,rfl,hE.kp.ren,vs,H,?_⟩
   match rs,b with
   | [r],b=>
    match vs,b with
    | [v],_=>rfl
   | [],b=>
    match vs,b with
    | [],_=>rfl
   | r1 :: r2 :: rr,b=>
    match vs,b with
    | v1 :: v2 :: vv,_=>simp
  ·exact d.elim
 intro e a w' o;cases e with
 | normal=>obtain⟨S,k,l⟩:=o;exact s S a w' k l
 | ret=>obtain⟨S,k,l⟩:=o;exact s S a w' k l
 | exit i=>obtain⟨S,k,l⟩:=o;exact k.elim
 | _=>exact o.elim
theorem zC0(L:D9 P T)(hΓ : GOk P Γ)(C:P.follows .mixedOrders=true)(X:P.funcs[f]?=some fn)(V:fn.body=some body)(U:fn.ntmps=N)(J:fn.results=rv)(n:Nat)
 (h:∀vs k c rs,sp ((true,vs) :: k)=some (c,rs)->c->1+k.length<=N/\ev N T Γ n body ⟨(0,true,.m false [.p 0 0]) :: Dh 1 k,Ft vs⟩ (fun e S=>match e with
  | .ret=>RetP T rv.toList S rs
  | .normal=>RetP T rv.toList S rs
  | _=>False)):Ck P f sp:=by
 intro w vs k c rs K W E ys Y Z;obtain⟨A,H⟩:=h vs k c rs K W;refine calls_of_wp X V ?_;rw[U];refine wp_mono (GN L (fun w _ _=>hΓ w) C H (zEU Y Z A)) ?_;have x:∀S a w',RetP T rv.toList S rs->Rel w ⟨E.g,some (E.bl 0)⟩ N S a w'->a.defers = []/\∃v,(results fn a.tmps).run P w' = .ok v w'/\∃M g,Ending.returned v = .returned M/\Kp w E.g w' g/\ql w' g (E.bl 0) rs M:=by
  intro S a w' d ⟨O,hE⟩;unfold RetP at d;split at d
  ·rename_i l q h0 u
   obtain⟨C,o⟩:=d;simp only[Di,Bool.and_eq_true,Bool.not_eq_true']at o;obtain⟨B,o⟩:=o;obtain⟨j,s,t⟩:=KW L hE u;obtain⟨z,cs,Q,y,G⟩:=hE.ob 0 _ h0;have F:=(hE.b0 _ rfl).2;rw[F]at z y;have I:∀p∈Ea 1 ((true,l) :: q),p.1≠0:=fun p D e=>by
    have:((Ea 1 ((true,l) :: q)).map (·.1)).contains 0=true:=by
     rw[List.contains_iff_mem];exact List.mem_map.2 ⟨p,D,e⟩
    rw[this]at B;cases B
   have R:=Ls hE.ob (r:=fun i=>if i=0 then 0 else(get (Ea 1 ((true,l) :: q)) i).getD 0) (n:=1) (q:=(true,l) :: q) (vs:=.agg cs.toArray :: j) C (.cons ⟨cs,rfl,G⟩ t) (fun p D=>by rw[if_neg (I p D),Iu o D];rfl);have b:j.length+1=rs.length:=by
    have:=Nr C;have:=t.length;simp at *;omega
   refine⟨hE.df,_,Oe J s,_,_,rfl,hE.kp.ren,cs,Q,j,y,?_,R,?_⟩
   ·show(O.g (E.bl 0)).ren _=_;rw[z];simp[Bs.ren]
   ·match rs,b with
    | [_,_],b=>
     match j,b with
     | [v],_=>rfl
    | [_],b=>
     match j,b with
     | [],_=>rfl
    | r0 :: r1 :: r2 :: rr,b=>
     match j,b with
     | v1 :: v2 :: vv,_=>simp
  ·exact d.elim
 intro e a w' u;cases e with
 | normal=>obtain⟨S,s,t⟩:=u;exact x S a w' s t
 | ret=>obtain⟨S,s,t⟩:=u;exact x S a w' s t
 | exit i=>obtain⟨S,s,t⟩:=u;exact s.elim
 | _=>exact u.elim
theorem zBy(K:D9 P T)(hΓ : GOk P Γ)(G:P.follows .mixedOrders=true)(V:P.funcs[f]?=some fn)(R:fn.body=some body)(Q:fn.ntmps=N)(I:fn.results=rv)(n:Nat)
 (h:∀d c rs,sp d=some (c,rs)->c->d.length<=N/\ev N T Γ n body ⟨Dh 0 d,[]⟩ (fun e S=>match e with
  | .ret=>RetN T rv.toList S rs
  | .normal=>RetN T rv.toList S rs
  | _=>False)):NF P f sp:=by
 intro w d c cells J U g0 ys Z X;obtain⟨u,D⟩:=h d c _ J U;refine calls_of_wp V R ?_;rw[Q];refine wp_mono (GN K (fun w _ _=>hΓ w) G D (TO X u)) ?_;have t:∀S a w',RetN T rv.toList S [(true,cells)]->Rel w ⟨g0,none⟩ N S a w'->a.defers = []/\∃v,(results fn a.tmps).run P w' = .ok v w'/\∃B g,Ending.returned v = .returned (.pointer (some ⟨B,0,none⟩))/\Kp w g0 w' g/\∃(cs:List Value) (T:TypeId),w'.heap[B]?=some (.cells cs.toArray T (0,0))/\g B = .ow (.nm 0) 0/\JG w' g 1 [(true,cells)] [.agg cs.toArray]:=by
  intro S a w' b ⟨E,hE⟩;unfold RetN at b;split at b
  ·rename_i i s
   split at b
   ·rename_i l h0
    obtain⟨G,k⟩:=b;simp only[Di,Bool.and_eq_true,Bool.not_eq_true']at k;obtain⟨y,k⟩:=k;obtain⟨Y,m,o⟩:=KW K hE s;obtain⟨F,cs,L,A,C⟩:=hE.ob i _ h0;have H:∀p∈Ea 1 [(true,l)],p.1≠i:=fun p z e=>by
     have:((Ea 1 [(true,l)]).map (·.1)).contains i=true:=by
      rw[List.contains_iff_mem];exact List.mem_map.2 ⟨p,z,e⟩
     rw[this]at y;cases y
    have O:=Ls hE.ob (r:=fun j=>if j=i then 0 else(get (Ea 1 [(true,l)]) j).getD 0) (n:=1) (q:=[(true,l)]) (vs:=[.agg cs.toArray]) G (.cons ⟨cs,rfl,C⟩ .nil) (fun p z=>by rw[if_neg (H p z),Iu k z];rfl);cases o with
    | cons k1 k2=>
     cases k2;obtain⟨x,M,W⟩:=k1;cases M;obtain⟨-,rfl⟩:=W;refine⟨hE.df,_,Oe I m,E.bl i,_,rfl,hE.kp.ren,cs,L,A,?_,O⟩;show(E.g (E.bl i)).ren _=_;rw[F];simp[Bs.ren]
   ·exact b.elim
  ·exact b.elim
 intro e a w' s;cases e with
 | normal=>obtain⟨S,m,o⟩:=s;exact t S a w' m o
 | ret=>obtain⟨S,m,o⟩:=s;exact t S a w' m o
 | exit i=>obtain⟨S,m,o⟩:=s;exact m.elim
 | _=>exact s.elim
theorem zB9(g:D9 P T)(hΓ : GOk P Γ)(k:P.follows .mixedOrders=true)(j:P.funcs[f]?=some fn)(i:fn.body=some body)(d:fn.ntmps=N)(b:fn.results=rv)(n:Nat)
 (h:∀a c rs,sp a=some (c,rs)->c->a.length<=N/\ev N T Γ n body ⟨Dh 0 a,[]⟩ (fun e S=>match e with
  | .ret=>Ret T rv.toList S rs
  | .normal=>Ret T rv.toList S rs
  | _=>False)):Ag P f sp:=fun w=>YW g (fun _ _ w _ _=>hΓ w) k j i d b n h
end
abbrev i0:Value:=.int .i64 0
abbrev n0:Value:=.slice none 0 0
abbrev e0:Value:=.string ⟨#[]⟩
def tyT:Nat->Option TyD
 | 2=>some ⟨1,false,[i0],8,[],0⟩
 | 3=>some ⟨1,false,[i0],8,[],0⟩
 | 4=>some ⟨1,false,[.bool false],1,[],0⟩
 | 5=>some ⟨1,false,[.int .u8 0],1,[],0⟩
 | 9=>some ⟨1,false,[e0],16,[],0⟩
 | 23=>some ⟨1,false,[n0],24,[],108⟩
 | 24=>some ⟨1,false,[n0],24,[],2⟩
 | 41=>some ⟨1,false,[n0],24,[],40⟩
 | 27=>some ⟨1,false,[n0],24,[],70⟩
 | 28=>some ⟨1,false,[n0],24,[],43⟩
 | 79=>some ⟨1,false,[n0],24,[],4⟩
 | 40=>some ⟨2,true,[i0,i0],16,[(0,1),(1,1)],0⟩
 | 108=>some ⟨3,true,[i0,n0,e0],48,[(0,1),(1,1),(2,1)],0⟩
 | 26=>some ⟨2,true,[n0,n0],48,[(0,1),(1,1)],0⟩
 | 30=>some ⟨6,true,[n0,n0,i0,i0,n0,n0],112,[(0,2),(2,1),(3,1),(4,1),(5,1)],0⟩
 | 70=>some ⟨6,true,[e0,i0,i0,i0,i0,n0],72,[(0,1),(1,1),(2,1),(3,2),(5,1)],0⟩
 | 43=>some ⟨8,true,[i0,e0,e0,i0,i0,i0,i0,n0],96,[(0,1),(1,1),(2,1),(3,1),(4,1),(5,2),(7,1)],0⟩
 | 85=>some ⟨1,false,[.int .u64 0],8,[],0⟩
 | 22=>some ⟨1,false,[n0],24,[],5⟩
 | 60=>some ⟨1,false,[n0],24,[],9⟩
 | 179=>some ⟨6,true,[n0,n0,i0,i0,n0,i0],96,[(0,2),(2,2),(4,1),(5,1)],0⟩
 | 87=>some ⟨4,true,[n0,i0,.int .u64 0,i0],48,[(0,1),(1,1),(2,1),(3,1)],0⟩
 | 34=>some ⟨9,true,[n0,n0,i0,i0,n0,n0,i0,i0,i0],136,[(0,6),(6,1),(7,1),(8,1)],0⟩
 | _=>none
def ikT:Nat->Option IntKind
 | 2=>some .i64
 | 3=>some .i64
 | 5=>some .u8
 | 85=>some .u64
 | _=>none
def tb:Tb:=⟨tyT,4,40,9,41,27,22,5,ikT⟩
theorem zIN:∀t d,tyT t=some d->Ax Tryz.prog t d:=by
 intro t d h;unfold tyT at h;split at h<;>first
  | (cases h;exact⟨by kernel_rfl,by kernel_rfl,rfl,rfl,rfl,fun _=>rfl,by decide,by decide,by kernel_rfl⟩)
  | (cases h;exact⟨by kernel_rfl,by kernel_rfl,rfl,rfl,rfl,fun h=>(by cases h),by decide,by decide,by kernel_rfl⟩)
  | (cases h;done)
theorem Ai:D9 Tryz.prog tb:=by
 refine⟨zIN,by kernel_rfl,by kernel_rfl,?_,by kernel_rfl,by kernel_rfl,by kernel_rfl,?_⟩;rotate_left
 ·intro t k h;simp only[tb,ikT]at h;split at h<;>first
   | (cases h;kernel_rfl)
   | (cases h;done)
 intro a b c d w;show(Op.equalIn (9998+1+1) 40 (.agg #[.int .i64 a,.int .i64 b]) (.agg #[.int .i64 c,.int .i64 d])).run Tryz.prog w=_;rw[Op.equalIn];simp[go_sem];by_cases h:a=c<;>by_cases e:b=d<;>simp[h,e]
theorem Ah:Tryz.prog.follows .mixedOrders=true:=by kernel_rfl
def AJ(P:Prop)(e:Ending):Prop:=∃b:Bool,e = .returned (.bool b)/\(b=true↔P)
theorem AJ.yes{P:Prop}(h:P):AJ P (.returned (.bool true)):=⟨true,rfl,by simp[h]⟩
theorem AJ.no{P:Prop}(h:¬P):AJ P (.returned (.bool false)):=⟨false,rfl,by simp[h]⟩
variable{n:Nat}
theorem Bf{k:Nat}{P:Nat->Prop}(b:k<n)(h:∀i,i<k->P i)(a:P k):∀i,i<k+1->P i:=fun i hi=>by
 by_cases e:i=k
 ·subst e;exact a
 ·exact h i (by omega)
variable{w':World}
theorem Jq{B:Nat}(h:Below B w w')(n:Nat):Below B w (w'.drewN n):=⟨h.os,h.tape,h.output,h.size,h.block⟩
variable{s t:ByteArray}
theorem zIK(h:s=t):(s.toList == t.toList)=true:=by simp[h]
theorem zIL(h:¬s=t):(s.toList == t.toList)=false:=by
 rw[beq_eq_false_iff_ne];intro e;rw[Go.ByteArray.toList_eq,Go.ByteArray.toList_eq]at e;apply h;cases s;cases t;simp only[ByteArray.mk.injEq]at *;exact Array.toList_inj.1 e
variable{w1:World}
theorem Cs(h:Below w.drew.heap.size w.drew w1):Below w.heap.size w w1:=⟨h.os,h.tape,h.output,h.size,h.block⟩
theorem RE{wr:World}(a:Below w.heap.size w wr)(b:Below wr.drew.heap.size wr.drew w1):Below w.heap.size w w1:=
 a.drew.trans (b.mono a.size)
theorem A8{wr:World}(a:Below w.heap.size w wr)(b:Below wr.heap.size wr w1):Below w.heap.size w w1:=
 a.trans (b.mono a.size)
structure AG where
 birth:Int
 kn:Nat
 ks:Nat->Int
 kb:Nat->Int
 data:ByteArray
structure A7 where
 n:Nat
 s:Nat->AG
 hn:Nat
 h:Nat->Int
def JE(a b c d:Int):Prop:=a=c/\b=d
def LR(lo hi:Nat)(w w':World):Prop:=∀k,lo<=k->k<hi->w'.heap[k]?=w.heap[k]?
variable{lo hi b o:Nat}
theorem LR.cell(h:LR lo hi w w')(a:lo<=b)(c:b<hi):w'.cell? ⟨b,o,none⟩=w.cell? ⟨b,o,none⟩:=
 World.cell?_of_block (w:=w) (h b a c)
variable{v:Value}
theorem AM(h:w.cell? ⟨b,o,none⟩=some v):b<w.heap.size:=by
 simp only[World.cell?]at h;by_cases a:b<w.heap.size
 ·exact a
 ·rw[Array.getElem?_eq_none (by omega)]at h;simp at h
def DC(w:World)(lo hi:Nat)(v:Value)(n:Nat)(f:Nat->Int):Prop:=
 n<=maxLen/\∃a cap,v = .slice a n cap/\n<=cap/\(0<n->∃b off,a=some ⟨b,off,none⟩/\lo<=b/\b<hi/\∀i,i<n->w.cell? ⟨b,off+i,none⟩=some (.int .i64 (f i)))
def Ay(w:World)(lo hi:Nat)(v:Value)(n:Nat)(fs fb:Nat->Int):Prop:=
 n<=maxLen/\∃a cap,v = .slice a n cap/\n<=cap/\(0<n->∃b off,a=some ⟨b,off,none⟩/\lo<=b/\b<hi/\∀i,i<n->w.cell? ⟨b,off+i*2,none⟩=some (.int .i64 (fs i))/\w.cell? ⟨b,off+i*2+1,none⟩=some (.int .i64 (fb i)))
def Cr(w:World)(lo hi:Nat)(v0 v1 v2:Value)(s:AG):Prop:=
 v0 = .int .i64 s.birth/\Ay w lo hi v1 s.kn s.ks s.kb/\v2 = .string s.data/\s.data.size<=maxLen
def BU(w:World)(lo hi:Nat)(v:Value)(n:Nat)(f:Nat->AG):Prop:=
 n<=maxLen/\∃a cap,v = .slice a n cap/\n<=cap/\(0<n->∃b off,a=some ⟨b,off,none⟩/\lo<=b/\b<hi/\∀i,i<n->∃v0 v1 v2,w.cell? ⟨b,off+i*3,none⟩=some v0/\w.cell? ⟨b,off+i*3+1,none⟩=some v1/\w.cell? ⟨b,off+i*3+2,none⟩=some v2/\Cr w lo hi v0 v1 v2 (f i))
def DU(w:World)(lo hi:Nat)(v0 v1:Value)(p:A7):Prop:=BU w lo hi v0 p.n p.s/\DC w lo hi v1 p.hn p.h
variable{g:Nat->Int}
theorem Ay.same{f:Nat->Int}(h:Ay w lo hi v n f g)(s:LR lo hi w w'):Ay w' lo hi v n f g:=by
 obtain⟨j,a,cap,hv,e,m⟩:=h;refine⟨j,a,cap,hv,e,fun hn=>?_⟩;obtain⟨b,off,l,c,d,k⟩:=m hn;exact⟨b,off,l,c,d,fun i hi=>by rw[s.cell c d,s.cell c d];exact k i hi⟩
variable{v0 v1 v2:Value}
theorem Cr.same{t:AG}(h:Cr w lo hi v0 v1 v2 t)(s:LR lo hi w w'):Cr w' lo hi v0 v1 v2 t:=
 ⟨h.1,h.2.1.same s,h.2.2⟩
theorem BU.same{f:Nat->AG}(h:BU w lo hi v n f)(s:LR lo hi w w'):BU w' lo hi v n f:=by
 obtain⟨j,a,cap,hv,e,m⟩:=h;refine⟨j,a,cap,hv,e,fun hn=>?_⟩;obtain⟨b,off,l,c,d,k⟩:=m hn;refine⟨b,off,l,c,d,fun i hi=>?_⟩;obtain⟨o,v1,p,c0,c1,g,hs⟩:=k i hi;exact⟨o,v1,p,by rw[s.cell c d];exact c0,by rw[s.cell c d];exact c1,by rw[s.cell c d];exact g,hs.same s⟩
variable{f:Nat->Int}
theorem DC.A1(h:DC w lo hi v n f)(s:Below w.heap.size w w'):DC w' lo hi v n f:=by
 obtain⟨e,a,cap,hv,c,l⟩:=h;refine⟨e,a,cap,hv,c,fun hn=>?_⟩;obtain⟨b,off,k,g,j,d⟩:=l hn;exact⟨b,off,k,g,j,fun i hi=>(s.cell (AM (d i hi))).trans (d i hi)⟩
theorem Ay.A1(h:Ay w lo hi v n f g)(s:Below w.heap.size w w'):Ay w' lo hi v n f g:=by
 obtain⟨e,a,cap,hv,d,m⟩:=h;refine⟨e,a,cap,hv,d,fun hn=>?_⟩;obtain⟨b,off,l,j,k,c⟩:=m hn;exact⟨b,off,l,j,k,fun i hi=>⟨(s.cell (AM (c i hi).1)).trans (c i hi).1,(s.cell (AM (c i hi).2)).trans (c i hi).2⟩⟩
theorem Cr.A1{t:AG}(h:Cr w lo hi v0 v1 v2 t)(s:Below w.heap.size w w'):Cr w' lo hi v0 v1 v2 t:=
 ⟨h.1,h.2.1.A1 s,h.2.2⟩
theorem BU.A1{f:Nat->AG}(h:BU w lo hi v n f)(s:Below w.heap.size w w'):BU w' lo hi v n f:=by
 obtain⟨e,a,cap,hv,c,m⟩:=h;refine⟨e,a,cap,hv,c,fun hn=>?_⟩;obtain⟨b,off,l,g,j,k⟩:=m hn;refine⟨b,off,l,g,j,fun i hi=>?_⟩;obtain⟨o,v1,p,c0,c1,d,hs⟩:=k i hi;exact⟨o,v1,p,(s.cell (AM c0)).trans c0,(s.cell (AM c1)).trans c1,(s.cell (AM d)).trans d,hs.A1 s⟩
theorem DU.A1{p:A7}(h:DU w lo hi v0 v1 p)(s:Below w.heap.size w w'):DU w' lo hi v0 v1 p:=⟨h.1.A1 s,h.2.A1 s⟩
variable{a:Option Addr}
theorem DC.take{c m c':Nat}(h:DC w lo hi (.slice a n c) n f)(r:m<=n)(l:m<=c'):DC w lo hi (.slice a m c') m f:=by
 obtain⟨d,q,cap,hv,o,p⟩:=h;simp only[Value.slice.injEq,true_and]at hv;obtain⟨rfl,rfl⟩:=hv;refine⟨by omega,a,c',rfl,l,fun d=>?_⟩;obtain⟨b,off,k,e,g,j⟩:=p (by omega);exact⟨b,off,k,e,g,fun i hi=>j i (by omega)⟩
structure Jh (w:World) (b o:Nat) (lo hi:Nat) (ka:Option Addr) (kc:Nat) (s:AG):Prop where
 c0:w.cell? ⟨b,o,none⟩=some (.int .i64 s.birth)
 c1:w.cell? ⟨b,o+1,none⟩=some (.slice ka s.kn kc)
 c2:w.cell? ⟨b,o+2,none⟩=some (.string s.data)
 slot:Cr w lo hi (.int .i64 s.birth) (.slice ka s.kn kc) (.string s.data) s
variable{s:AG}
theorem Jh.A1{ka:Option Addr}{kc:Nat}(h:Jh w b o lo hi ka kc s)(t:Below w.heap.size w w'):Jh w' b o lo hi ka kc s:=
 ⟨(t.cell (AM h.c0)).trans h.c0,(t.cell (AM h.c1)).trans h.c1,(t.cell (AM h.c2)).trans h.c2,h.slot.A1 t⟩
theorem BU.cells{c:Nat}{f:Nat->AG}(h:BU w lo hi (.slice a n c) n f){i:Nat}(d:i<n) :
 ∃b off g kc,a=some ⟨b,off,none⟩/\Jh w b (off+i*3) lo hi g kc (f i):=by
 obtain⟨q,p,cap,hv,m,o⟩:=h;simp only[Value.slice.injEq,true_and]at hv;obtain⟨rfl,rfl⟩:=hv;obtain⟨b,off,l,r,s,k⟩:=o (by omega);obtain⟨t,v1,u,c0,c1,j,hs⟩:=k i d;have e:=hs;obtain⟨rfl,⟨_,g,kc,rfl,_⟩,rfl,_⟩:=hs;exact⟨b,off,g,kc,l,⟨c0,c1,j,e⟩⟩
theorem Bb{P:Prop}{t:Bool}(a:t=true↔P)(h:¬P):t=false:=Bool.eq_false_iff.2 (fun e=>h (a.1 e))
def Am(s:AG):Prop:=s.birth=0/\s.kn=0/\s.data.toList.isEmpty=true
def DN(n:Int):Prop:=1<=n/\n<=1000000
def BA(p:A7)(xs xb:Int):Prop:=1<=xb/\0<=xs/\xs<p.n/\(p.s xs.toNat).birth=xb
def Mn(p:A7)(b:Int)(xs xb:Int):Prop:=(xs=0/\xb=0)\/(BA p xs xb/\xb<=b)
def CH(p:A7)(s:AG):Prop:=DN s.birth/\((s.kn=0/\s.data.size=16)\/(s.kn=8/\s.data.toList.isEmpty=true/\∀i,i<s.kn->Mn p s.birth (s.ks i) (s.kb i)))
def Has(n:Nat)(f:Nat->Int)(x:Int):Prop:=∃j,j<n/\f j=x
def Yp(p:A7)(i:Nat):Prop:=0<=p.h i/\p.h i<p.n/\¬Am (p.s (p.h i).toNat)/\¬Has i p.h (p.h i)
def AX(p:A7):Prop:=p.n<=200/\(∀i,i<p.n->Am (p.s i)\/CH p (p.s i))/\∀i,i<p.hn->Yp p i
structure AC (S:Nat->Prop) (w w':World):Prop where
 os:w'.os=w.os
 tape:w'.tape=w.tape
 output:w'.output=w.output
 size:w.heap.size<=w'.heap.size
 block:∀k,k<w.heap.size->¬S k->w'.heap[k]?=w.heap[k]?
theorem AC.refl(S:Nat->Prop)(w:World):AC S w w:=⟨rfl,rfl,rfl,Nat.le_refl _,fun _ _ _=>rfl⟩
variable{S:Nat->Prop}
theorem AC.trans{a b c:World}(h:AC S a b)(k:AC S b c):AC S a c:=
 ⟨k.os.trans h.os,k.tape.trans h.tape,k.output.trans h.output,Nat.le_trans h.size k.size,fun i hi hs=>(k.block i (Nat.lt_of_lt_of_le hi h.size) hs).trans (h.block i hi hs)⟩
theorem AC.mono{T:Nat->Prop}{a b:World}(h:AC S a b)(c:∀k,S k->T k):AC T a b:=
 ⟨h.os,h.tape,h.output,h.size,fun i hi hs=>h.block i hi (fun x=>hs (c i x))⟩
theorem AC.CX(h:Below w.heap.size w w'):AC S w w':=⟨h.os,h.tape,h.output,h.size,fun k a _=>h.block k a⟩
theorem AC.A1(h:AC S w w'){B:Nat}(a:B<=w.heap.size)(hs:∀k,S k->B<=k):Below B w w':=
 ⟨h.os,h.tape,h.output,h.size,fun k b=>h.block k (by omega) (fun x=>by have:=hs k x;omega)⟩
theorem AC.setCell(h:AC S w w'){p:Addr}(a:S p.block)(u:Value):AC S w (w'.setCell p u):=
 h.trans ⟨rfl,rfl,rfl,by simp,fun k _ hs=>Below.heap_setCell _ _ _ _ (fun e=>hs (e▸a))⟩
theorem AC.put(w:World)(b o:Nat)(u:Value):AC (fun k=>k=b) w (w.setCell ⟨b,o,none⟩ u):=
 (AC.refl (fun k=>k=b) w).setCell (p:=⟨b,o,none⟩) rfl u
theorem AC.cell(h:AC S w w')(a:b<w.heap.size)(hs:¬S b):w'.cell? ⟨b,o,none⟩=w.cell? ⟨b,o,none⟩:=
 World.cell?_of_block (w:=w) (h.block b a hs)
theorem AC.frozen(h:AC S w w')(a:b<w.heap.size)(hs:¬S b):w'.frozen? ⟨b,o,none⟩=w.frozen? ⟨b,o,none⟩:=
 World.frozen?_of_block (w:=w) (h.block b a hs)
def AF(w:World)(b o:Nat)(v:Value):Prop:=w.cell? ⟨b,o,none⟩=some v/\w.frozen? ⟨b,o,none⟩=false
theorem AF.lt(h:AF w b o v):b<w.heap.size:=AM h.1
theorem AF.AD(h:AF w b o v)(t:AC S w w')(hs:¬S b):AF w' b o v:=
 ⟨(t.cell h.lt hs).trans h.1,(t.frozen h.lt hs).trans h.2⟩
theorem AF.A1(h:AF w b o v)(t:Below w.heap.size w w'):AF w' b o v:=
 ⟨(t.cell h.lt).trans h.1,(t.frozen h.lt).trans h.2⟩
theorem AF.set(h:AF w b o v)(u:Value):AF (w.setCell ⟨b,o,none⟩ u) b o u:=
 ⟨World.cell?_setCell_same' _ _ _ (by rw[h.1];rfl),by rw[World.frozen?_setCell];exact h.2⟩
theorem AF.other(h:AF w b o v){b' o':Nat}(u:Value)(a:b'≠b\/o'≠o):AF (w.setCell ⟨b',o',none⟩ u) b o v:=by
 refine⟨?_,by rw[World.frozen?_setCell];exact h.2⟩;rw[World.cell?_setCell_other]
 ·exact h.1
 ·intro e;simp only[Addr.mk.injEq]at e;rcases a with h | h
  ·exact h e.1
  ·exact h e.2.1
def MU(w:World)(b:Nat):Nat->List Value->World
 | _,[]=>w
 | o,u :: us=>MU (w.setCell ⟨b,o,none⟩ u) b (o+1) us
theorem QR{b j:Nat}{v:Value}:∀(us:List Value) (w:World) (o:Nat),AF w b j v->j<o\/o+us.length<=j->AF (MU w b o us) b j v
 | [],_,_,h,_=>h
 | u :: us,w,o,h,hj=>by
  rw[List.length_cons]at hj;exact QR us _ (o+1) (h.other u (Or.inr (by omega))) (by omega)
theorem LU{b:Nat}{u v:Value}:∀(us:List Value) (w:World) (o i j:Nat),us[i]?=some u->o+i=j->AF w b j v->AF (MU w b o us) b j u
 | [],_,_,_,_,h,_,_=>by simp at h
 | x :: us,w,o,0,j,h,e,hc=>by
  obtain rfl:x=u:=(by simpa using h);obtain rfl:o=j:=e;exact QR us _ (o+1) (hc.set x) (Or.inl (by omega))
 | x :: us,w,o,i+1,j,h,e,hc=>LU us _ (o+1) i j (by simpa using h) (by omega) (hc.other x (Or.inr (by omega)))
def zJA(w:World)(b:Nat)(a:Option Addr)(n cap:Nat):Prop:=n<cap->0<n/\a=some ⟨b,0,none⟩/\cap<=maxLen/\∃cur,w.heap[b]?=some (.cells cur 2 (0,0))/\cur.size=cap
def Fg(w:World)(b:Nat)(v:Value)(n:Nat)(f:Nat->Int):Prop:=
 n<=maxLen/\∃a cap,v = .slice a n cap/\n<=cap/\(0<n->∃off,a=some ⟨b,off,none⟩/\∀i,i<n->AF w b (off+i) (.int .i64 (f i)))/\zJA w b a n cap
def Bm(w:World)(b:Nat)(v:Value)(n:Nat)(fs fb:Nat->Int):Prop:=
 n<=maxLen/\∃a cap,v = .slice a n cap/\n<=cap/\(0<n->∃off,a=some ⟨b,off,none⟩/\∀i,i<n->AF w b (off+i*2) (.int .i64 (fs i))/\AF w b (off+i*2+1) (.int .i64 (fb i)))
theorem Fg.at(h:Fg w b v n f)(d:0<n->lo<=b/\b<hi):DC w lo hi v n f:=by
 obtain⟨e,a,cap,hv,c,k,l⟩:=h;refine⟨e,a,cap,hv,c,fun hn=>?_⟩;obtain⟨off,j,g⟩:=k hn;exact⟨b,off,j,(d hn).1,(d hn).2,fun i hi=>(g i hi).1⟩
theorem Bm.at(h:Bm w b v n f g)(e:0<n->lo<=b/\b<hi):Ay w lo hi v n f g:=by
 obtain⟨j,a,cap,hv,c,l⟩:=h;refine⟨j,a,cap,hv,c,fun hn=>?_⟩;obtain⟨off,k,d⟩:=l hn;exact⟨b,off,k,(e hn).1,(e hn).2,fun i hi=>⟨(d i hi).1.1,(d i hi).2.1⟩⟩
theorem Fg.AD(h:Fg w b v n f)(t:AC S w w')(hs:0<n->¬S b):Fg w' b v n f:=by
 obtain⟨j,a,cap,hv,d,m,o⟩:=h;refine⟨j,a,cap,hv,d,fun hn=>?_,fun e=>?_⟩;rotate_left
 ·obtain⟨r0,r1,p,c,g,q⟩:=o e;exact⟨r0,r1,p,c,(t.block b (Array.getElem?_eq_some_iff.1 g).1 (hs r0)).trans g,q⟩
 obtain⟨off,l,k⟩:=m hn;exact⟨off,l,fun i hi=>(k i hi).AD t (hs hn)⟩
theorem Bm.AD(h:Bm w b v n f g)(t:AC S w w')(hs:0<n->¬S b):Bm w' b v n f g:=by
 obtain⟨e,a,cap,hv,c,k⟩:=h;refine⟨e,a,cap,hv,c,fun hn=>?_⟩;obtain⟨off,j,d⟩:=k hn;exact⟨off,j,fun i hi=>⟨(d i hi).1.AD t (hs hn),(d i hi).2.AD t (hs hn)⟩⟩
theorem Bm.A1(h:Bm w b v n f g)(t:Below w.heap.size w w'):Bm w' b v n f g:=
 h.AD (AC.CX (S:=fun _=>False) t) (fun _ h=>h)
theorem Fg.A1(h:Fg w b v n f)(t:Below w.heap.size w w'):Fg w' b v n f:=
 h.AD (AC.CX (S:=fun _=>False) t) (fun _ h=>h)
structure Hb (w:World) (bs o kb:Nat) (kv:Value) (s:AG):Prop where
 birth:AF w bs o (.int .i64 s.birth)
 kidsv:AF w bs (o+1) kv
 data:AF w bs (o+2) (.string s.data)
 kids:Bm w kb kv s.kn s.ks s.kb
 Bo:s.data.size<=maxLen
 BY:0<s.kn->kb≠bs
variable{bs kb:Nat}{kv:Value}
theorem Hb.AD(h:Hb w bs o kb kv s)(t:AC S w w')(a:¬S bs)(b:0<s.kn->¬S kb):Hb w' bs o kb kv s:=
 ⟨h.birth.AD t a,h.kidsv.AD t a,h.data.AD t a,h.kids.AD t b,h.Bo,h.BY⟩
theorem Hb.A1(h:Hb w bs o kb kv s)(t:Below w.heap.size w w'):Hb w' bs o kb kv s:=
 h.AD (AC.CX (S:=fun _=>False) t) (fun h=>h) (fun _ h=>h)
theorem Hb.at(h:Hb w bs o kb kv s)(a:0<s.kn->lo<=kb/\kb<hi):Cr w lo hi (.int .i64 s.birth) kv (.string s.data) s:=
 ⟨rfl,h.kids.at a,rfl,h.Bo⟩
def FB(w:World)(bs:Nat)(kb:Nat->Nat)(kv:Nat->Value)(v:Value)(n:Nat)(f:Nat->AG):Prop:=
 n<=maxLen/\∃a cap,v = .slice a n cap/\n<=cap/\(0<n->∃off,a=some ⟨bs,off,none⟩/\∀i,i<n->Hb w bs (off+i*3) (kb i) (kv i) (f i))
def MC(kb:Nat->Nat)(n:Nat)(f:Nat->AG):Prop:=∀i j,i<n->j<n->i≠j->0<(f i).kn->0<(f j).kn->kb i≠kb j
def zGB(lo hi bs:Nat)(kb:Nat->Nat)(n:Nat)(f:Nat->AG):Prop:=0<n->(lo<=bs/\bs<hi)/\∀i,i<n->0<(f i).kn->lo<=kb i/\kb i<hi
variable{kb:Nat->Nat}{kv:Nat->Value}{f:Nat->AG}
theorem FB.at(h:FB w bs kb kv v n f)(c:zGB lo hi bs kb n f):BU w lo hi v n f:=by
 obtain⟨e,a,cap,hv,d,j⟩:=h;refine⟨e,a,cap,hv,d,fun hn=>?_⟩;obtain⟨off,g,b⟩:=j hn;refine⟨bs,off,g,(c hn).1.1,(c hn).1.2,fun i hi=>?_⟩;exact⟨_,_,_,(b i hi).birth.1,(b i hi).kidsv.1,(b i hi).data.1,(b i hi).at ((c hn).2 i hi)⟩
theorem FB.A1(h:FB w bs kb kv v n f)(t:Below w.heap.size w w'):FB w' bs kb kv v n f:=by
 obtain⟨c,a,cap,hv,b,g⟩:=h;refine⟨c,a,cap,hv,b,fun hn=>?_⟩;obtain⟨off,e,d⟩:=g hn;exact⟨off,e,fun i hi=>(d i hi).A1 t⟩
theorem FB.AD(h:FB w bs kb kv v n f)(t:AC S w w')
 (d:0<n->¬S bs) (e:∀i,i<n->0<(f i).kn->¬S (kb i)):FB w' bs kb kv v n f:=by
 obtain⟨c,a,cap,hv,b,k⟩:=h;refine⟨c,a,cap,hv,b,fun hn=>?_⟩;obtain⟨off,j,g⟩:=k hn;exact⟨off,j,fun i hi=>(g i hi).AD t (d hn) (e i hi)⟩
def Ad(w:World)(b:Nat)(v0 v1:Value):Prop:=AF w b 0 v0/\AF w b 1 v1
theorem Ad.A1(h:Ad w b v0 v1)(t:Below w.heap.size w w'):Ad w' b v0 v1:=⟨h.1.A1 t,h.2.A1 t⟩
theorem Ad.AD(h:Ad w b v0 v1)(t:AC S w w')(hs:¬S b):Ad w' b v0 v1:=⟨h.1.AD t hs,h.2.AD t hs⟩
theorem Ad.new(w:World)(a v1:Value)(t:TypeId):Ad (w.alloc (.cells #[a,v1] t)) w.heap.size a v1:=
 ⟨⟨by rw[World.cell?_alloc_at (hn:=rfl)];rfl,by rw[World.frozen?_alloc_at (hn:=rfl)]⟩,⟨by rw[World.cell?_alloc_at (hn:=rfl)];rfl,by rw[World.frozen?_alloc_at (hn:=rfl)]⟩⟩
def Ca(w:World)(b:Nat)(v0 v1 v2:Value):Prop:=AF w b 0 v0/\AF w b 1 v1/\AF w b 2 v2
theorem Ca.A1(h:Ca w b v0 v1 v2)(t:Below w.heap.size w w'):Ca w' b v0 v1 v2:=⟨h.1.A1 t,h.2.1.A1 t,h.2.2.A1 t⟩
theorem Ca.new(w:World)(a v1 b:Value)(t:TypeId):Ca (w.alloc (.cells #[a,v1,b] t)) w.heap.size a v1 b:=
 ⟨⟨by rw[World.cell?_alloc_at (hn:=rfl)];rfl,by rw[World.frozen?_alloc_at (hn:=rfl)]⟩,⟨by rw[World.cell?_alloc_at (hn:=rfl)];rfl,by rw[World.frozen?_alloc_at (hn:=rfl)]⟩,⟨by rw[World.cell?_alloc_at (hn:=rfl)];rfl,by rw[World.frozen?_alloc_at (hn:=rfl)]⟩⟩
theorem Ca.put(h:Ca w b v0 v1 v2)(a c u2:Value):Ca (((w.setCell ⟨b,0,none⟩ a).setCell ⟨b,1,none⟩ c).setCell ⟨b,2,none⟩ u2) b a c u2:=
 ⟨((h.1.set a).other _ (Or.inr (by omega))).other _ (Or.inr (by omega)),((h.2.1.other _ (Or.inr (by omega))).set c).other _ (Or.inr (by omega)),((h.2.2.other _ (Or.inr (by omega))).other _ (Or.inr (by omega))).set u2⟩
theorem Ad.put(h:Ad w b v0 v1)(a c:Value):Ad ((w.setCell ⟨b,0,none⟩ a).setCell ⟨b,1,none⟩ c) b a c:=
 ⟨(h.1.set a).other _ (Or.inr (by omega)),(h.2.other _ (Or.inr (by omega))).set c⟩
theorem Ca.other(h:Ca w b v0 v1 v2){b' o':Nat}(u:Value)(a:b'≠b):Ca (w.setCell ⟨b',o',none⟩ u) b v0 v1 v2:=
 ⟨h.1.other u (Or.inl a),h.2.1.other u (Or.inl a),h.2.2.other u (Or.inl a)⟩
theorem A9(w:World)(o:Obj):Below w.heap.size w (w.alloc o):=(Below.refl _ _).alloc (Nat.le_refl _) o
variable{cs:Array Value}
theorem At{i:Nat}{t:TypeId}(h:w.heap[b]?=some (.cells cs t))(hi:cs[i]?=some v):AF w b i v:=by
 refine⟨?_,?_⟩
 ·simp[World.cell?,h,hi]
 ·simp[World.frozen?,h]
theorem Ye{t:TypeId}(v:Value)(h:w.heap[b]?=some (.cells cs t)):(w.setCell ⟨b,o,none⟩ v).heap[b]?=some (.cells (cs.setIfInBounds o v) t):=by
 simp[World.setCell,Array.getElem?_modify,h]
theorem C6{base e size:Nat}(h:w.ownsRow base e size v n xs):∃a cap,v = .slice a n cap/\n<=cap:=by
 obtain⟨_,⟨h,rfl⟩ | ⟨g,cap,c,hv,_,_,b,_⟩⟩:=h
 ·exact⟨none,0,h,Nat.le_refl _⟩
 ·exact⟨_,cap,hv,b⟩
theorem Gd{base e size:Nat}(h:w.ownsRow base e size v n xs)(hn:0<n) :
 ∃g cap,v = .slice (some ⟨g,0,none⟩) n cap/\n<=cap/\base<=g/\g<w.heap.size/\∀j u,xs[j]?=some u->AF w g j u:=by
 obtain⟨_,⟨h,rfl⟩ | ⟨g,cap,c,hv,k,b,f,m,o,i⟩⟩:=h
 ·omega
 ·refine⟨g,cap,hv,f,k,?_,fun j u l=>?_⟩
  ·by_cases d:g<w.heap.size
   ·exact d
   ·rw[Array.getElem?_eq_none (by omega)]at b;simp at b
  ·refine⟨?_,?_⟩
   ·simp only[World.cell?,b];have a:(c.toList.take (n*size))[j]?=some u:=(by rw[i];exact l);rw[List.getElem?_take]at a;split at a
    ·simpa using a
    ·simp at a
   ·simp only[World.frozen?,b];simp
def FJ(s:AG):Prop:=DN s.birth/\s.kn=0/\s.data.size=16
def IM(s:AG):Prop:=DN s.birth/\s.kn=8/\s.data.toList.isEmpty=true
theorem ON(k v1 l:Value)(lo hi:Nat)(s:AG)(w:World)(b:Cr w lo hi k v1 l s) :
 Calls Tryz.prog 156 #[.agg #[k,v1,l]] w fun e w'=>AJ (Am s) e/\Below w.heap.size w w':=by
 obtain⟨rfl,⟨m,a,c,rfl,_⟩,rfl,_⟩:=b;unfold maxLen at m;have d:=(Below.refl w.heap.size w).alloc (Nat.le_refl _) (.cells #[.int .i64 s.birth,.slice a s.kn c,.string s.data] 108);by_cases b:s.birth=0
 ·by_cases f:s.kn=0
  ·by_cases g:s.data.toList.isEmpty=true
   ·have H:Hid (Am s):=⟨b,f,g⟩;have i:(s.birth == 0)=true:=(by simp[b]);have j:((s.kn:Int) == 0)=true:=(by simp[f]);clear b f;go_enter Tryz.func156,Tryz.ntmps156;go_wp2;go_ret;exact⟨AJ.yes H.out,d⟩
   ·have H:Hid (¬Am s):=fun h=>g h.2.2
    have i:(s.birth == 0)=true:=(by simp[b]);have j:((s.kn:Int) == 0)=true:=(by simp[f]);have n:s.data.toList.isEmpty=false:=(by simpa using g);clear b f g;go_enter Tryz.func156,Tryz.ntmps156;go_wp2;go_ret;exact⟨AJ.no H.out,d⟩
  ·have H:Hid (¬Am s):=fun h=>f h.2.1
   have i:(s.birth == 0)=true:=(by simp[b]);have j:((s.kn:Int) == 0)=false:=(by simp;omega);clear b f;go_enter Tryz.func156,Tryz.ntmps156;go_wp2;go_ret;exact⟨AJ.no H.out,d⟩
 ·have H:Hid (¬Am s):=fun h=>b h.1
  have i:(s.birth == 0)=false:=(by simp[b]);clear b;go_enter Tryz.func156,Tryz.ntmps156;go_wp2;go_ret;exact⟨AJ.no H.out,d⟩
theorem Gg(n:Int)(w:World):Calls Tryz.prog 186 #[.int .i64 n] w fun e w'=>AJ (DN n) e/\w'=w:=by
 by_cases a:1<=n
 ·by_cases b:n<=1000000
  ·go_enter Tryz.func186,Tryz.ntmps186;go_wp2;go_ret;exact⟨AJ.yes ⟨a,b⟩,rfl⟩
  ·go_enter Tryz.func186,Tryz.ntmps186;go_wp2;go_ret;exact⟨AJ.no fun h=>by have:=h.2;omega,rfl⟩
 ·go_enter Tryz.func186,Tryz.ntmps186;go_wp2;go_ret;exact⟨AJ.no fun h=>by have:=h.1;omega,rfl⟩
theorem XA(l v1 m:Value)(lo hi:Nat)(s:AG)(w:World)(d:Cr w lo hi l v1 m s) :
 Calls Tryz.prog 157 #[.agg #[l,v1,m]] w fun e w'=>AJ (FJ s) e/\Below w.heap.size w w':=by
 obtain⟨rfl,⟨o,a,c,rfl,_⟩,rfl,p⟩:=d;unfold maxLen at o p;have f:=(Below.refl w.heap.size w).alloc (Nat.le_refl _) (.cells #[.int .i64 s.birth,.slice a s.kn c,.string s.data] 108);by_cases d:DN s.birth
 ·have i:Hid (DN s.birth):=d;by_cases g:s.kn=0
  ·by_cases j:s.data.size=16
   ·have H:Hid (FJ s):=⟨d,g,j⟩;have k:((s.kn:Int) == 0)=true:=(by simp[g]);have n:((s.data.size:Int) == 16)=true:=(by simp[j]);clear d g j;go_enter Tryz.func157,Tryz.ntmps157;go_wp2_with (go_at_call 186;refine(Gg _ _).mono ?_;rintro e w' ⟨⟨t,rfl,b⟩,rfl⟩;obtain rfl:t=true:=b.2 i.out;clear b);go_ret;exact⟨AJ.yes H.out,f⟩
   ·have H:Hid (¬FJ s):=fun h=>j h.2.2
    have k:((s.kn:Int) == 0)=true:=(by simp[g]);have n:((s.data.size:Int) == 16)=false:=(by simp;omega);clear d g j;go_enter Tryz.func157,Tryz.ntmps157;go_wp2_with (go_at_call 186;refine(Gg _ _).mono ?_;rintro e w' ⟨⟨t,rfl,b⟩,rfl⟩;obtain rfl:t=true:=b.2 i.out;clear b);go_ret;exact⟨AJ.no H.out,f⟩
  ·have H:Hid (¬FJ s):=fun h=>g h.2.1
   have k:((s.kn:Int) == 0)=false:=(by simp;omega);clear d g;go_enter Tryz.func157,Tryz.ntmps157;go_wp2_with (go_at_call 186;refine(Gg _ _).mono ?_;rintro e w' ⟨⟨t,rfl,b⟩,rfl⟩;obtain rfl:t=true:=b.2 i.out;clear b);go_ret;exact⟨AJ.no H.out,f⟩
 ·have i:Hid (¬DN s.birth):=d;clear d;go_enter Tryz.func157,Tryz.ntmps157;go_wp2_with (go_at_call 186;refine(Gg _ _).mono ?_;rintro e w' ⟨⟨t,rfl,b⟩,rfl⟩;obtain rfl:t=false:=Bb b i.out;clear b);go_ret;exact⟨AJ.no fun h=>i.out h.1,f⟩
theorem zAX(l v1 m:Value)(lo hi:Nat)(s:AG)(w:World)(d:Cr w lo hi l v1 m s) :
 Calls Tryz.prog 158 #[.agg #[l,v1,m]] w fun e w'=>AJ (IM s) e/\Below w.heap.size w w':=by
 obtain⟨rfl,⟨n,a,c,rfl,_⟩,rfl,o⟩:=d;unfold maxLen at n o;have f:=(Below.refl w.heap.size w).alloc (Nat.le_refl _) (.cells #[.int .i64 s.birth,.slice a s.kn c,.string s.data] 108);by_cases d:DN s.birth
 ·have i:Hid (DN s.birth):=d;by_cases g:s.kn=8
  ·by_cases j:s.data.toList.isEmpty=true
   ·have H:Hid (IM s):=⟨d,g,j⟩;have k:((s.kn:Int) == 8)=true:=(by simp[g]);clear d g;go_enter Tryz.func158,Tryz.ntmps158;go_wp2_with (go_at_call 186;refine(Gg _ _).mono ?_;rintro e w' ⟨⟨t,rfl,b⟩,rfl⟩;obtain rfl:t=true:=b.2 i.out;clear b);go_ret;exact⟨AJ.yes H.out,f⟩
   ·have H:Hid (¬IM s):=fun h=>j h.2.2
    have k:((s.kn:Int) == 8)=true:=(by simp[g]);have p:s.data.toList.isEmpty=false:=(by simpa using j);clear d g j;go_enter Tryz.func158,Tryz.ntmps158;go_wp2_with (go_at_call 186;refine(Gg _ _).mono ?_;rintro e w' ⟨⟨t,rfl,b⟩,rfl⟩;obtain rfl:t=true:=b.2 i.out;clear b);go_ret;exact⟨AJ.no H.out,f⟩
  ·have H:Hid (¬IM s):=fun h=>g h.2.1
   have k:((s.kn:Int) == 8)=false:=(by simp;omega);clear d g;go_enter Tryz.func158,Tryz.ntmps158;go_wp2_with (go_at_call 186;refine(Gg _ _).mono ?_;rintro e w' ⟨⟨t,rfl,b⟩,rfl⟩;obtain rfl:t=true:=b.2 i.out;clear b);go_ret;exact⟨AJ.no H.out,f⟩
 ·have i:Hid (¬DN s.birth):=d;clear d;go_enter Tryz.func158,Tryz.ntmps158;go_wp2_with (go_at_call 186;refine(Gg _ _).mono ?_;rintro e w' ⟨⟨t,rfl,b⟩,rfl⟩;obtain rfl:t=false:=Bb b i.out;clear b);go_ret;exact⟨AJ.no fun h=>i.out h.1,f⟩
theorem yv(v:Value)(n lo hi:Nat)(f:Nat->Int)(x:Int)(w:World)(z:DC w lo hi v n f) :
 Calls Tryz.prog 183 #[v,.int .i64 x] w fun e w'=>(∃r:Int,e = .returned (.int .i64 r)/\(0<=r↔Has n f x))/\w'=w:=by
 obtain⟨B,a,c,rfl,D,s⟩:=z;unfold maxLen at B;have q:Hid (0<n->∃b off,a=some ⟨b,off,none⟩/\lo<=b/\b<hi/\∀i,i<n->w.cell? ⟨b,off+i,none⟩=some (.int .i64 (f i))):=s;clear s;go_enter Tryz.func183,Tryz.ntmps183;go_wp2
 go_loop [8] (fun i=>∃k:Nat,k<=n/\i = .int .i64 k/\¬Has k f x) (fun i=>n - (intOf i).toNat)
 case atStart=>exact⟨0,Nat.zero_le _,rfl,fun ⟨j,t,_⟩=>absurd t (Nat.not_lt_zero _)⟩
 case round=>
  obtain⟨k,C,rfl,o⟩:=hrel;have g:Hid (¬Has k f x):=o;clear o;by_cases m:k<n
  ·have u:(k:Int)<(n:Int):=(by omega);obtain⟨b,off,rfl,_,_,y⟩:=q.out (by omega);have A:=y k m;clear y q;by_cases d:f k=x
   ·have H:Hid (Has n f x):=⟨k,m,d⟩;have p:(x == f k)=true:=(by simp[d]);clear d;go_wp2;go_ret;exact⟨⟨_,rfl,⟨fun _=>H.out,fun _=>Int.natCast_nonneg _⟩⟩,rfl⟩
   ·have H:Hid (¬f k=x):=d;have p:(x == f k)=false:=(by simp;exact fun e=>d e.symm);clear d;go_wp2
    go_round
    case rel=>
     refine⟨k+1,by omega,by go_num,?_⟩;rintro⟨j,t,l⟩;by_cases e:j=k
     ·subst e;exact H.out l
     ·exact g.out ⟨j,by omega,l⟩
    case measure=>simp[intOf];omega
  ·obtain rfl:k=n:=(by omega);go_wp2;go_ret;exact⟨⟨-1,rfl,⟨fun h=>absurd h (by omega),fun h=>absurd h g.out⟩⟩,rfl⟩
theorem Oj(v:Value)(n lo hi:Nat)(f:Nat->Int)(x:Int)(w:World)(b:DC w lo hi v n f) :
 Calls Tryz.prog 145 #[v,.int .i64 x] w fun e w'=>AJ (Has n f x) e/\w'=w:=by
 have g:Hid (DC w lo hi v n f):=b;obtain⟨j,a,c,rfl,k,i⟩:=b;clear i;go_enter Tryz.func145,Tryz.ntmps145;go_wp2_with fail;refine(yv _ n lo hi f x _ g.out).mono ?_;rintro e w' ⟨⟨r,rfl,d⟩,rfl⟩;have h:Hid (0<=r↔Has n f x):=d;clear d;go_wp2;go_ret;exact⟨⟨_,rfl,by simpa using h.out⟩,rfl⟩
def DR(n:Nat)(f:Nat->AG)(x ps pb:Int):Prop:=
 (0<=x/\x<n/\¬Am (f x.toNat)/\ps=x/\pb=(f x.toNat).birth)\/(¬(0<=x/\x<n/\¬Am (f x.toNat))/\ps=0/\pb=0)
theorem OF(v:Value)(n lo hi:Nat)(f:Nat->AG)(x:Int)(w:World)(r:BU w lo hi v n f) :
 Calls Tryz.prog 160 #[v,.int .i64 x] w fun e w'=>(∃ps y,e = .returned (.agg #[.int .i64 ps,.int .i64 y])/\DR n f x ps y)/\Below w.heap.size w w':=by
 have B:Hid (BU w lo hi v n f):=r;obtain⟨G,a,c,rfl,L,C⟩:=r;unfold maxLen at G;clear C;have g:Hid (Below w.heap.size w (w.alloc (.cells #[.int .i64 0,.int .i64 0] 40))):=A9 _ _;by_cases r:x<0
 ·have H:Hid (DR n f x 0 0):=Or.inr ⟨fun h=>by omega,rfl,rfl⟩;go_enter Tryz.func160,Tryz.ntmps160;go_wp2;refine bodyPost_ret (v:=.agg #[.int .i64 0,.int .i64 0]) (by simp[results,Tryz.results160,go_sem]) rfl ⟨⟨0,0,rfl,H.out⟩,g.out⟩
 ·by_cases K:(n:Int)<=x
  ·have H:Hid (DR n f x 0 0):=Or.inr ⟨fun h=>by omega,rfl,rfl⟩;go_enter Tryz.func160,Tryz.ntmps160;go_wp2;refine bodyPost_ret (v:=.agg #[.int .i64 0,.int .i64 0]) (by simp[results,Tryz.results160,go_sem]) rfl ⟨⟨0,0,rfl,H.out⟩,g.out⟩
  ·obtain⟨k,rfl⟩:=Int.eq_ofNat_of_zero_le (show 0<=x by omega);have D:k<n:=(by omega);have s:(k:Int)<(n:Int):=(by omega);obtain⟨b,off,F,kc,rfl,hs⟩:=B.out.cells D;have q:Hid (Jh w b (off+k*3) lo hi F kc (f k)):=hs;have E:=AM hs.c0;obtain⟨z,q1,A,_⟩:=hs;by_cases j:Am (f k)
   ·have H:Hid (DR n f k 0 0):=Or.inr ⟨fun h=>h.2.2 (by rw[Int.toNat_natCast];exact j),rfl,rfl⟩;have p:Hid (Am (f k)):=j;clear j;go_enter Tryz.func160,Tryz.ntmps160;go_wp2_with fail;refine(ON _ _ _ lo hi (f k) _ (q.out.slot.A1 g.out)).mono ?_;rintro e u ⟨⟨t,rfl,o⟩,d⟩;obtain rfl:t=true:=o.2 p.out;clear o;have l:Hid (Ad u w.heap.size (.int .i64 0) (.int .i64 0)):=(Ad.new w _ _ _).A1 d;have i:=A8 g.out d;clear d z q1 A;obtain⟨⟨y0,y1⟩,⟨I,J⟩⟩:=l.out;go_wp2;have m:=l.out.put (.int .i64 0) (.int .i64 0);refine bodyPost_ret (v:=.agg #[.int .i64 0,.int .i64 0]) (by simp[results,Tryz.results160,go_sem,m.1.1,m.2.1]) rfl ⟨⟨0,0,rfl,H.out⟩,(i.setCell (Nat.le_refl _) _).setCell (Nat.le_refl _) _⟩
   ·have H:Hid (DR n f k k (f k).birth):=Or.inl ⟨by omega,s,by rw[Int.toNat_natCast];exact j,rfl,by rw[Int.toNat_natCast]⟩;have p:Hid (¬Am (f k)):=j;clear j;go_enter Tryz.func160,Tryz.ntmps160;go_wp2_with fail;refine(ON _ _ _ lo hi (f k) _ (q.out.slot.A1 g.out)).mono ?_;rintro e u ⟨⟨t,rfl,o⟩,d⟩;obtain rfl:t=false:=Bb o p.out;clear o;have l:Hid (Ad u w.heap.size (.int .i64 0) (.int .i64 0)):=(Ad.new w _ _ _).A1 d;have i:=A8 g.out d;have M:=(q.out.A1 i).c0;clear d z q1 A;obtain⟨⟨y0,y1⟩,⟨I,J⟩⟩:=l.out;go_wp2;have m:=l.out.put (.int .i64 k) (.int .i64 (f k).birth);refine bodyPost_ret (v:=.agg #[.int .i64 k,.int .i64 (f k).birth]) (by simp[results,Tryz.results160,go_sem,m.1.1,m.2.1]) rfl ⟨⟨_,_,rfl,H.out⟩,(i.setCell (Nat.le_refl _) _).setCell (Nat.le_refl _) _⟩
end Go.Proofs.YtnfjcaoclahfjaaGreatDoor

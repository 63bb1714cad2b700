/- A part of the proof. -/
import Derived.Test.YtibhefllijahkaaGreatDoorF7
import Derived.Test.YtibhefllijahkaaGreatDoorProg
import Derived.KernelRfl
import GoSem.ClaimJoined
import GoSem.ClaimMapViews
import Derived.JoinedTies
import Derived.RowKit
import Derived.Deep.RegionHeld3
import Derived.Deep.QuietTactic
import Derived.BigQuiet
set_option linter.unusedVariables false
set_option maxRecDepth 20000
set_option maxHeartbeats 4000000
namespace Go.Proofs.YtibhefllijahkaaGreatDoor
open Go.RowKit
set_option linter.unusedSimpArgs false
def Dz:Nat->List (Bool×List Tr)->List (Nat×Bool×Av)
 | _,[]=>[]
 | i,q :: r=>(i,true,.m q.1 (q.2.map Tr.cv)) :: Dz (i+1) r
theorem YW:∀{a:List (Bool×List Tr)} {i d:Nat} {x:Bool×Av},get (Dz i a) d=some x->∃j q,d=i+j/\a[j]?=some q/\x=(true,.m q.1 (q.2.map Tr.cv))
 | [],i,d,x,h=>by cases h
 | p :: r,i,d,x,h=>by
  simp only[Dz,get]at h;split at h
  ·rename_i e;cases h;exact⟨0,p,by omega,rfl,rfl⟩
  ·obtain⟨j,q,g,b,c⟩:=YW h;exact⟨j+1,q,by omega,by simpa using b,c⟩
variable{w:World}{E:En}{D:Nat->Prop}
theorem zGO{l:List Tr}{cs:List Value}(h:AN (Sh w E.g) l cs):CsR w E D (l.map Tr.cv) cs:=by
 induction h with
 | nil=>exact AN.nil
 | cons h1 _ ih=>exact AN.cons h1.cv ih
variable{ys xs:List Value}
theorem Q8{b:List (Bool×List Tr)}(h:AN (FQ w E.g) b ys){i:Nat}{l:List Value}(x:l.drop i=ys ++ xs){a:Act}(u:a.tmps=l.toArray):TmR w E D (Dz i b) a:=by
 intro d c z v;obtain⟨j,q,r,s,t⟩:=YW v;subst r;cases t;obtain⟨y,p,m⟩:=h.at s;have e:a.tmps.getD (i+j) undef=y:=by
  have n:=(List.getElem?_eq_some_iff.1 p).1;have o:(l.drop i)[j]?=some y:=(by rw[x,List.getElem?_append_left n];exact p);rw[List.getElem?_drop]at o;rw[u,Array.getD_eq_getD_getElem?,List.getElem?_toArray,o];rfl
 refine⟨fun _=>?_,fun k=>by cases k⟩;rw[e];obtain⟨g,l⟩:=q;cases g with
 | true=>obtain⟨cs,e,k⟩:=m;exact⟨cs,e,zGO k⟩
 | false=>obtain⟨T,e,k⟩:=m;simp only at e;subst e;exact⟨_,rfl,Sh.cv k⟩
variable{a:List (Bool×List Tr)}{N:Nat}
theorem TS{g0:Nat->Bs}(h:AN (FQ w g0) a ys)(c:a.length<=N):Rel w ⟨g0,none⟩ N ⟨Dz 0 a,[]⟩ ⟨ys.toArray ++ Array.replicate (N - ys.toArray.size) undef,[]⟩ w:=by
 have d:=h.length;refine⟨⟨g0,fun _=>0,fun _=>.bool false⟩,Kp.refl _ _,Q8 (E:=⟨g0,fun _=>0,fun _=>.bool false⟩) h (l:=ys ++ List.replicate (N - ys.length) undef) (xs:=List.replicate (N - ys.length) undef) (by simp) (by apply Array.ext';simp),fun i o hi=>(by cases hi),rfl,(by simp;omega),fun B b=>by cases b⟩
variable{vs:List Tr}
theorem zFY(q:AR w E (Fz vs))(h:AN (FQ w E.g) a ys)(r:1+a.length<=N):Rel w ⟨E.g,some (E.bl 0)⟩ N ⟨(0,true,.m false [.p 0 0]) :: Dz 1 a,Fz vs⟩ ⟨(.pointer (some ⟨E.bl 0,0,none⟩) :: ys).toArray ++ Array.replicate (N - (.pointer (some ⟨E.bl 0,0,none⟩) :: ys).toArray.size) undef,[]⟩ w:=by
 have s:=h.length;have j:dom (Fz vs) 0:=by unfold dom Fz;simp only[get,if_pos];rfl
 have e:(.pointer (some ⟨E.bl 0,0,none⟩) :: ys).toArray ++ Array.replicate (N - (.pointer (some ⟨E.bl 0,0,none⟩) :: ys).toArray.size) undef=((.pointer (some ⟨E.bl 0,0,none⟩) :: (ys ++ List.replicate (N - (ys.length+1)) undef)):List Value).toArray:=by apply Array.ext';simp
 refine⟨E,Kp.refl _ _,fun d c k b=>?_,q,rfl,(by simp;omega),fun B n=>by cases n;exact⟨j,rfl⟩⟩;simp only[get]at b;split at b
 ·rename_i e0
  subst e0;cases b;refine⟨fun _=>?_,fun o=>by cases o⟩;rw[e];exact av1 ⟨j,rfl⟩
 ·exact Q8 h (i:=1) (l:=.pointer (some ⟨E.bl 0,0,none⟩) :: (ys ++ List.replicate (N - (ys.length+1)) undef)) (xs:=List.replicate (N - (ys.length+1)) undef) (by simp) e d c k b
theorem zFX{y:Value}(r:AR w E (DL 0 vs))(h:AN (FQ w E.g) a ys)(j:VlR w E (dom (DL 0 vs)) true (Ck 0 0 vs) y)(s:a.length+1<=N) :
 Rel w ⟨E.g,none⟩ N ⟨(a.length,true,.m true (Ck 0 0 vs)) :: Dz 0 a,DL 0 vs⟩ ⟨(ys ++ [y]).toArray ++ Array.replicate (N - (ys ++ [y]).toArray.size) undef,[]⟩ w:=by
 have q:=h.length;have e:(ys ++ [y]).toArray ++ Array.replicate (N - (ys ++ [y]).toArray.size) undef=(ys ++ (y :: List.replicate (N - (ys.length+1)) undef):List Value).toArray:=by apply Array.ext';simp
 refine⟨E,Kp.refl _ _,fun d c k b=>?_,r,rfl,(by simp;omega),fun B o=>by cases o⟩;simp only[get]at b;split at b
 ·rename_i e0
  subst e0;cases b;refine⟨fun _=>?_,fun p=>by cases p⟩;have n:(⟨(ys ++ [y]).toArray ++ Array.replicate (N - (ys ++ [y]).toArray.size) undef,[]⟩:Act).tmps.getD a.length undef=y:=by
   rw[e,q];simp[Array.getD_eq_getD_getElem?]
  rw[n];exact j
 ·exact Q8 h (i:=0) (l:=ys ++ (y :: List.replicate (N - (ys.length+1)) undef)) (xs:=y :: List.replicate (N - (ys.length+1)) undef) (by simp) e d c k b
def resCv(T:Tb)(S:St):List ResultVar->Option (List (Bool×List Cv))
 | []=>some []
 | .tmp t :: r=>match get S.tm t,resCv T S r with
  | some (true,.m g l),some q=>some ((g,l) :: q)
  | _,_=>none
 | .cell t ty :: r=>match get S.tm t,T.ty ty,resCv T S r with
  | some (true,.m false [.p i o]),some d,some q=>match evLoad d S.ob (.p i o)with
   | some (_,.m g l)=>some ((g,l) :: q)
   | _=>none
  | _,_,_=>none
def LL(tmps:Array Value):ResultVar->Sem Value
 | .tmp t=>pure (tmps.getD t undef)
 | .cell a t=>do loadVar t (<-asAddr (tmps.getD a undef))
theorem Kt{P:Program}{T:Tb}(m:DI P T){w0:World}{g0:Gh}{N:Nat}{S:St}{a:Act}{w:World}{E:En}(h:FS w0 g0 N S a w E):∀{rv:List ResultVar} {q:List (Bool×List Cv)},resCv T S rv=some q->
 ∃vs:List Value,(rv.mapM (LL a.tmps)).run P w = .ok vs w/\AN (fun (q:Bool×List Cv) u=>VlR w E (dom S.ob) q.1 q.2 u) q vs
 | [],q,hq=>by cases hq;exact⟨[],by simp,.nil⟩
 | .tmp t :: r,q,hq=>by
  simp only[resCv]at hq;split at hq
  ·rename_i g l q' hg hr
   cases hq;obtain⟨vs,e,j⟩:=Kt m h hr;have b:=(h.tm t _ _ hg).1 rfl;exact⟨a.tmps.getD t undef :: vs,by simp[List.mapM_cons,e,LL],.cons b j⟩
  ·cases hq
 | .cell t ty :: r,q,hq=>by
  simp only[resCv]at hq;split at hq
  ·rename_i i o d q' hg hd hr
   split at hq
   ·rename_i c g l hl
    cases hq;obtain⟨vs,e,j⟩:=Kt m h hr;have b:=vl1 ((h.tm t _ _ hg).1 rfl);have v:c:=by
     simp only[evLoad]at hl;split at hl
     ·split at hl
      ·cases hl;trivial
      ·cases hl
     ·cases hl
    obtain⟨z,n,p⟩:=Vl (m.ok _ _ hd) h.ob hl v b;refine⟨z :: vs,?_,.cons p j⟩;have s:(LL a.tmps (.cell t ty)).run P w = .ok z w:=by
     simp only[LL];rw[b.2];have k:=n;rw[b.2]at k;unfold Instr.loadAt at k;simpa[Instr.sureAddr,asAddr]using k
    rw[List.mapM_cons];simp[s,e]
   ·cases hq
  ·cases hq
def cellM(ob:List (Nat×Ob)):Cv->Tr->Prop
 | .v x,.v y=>x=y
 | .v x,.s .o k n f=>x = .slice none 0 0/\n=0
 | .h i,.s .o k n f=>match get ob i with
  | some (.row k' n' f')=>TrE (.s .o k' n' f') (.s .o k n f)/\(Tr.s .o k n f).kept
  | _=>False
 | .s fl k n f,.s .z k' n' f'=>fl≠.b/\TrE (.s .z k n f) (.s .z k' n' f')/\(Tr.s .z k' n' f').kept
 | _,_=>False
def Lh(ob:List (Nat×Ob)):List Cv->List Tr->Prop
 | [],[]=>True
 | x :: r,y :: s=>cellM ob x y/\Lh ob r s
 | _,_=>False
def JH(ob:List (Nat×Ob)):List (Bool×List Cv)->List (Bool×List Tr)->Prop
 | [],[]=>True
 | x :: r,y :: s=>x.1=y.1/\Lh ob x.2 y.2/\JH ob r s
 | _,_=>False
def Mr:Nat->List Cv->List (Nat×Nat)
 | _,[]=>[]
 | n,.h i :: r=>(i,n) :: Mr (n+1) r
 | n,_ :: r=>Mr (n+1) r
def Eo:Nat->List (Bool×List Cv)->List (Nat×Nat)
 | _,[]=>[]
 | n,q :: r=>Mr n q.2 ++ Eo (n+q.2.length) r
def Ret(T:Tb)(rv:List ResultVar)(S:St)(rs:List (Bool×List Tr)):Prop:=
 match resCv T S rv with
 | some q=>JH S.ob q rs/\E4 ((Eo 0 q).map (·.1))=true
 | none=>False
def RetP(T:Tb)(rv:List ResultVar)(S:St)(rs:List (Bool×List Tr)):Prop:=
 match get S.ob 0,resCv T S rv with
 | some (.var l),some q=>JH S.ob ((true,l) :: q) rs/\E4 (0 :: (Eo 1 ((true,l) :: q)).map (·.1))=true
 | _,_=>False
def RetN(T:Tb)(rv:List ResultVar)(S:St)(rs:List (Bool×List Tr)):Prop:=
 match resCv T S rv with
 | some [(false,[.p i 0])]=>match get S.ob i with
  | some (.var l)=>JH S.ob [(true,l)] rs/\E4 (i :: (Eo 1 [(true,l)]).map (·.1))=true
  | _=>False
 | _=>False
def Bs.ren(r:Nat->Nat):Bs->Bs
 | .ow (.nm j) lim=>.ow (.nm (r j)) lim
 | s=>s
variable{r:Nat->Nat}
theorem Bs.ren_ok{s:Bs}{fl:Fl}{e:Nat}(h:s.ok fl e):(s.ren r).ok fl e:=by
 cases s with
 | fz x=>exact h
 | ow o lim=>cases o<;>exact h
theorem Kp.ren{w':World}{g g':Nat->Bs}(h:Kp w g w' g'):Kp w g w' (fun b=>(g' b).ren r):=by
 refine⟨h.os,h.tape,h.output,h.size,fun b x d e=>?_,fun b o k d e=>?_⟩
 ·obtain⟨c,a⟩:=h.fz b x d e;exact⟨c,by simp only[a,Bs.ren]⟩
 ·obtain⟨c,⟨o',m,a,l⟩ | a⟩:=h.ow b o k d e
  ·refine⟨c,.inl ?_⟩;cases o' with
   | nm i=>exact⟨.nm (r i),m,by simp only[a,Bs.ren],l⟩
   | tl b j=>exact⟨.tl b j,m,by simp only[a,Bs.ren],l⟩
  ·exact⟨c,.inr (by simp only[a,Bs.ren])⟩
section
variable {w : World} {E : En} {ob : List (Nat × Ob)}
theorem zFA(R:AR w E ob){x:Cv}{y:Tr}{u:Value}(h:cellM ob x y)(q:CvR w E (dom ob) x u){n:Nat}(S:∀i,x = .h i->r i=n):NT w (fun b=>(E.g b).ren r) n y u:=by
 have A:∀b fl e,(E.g b).ok fl e->((E.g b).ren r).ok fl e:=fun b fl e h=>Bs.ren_ok h
 cases x with
 | v x=>
  cases y with
  | v y=>cases h;exact q
  | s fl k n f=>
   cases fl<;>simp only[cellM]at h
   obtain⟨rfl,rfl⟩:=h;exact⟨none,0,q.1,Nat.le_refl _,fun F=>by omega⟩
 | h i=>
  cases y with
  | v y=>exact h.elim
  | s fl k m f=>
   cases fl<;>simp only[cellM]at h
   split at h
   ·rename_i U n' f' hi
    obtain⟨⟨-,rfl,rfl,H⟩,l⟩:=h;obtain⟨a,cap,hv,hn,N⟩:=R _ _ hi;refine⟨a,cap,q.2.1.trans hv,hn,fun F=>?_⟩;obtain⟨L,O,c,t,P,Q,d⟩:=N F;refine⟨_,L,?_,c,t,P,Q,fun p j C B=>?_⟩
    ·show(E.g (E.bl i)).ren r=_;rw[O];simp only[Bs.ren,S i rfl]
    ·obtain⟨u,q,hs,T⟩:=d p j C B;exact⟨u,q,(hs.e (H p j C B)).okm A,l.2 p j C B,(T.e (H p j C B) hs).ext (fun b V M _=>⟨rfl,by show(E.g b).ren r=_;rw[M];rfl⟩)⟩
   ·exact h.elim
 | s fl k m f=>
  cases y with
  | v y=>exact h.elim
  | s fl' U n' f'=>
   cases fl'<;>simp only[cellM]at h
   obtain⟨I,J,K⟩:=h;refine⟨(Sh.e J ?_).okm A,K⟩;have G:=Sh.cv (E:=E) (D:=dom ob) q;cases fl with
   | b=>exact absurd rfl I
   | z=>exact G
   | o=>exact G
 | _=>cases y<;>exact h.elim
theorem XU(a:AR w E ob){r:Nat->Nat}:∀{l:List Cv} {m:List Tr} {us:List Value} {n:Nat},Lh ob l m->CsR w E (dom ob) l us->(∀q∈Mr n l,r q.1=q.2)->O0 w (fun b=>(E.g b).ren r) n m us
 | [],[],us,n,h,hu,hr=>by cases hu;rfl
 | x :: l,y :: m,us,n,h,hu,hr=>by
  cases hu with
  | cons h1 t=>
   refine⟨_,_,rfl,zFA a h.1 h1 (fun i e=>by subst e;exact hr (i,n) (List.mem_cons_self ..)),XU a h.2 t (fun q c=>hr q ?_)⟩;cases x<;>first | exact c | exact List.mem_cons_of_mem _ c
 | [],_ :: _,us,n,h,hu,hr=>h.elim
 | _ :: _,[],us,n,h,hu,hr=>h.elim
theorem YF:∀{l:List Cv} {m:List Tr},Lh ob l m->l.length=m.length
 | [],[],_=>rfl
 | x :: l,y :: m,h=>by simp[YF h.2]
 | [],_ :: _,h=>h.elim
 | _ :: _,[],h=>h.elim
theorem M9(i:AR w E ob){r:Nat->Nat}:∀{q:List (Bool×List Cv)} {rs:List (Bool×List Tr)} {vs:List Value} {n:Nat},JH ob q rs->AN (fun (q:Bool×List Cv) u=>VlR w E (dom ob) q.1 q.2 u) q vs->(∀p∈Eo n q,r p.1=p.2)->JZ w (fun b=>(E.g b).ren r) n rs vs
 | [],[],vs,n,h,hv,hr=>by cases hv;rfl
 | x :: q,y :: rs,vs,n,h,hv,hr=>by
  cases hv with
  | @cons _ v _ vs' a t=>
   obtain⟨e,d,j⟩:=h;have k:=YF d;refine⟨v,vs',v.cells.toList,rfl,?_,XU i d (VlR.cells a) (fun p c=>hr p (List.mem_append_left _ c)),?_⟩
   ·rw[<-e];obtain⟨g,l⟩:=x;cases g with
    | true=>obtain⟨cs,rfl,_⟩:=a;simp[La,Value.cells]
    | false=>
     obtain⟨x,_,m⟩:=a;have a:=m.one;have:v.cells=#[v]:=by cases v<;>first | rfl | (simp[Value.oneCell']at a)
     simp[La,this]
   ·rw[<-k];exact M9 i j t (fun p c=>hr p (List.mem_append_right _ c))
 | [],_ :: _,vs,n,h,hv,hr=>h.elim
 | _ :: _,[],vs,n,h,hv,hr=>h.elim
end
theorem No{ob:List (Nat×Ob)}:∀{q:List (Bool×List Cv)} {rs:List (Bool×List Tr)},JH ob q rs->q.length=rs.length
 | [],[],_=>rfl
 | x :: q,y :: rs,h=>by simp[No h.2.2]
 | [],_ :: _,h=>h.elim
 | _ :: _,[],h=>h.elim
theorem Ot{P:Program}{fn:Func}{rv:Array ResultVar}(a:fn.results=rv){tmps:Array Value}{vs:List Value}(h:(rv.toList.mapM (LL tmps)).run P w = .ok vs w):(results fn tmps).run P w = .ok (if h:vs.toArray.size=1 then vs.toArray[0] else .tuple vs.toArray) w:=by
 have e:results fn tmps=(do let vs <-fn.results.mapM (LL tmps);pure (if h:vs.size=1 then vs[0] else .tuple vs)):=rfl;rw[e,a,Array.mapM_eq_mapM_toList];simp only[Sem.run_bind,Sem.run_map,h];rfl
section
variable {P : Program} {T : Tb} {Γ : List (Nat × AE)} {f : Nat} {fn : Func} {body : Code} {N : Nat} {rv : Array ResultVar}
variable{sp:AE}
theorem ZI(B:DI P T)(hΓ : ∀g0,(∀b,∃r,g0 b = .fz r)->Gq P Γ w ⟨g0,none⟩)(u:P.follows .mixedOrders=true)(I:P.funcs[f]?=some fn)(G:fn.body=some body)(F:fn.ntmps=N)(z:fn.results=rv)(n:Nat)
 (h:∀k c rs,sp k=some (c,rs)->c->k.length<=N/\ev N T Γ n body ⟨Dz 0 k,[]⟩ (fun e S=>match e with
  | .ret=>Ret T rv.toList S rs
  | .normal=>Ret T rv.toList S rs
  | _=>False)):Fk P f sp w:=by
 intro k c rs A H g0 M L K;obtain⟨t,x⟩:=h k c rs A H;refine calls_of_wp I G ?_;rw[F];refine wp_mono (GQ B (hΓ g0 L) u x (TS K t)) ?_;have s:∀S a w',Ret T rv.toList S rs->Rel w ⟨g0,none⟩ N S a w'->a.defers = []/\∃v,(results fn a.tmps).run P w' = .ok v w'/\∃C g,Ending.returned v = .returned C/\Kp w g0 w' g/\Gr w' g rs C:=by
  intro S a w' j ⟨E,hE⟩;unfold Ret at j;split at j
  ·rename_i q o
   obtain⟨u,y⟩:=j;obtain⟨vs,l,m⟩:=Kt B hE o;have D:=M9 hE.ob (r:=fun i=>(get (Eo 0 q) i).getD 0) (n:=0) u m (fun p J=>by rw[J7 y J];rfl);have d:vs.length=rs.length:=m.length.symm.trans (No u);refine⟨hE.df,_,Ot z l,_,_,rfl,hE.kp.ren,vs,D,?_⟩
   match rs,d with
   | [r],d=>
    match vs,d with
    | [v],_=>rfl
   | [],d=>
    match vs,d with
    | [],_=>rfl
   | r1 :: r2 :: rr,d=>
    match vs,d with
    | v1 :: v2 :: vv,_=>simp
  ·exact j.elim
 intro e a w' o;cases e with
 | normal=>obtain⟨S,l,m⟩:=o;exact s S a w' l m
 | ret=>obtain⟨S,l,m⟩:=o;exact s S a w' l m
 | exit i=>obtain⟨S,l,m⟩:=o;exact l.elim
 | _=>exact o.elim
theorem zBv(F:DI P T)(hΓ : GOk P Γ)(u:P.follows .mixedOrders=true)(L:P.funcs[f]?=some fn)(J:fn.body=some body)(I:fn.ntmps=N)(A:fn.results=rv)(n:Nat)
 (h:∀vs j c rs,sp (j ++ [(true,vs)])=some (c,rs)->c->j.length+1<=N/\ev N T Γ n body ⟨(j.length,true,.m true (Ck 0 0 vs)) :: Dz 0 j,DL 0 vs⟩ (fun e S=>match e with
  | .ret=>Ret T rv.toList S rs
  | .normal=>Ret T rv.toList S rs
  | _=>False)):NQ P f sp:=by
 intro w vs j c rs B K D R y M Q C;obtain⟨t,x⟩:=h vs j c rs B K;refine calls_of_wp L J ?_;rw[I];refine wp_mono (GQ F (fun w _ _=>hΓ w) u x (zFX M Q C t)) ?_;have s:∀S a w',Ret T rv.toList S rs->Rel w ⟨D.g,none⟩ N S a w'->a.defers = []/\∃v,(results fn a.tmps).run P w' = .ok v w'/\∃G g,Ending.returned v = .returned G/\Kp w D.g w' g/\Gr w' g rs G:=by
  intro S a w' d ⟨E,hE⟩;unfold Ret at d;split at d
  ·rename_i q o
   obtain⟨u,z⟩:=d;obtain⟨vs,k,l⟩:=Kt F hE o;have H:=M9 hE.ob (r:=fun i=>(get (Eo 0 q) i).getD 0) (n:=0) u l (fun p O=>by rw[J7 z O];rfl);have b:vs.length=rs.length:=l.length.symm.trans (No u);refine⟨hE.df,_,Ot A k,_,_,rfl,hE.kp.ren,vs,H,?_⟩
   match rs,b with
   | [r],b=>
    match vs,b with
    | [v],_=>rfl
   | [],b=>
    match vs,b with
    | [],_=>rfl
   | r1 :: r2 :: rr,b=>
    match vs,b with
    | v1 :: v2 :: vv,_=>simp
  ·exact d.elim
 intro e a w' o;cases e with
 | normal=>obtain⟨S,k,l⟩:=o;exact s S a w' k l
 | ret=>obtain⟨S,k,l⟩:=o;exact s S a w' k l
 | exit i=>obtain⟨S,k,l⟩:=o;exact k.elim
 | _=>exact o.elim
theorem zBw(L:DI P T)(hΓ : GOk P Γ)(C:P.follows .mixedOrders=true)(X:P.funcs[f]?=some fn)(V:fn.body=some body)(U:fn.ntmps=N)(J:fn.results=rv)(n:Nat)
 (h:∀vs k c rs,sp ((true,vs) :: k)=some (c,rs)->c->1+k.length<=N/\ev N T Γ n body ⟨(0,true,.m false [.p 0 0]) :: Dz 1 k,Fz vs⟩ (fun e S=>match e with
  | .ret=>RetP T rv.toList S rs
  | .normal=>RetP T rv.toList S rs
  | _=>False)):Cy P f sp:=by
 intro w vs k c rs K W E ys Y Z;obtain⟨A,H⟩:=h vs k c rs K W;refine calls_of_wp X V ?_;rw[U];refine wp_mono (GQ L (fun w _ _=>hΓ w) C H (zFY Y Z A)) ?_;have x:∀S a w',RetP T rv.toList S rs->Rel w ⟨E.g,some (E.bl 0)⟩ N S a w'->a.defers = []/\∃v,(results fn a.tmps).run P w' = .ok v w'/\∃M g,Ending.returned v = .returned M/\Kp w E.g w' g/\yu w' g (E.bl 0) rs M:=by
  intro S a w' d ⟨O,hE⟩;unfold RetP at d;split at d
  ·rename_i l q h0 u
   obtain⟨C,o⟩:=d;simp only[E4,Bool.and_eq_true,Bool.not_eq_true']at o;obtain⟨B,o⟩:=o;obtain⟨j,s,t⟩:=Kt L hE u;obtain⟨z,cs,Q,y,G⟩:=hE.ob 0 _ h0;have F:=(hE.b0 _ rfl).2;rw[F]at z y;have I:∀p∈Eo 1 ((true,l) :: q),p.1≠0:=fun p D e=>by
    have:((Eo 1 ((true,l) :: q)).map (·.1)).contains 0=true:=by
     rw[List.contains_iff_mem];exact List.mem_map.2 ⟨p,D,e⟩
    rw[this]at B;cases B
   have R:=M9 hE.ob (r:=fun i=>if i=0 then 0 else(get (Eo 1 ((true,l) :: q)) i).getD 0) (n:=1) (q:=(true,l) :: q) (vs:=.agg cs.toArray :: j) C (.cons ⟨cs,rfl,G⟩ t) (fun p D=>by rw[if_neg (I p D),J7 o D];rfl);have b:j.length+1=rs.length:=by
    have:=No C;have:=t.length;simp at *;omega
   refine⟨hE.df,_,Ot J s,_,_,rfl,hE.kp.ren,cs,Q,j,y,?_,R,?_⟩
   ·show(O.g (E.bl 0)).ren _=_;rw[z];simp[Bs.ren]
   ·match rs,b with
    | [_,_],b=>
     match j,b with
     | [v],_=>rfl
    | [_],b=>
     match j,b with
     | [],_=>rfl
    | r0 :: r1 :: r2 :: rr,b=>
     match j,b with
     | v1 :: v2 :: vv,_=>simp
  ·exact d.elim
 intro e a w' u;cases e with
 | normal=>obtain⟨S,s,t⟩:=u;exact x S a w' s t
 | ret=>obtain⟨S,s,t⟩:=u;exact x S a w' s t
 | exit i=>obtain⟨S,s,t⟩:=u;exact s.elim
 | _=>exact u.elim
theorem zBu(K:DI P T)(hΓ : GOk P Γ)(G:P.follows .mixedOrders=true)(V:P.funcs[f]?=some fn)(R:fn.body=some body)(Q:fn.ntmps=N)(I:fn.results=rv)(n:Nat)
 (h:∀d c rs,sp d=some (c,rs)->c->d.length<=N/\ev N T Γ n body ⟨Dz 0 d,[]⟩ (fun e S=>match e with
  | .ret=>RetN T rv.toList S rs
  | .normal=>RetN T rv.toList S rs
  | _=>False)):NP P f sp:=by
 intro w d c cells J U g0 ys Z X;obtain⟨u,D⟩:=h d c _ J U;refine calls_of_wp V R ?_;rw[Q];refine wp_mono (GQ K (fun w _ _=>hΓ w) G D (TS X u)) ?_;have t:∀S a w',RetN T rv.toList S [(true,cells)]->Rel w ⟨g0,none⟩ N S a w'->a.defers = []/\∃v,(results fn a.tmps).run P w' = .ok v w'/\∃B g,Ending.returned v = .returned (.pointer (some ⟨B,0,none⟩))/\Kp w g0 w' g/\∃(cs:List Value) (T:TypeId),w'.heap[B]?=some (.cells cs.toArray T (0,0))/\g B = .ow (.nm 0) 0/\JZ w' g 1 [(true,cells)] [.agg cs.toArray]:=by
  intro S a w' b ⟨E,hE⟩;unfold RetN at b;split at b
  ·rename_i i s
   split at b
   ·rename_i l h0
    obtain⟨G,k⟩:=b;simp only[E4,Bool.and_eq_true,Bool.not_eq_true']at k;obtain⟨y,k⟩:=k;obtain⟨Y,m,o⟩:=Kt K hE s;obtain⟨F,cs,L,A,C⟩:=hE.ob i _ h0;have H:∀p∈Eo 1 [(true,l)],p.1≠i:=fun p z e=>by
     have:((Eo 1 [(true,l)]).map (·.1)).contains i=true:=by
      rw[List.contains_iff_mem];exact List.mem_map.2 ⟨p,z,e⟩
     rw[this]at y;cases y
    have O:=M9 hE.ob (r:=fun j=>if j=i then 0 else(get (Eo 1 [(true,l)]) j).getD 0) (n:=1) (q:=[(true,l)]) (vs:=[.agg cs.toArray]) G (.cons ⟨cs,rfl,C⟩ .nil) (fun p z=>by rw[if_neg (H p z),J7 k z];rfl);cases o with
    | cons k1 k2=>
     cases k2;obtain⟨x,M,W⟩:=k1;cases M;obtain⟨-,rfl⟩:=W;refine⟨hE.df,_,Ot I m,E.bl i,_,rfl,hE.kp.ren,cs,L,A,?_,O⟩;show(E.g (E.bl i)).ren _=_;rw[F];simp[Bs.ren]
   ·exact b.elim
  ·exact b.elim
 intro e a w' s;cases e with
 | normal=>obtain⟨S,m,o⟩:=s;exact t S a w' m o
 | ret=>obtain⟨S,m,o⟩:=s;exact t S a w' m o
 | exit i=>obtain⟨S,m,o⟩:=s;exact m.elim
 | _=>exact s.elim
theorem zBL(g:DI P T)(hΓ : GOk P Γ)(k:P.follows .mixedOrders=true)(j:P.funcs[f]?=some fn)(i:fn.body=some body)(d:fn.ntmps=N)(b:fn.results=rv)(n:Nat)
 (h:∀a c rs,sp a=some (c,rs)->c->a.length<=N/\ev N T Γ n body ⟨Dz 0 a,[]⟩ (fun e S=>match e with
  | .ret=>Ret T rv.toList S rs
  | .normal=>Ret T rv.toList S rs
  | _=>False)):Ae P f sp:=fun w=>ZI g (fun _ _ w _ _=>hΓ w) k j i d b n h
end
abbrev i0:Value:=.int .i64 0
abbrev n0:Value:=.slice none 0 0
abbrev e0:Value:=.string ⟨#[]⟩
def tyT:Nat->Option TyD
 | 2=>some ⟨1,false,[i0],8,[],0⟩
 | 3=>some ⟨1,false,[i0],8,[],0⟩
 | 4=>some ⟨1,false,[.bool false],1,[],0⟩
 | 5=>some ⟨1,false,[.int .u8 0],1,[],0⟩
 | 9=>some ⟨1,false,[e0],16,[],0⟩
 | 23=>some ⟨1,false,[n0],24,[],75⟩
 | 24=>some ⟨1,false,[n0],24,[],2⟩
 | 39=>some ⟨1,false,[n0],24,[],38⟩
 | 27=>some ⟨1,false,[n0],24,[],44⟩
 | 28=>some ⟨1,false,[n0],24,[],41⟩
 | 103=>some ⟨1,false,[n0],24,[],4⟩
 | 38=>some ⟨2,true,[i0,i0],16,[(0,1),(1,1)],0⟩
 | 75=>some ⟨3,true,[i0,n0,e0],48,[(0,1),(1,1),(2,1)],0⟩
 | 26=>some ⟨2,true,[n0,n0],48,[(0,1),(1,1)],0⟩
 | 30=>some ⟨6,true,[n0,n0,i0,i0,n0,n0],112,[(0,2),(2,1),(3,1),(4,1),(5,1)],0⟩
 | 44=>some ⟨6,true,[e0,i0,i0,i0,i0,n0],72,[(0,1),(1,1),(2,1),(3,2),(5,1)],0⟩
 | 41=>some ⟨8,true,[i0,e0,e0,i0,i0,i0,i0,n0],96,[(0,1),(1,1),(2,1),(3,1),(4,1),(5,2),(7,1)],0⟩
 | 116=>some ⟨1,false,[.int .u64 0],8,[],0⟩
 | 22=>some ⟨1,false,[n0],24,[],5⟩
 | 52=>some ⟨1,false,[n0],24,[],9⟩
 | 205=>some ⟨6,true,[n0,n0,i0,i0,n0,i0],96,[(0,2),(2,2),(4,1),(5,1)],0⟩
 | 118=>some ⟨4,true,[n0,i0,.int .u64 0,i0],48,[(0,1),(1,1),(2,1),(3,1)],0⟩
 | 34=>some ⟨9,true,[n0,n0,i0,i0,n0,n0,i0,i0,i0],136,[(0,6),(6,1),(7,1),(8,1)],0⟩
 | _=>none
def ikT:Nat->Option IntKind
 | 2=>some .i64
 | 3=>some .i64
 | 5=>some .u8
 | 116=>some .u64
 | _=>none
def tb:Tb:=⟨tyT,4,38,9,39,27,22,5,ikT⟩
theorem zIx:∀t d,tyT t=some d->B1 Tryz.prog t d:=by
 intro t d h;unfold tyT at h;split at h<;>first
  | (cases h;exact⟨by kernel_rfl,by kernel_rfl,rfl,rfl,rfl,fun _=>rfl,by decide,by decide,by kernel_rfl⟩)
  | (cases h;exact⟨by kernel_rfl,by kernel_rfl,rfl,rfl,rfl,fun h=>(by cases h),by decide,by decide,by kernel_rfl⟩)
  | (cases h;done)
theorem Ah:DI Tryz.prog tb:=by
 refine⟨zIx,by kernel_rfl,by kernel_rfl,?_,by kernel_rfl,by kernel_rfl,by kernel_rfl,?_⟩;rotate_left
 ·intro t k h;simp only[tb,ikT]at h;split at h<;>first
   | (cases h;kernel_rfl)
   | (cases h;done)
 intro a b c d w;show(Op.equalIn (9998+1+1) 38 (.agg #[.int .i64 a,.int .i64 b]) (.agg #[.int .i64 c,.int .i64 d])).run Tryz.prog w=_;rw[Op.equalIn];simp[go_sem];by_cases h:a=c<;>by_cases e:b=d<;>simp[h,e]
theorem mixed:Tryz.prog.follows .mixedOrders=true:=by kernel_rfl
def AG(P:Prop)(e:Ending):Prop:=∃b:Bool,e = .returned (.bool b)/\(b=true↔P)
theorem AG.yes{P:Prop}(h:P):AG P (.returned (.bool true)):=⟨true,rfl,by simp[h]⟩
theorem AG.no{P:Prop}(h:¬P):AG P (.returned (.bool false)):=⟨false,rfl,by simp[h]⟩
variable{n:Nat}
theorem Bf{k:Nat}{P:Nat->Prop}(b:k<n)(h:∀i,i<k->P i)(a:P k):∀i,i<k+1->P i:=fun i hi=>by
 by_cases e:i=k
 ·subst e;exact a
 ·exact h i (by omega)
variable{w':World}
theorem K7{B:Nat}(h:Below B w w')(n:Nat):Below B w (w'.drewN n):=⟨h.os,h.tape,h.output,h.size,h.block⟩
variable{s t:ByteArray}
theorem Lb(h:s=t):(s.toList == t.toList)=true:=by simp[h]
theorem KY(h:¬s=t):(s.toList == t.toList)=false:=by
 rw[beq_eq_false_iff_ne];intro e;rw[Go.ByteArray.toList_eq,Go.ByteArray.toList_eq]at e;apply h;cases s;cases t;simp only[ByteArray.mk.injEq]at *;exact Array.toList_inj.1 e
variable{w1:World}
theorem Cp(h:Below w.drew.heap.size w.drew w1):Below w.heap.size w w1:=⟨h.os,h.tape,h.output,h.size,h.block⟩
theorem RM{wr:World}(a:Below w.heap.size w wr)(b:Below wr.drew.heap.size wr.drew w1):Below w.heap.size w w1:=
 a.drew.trans (b.mono a.size)
theorem A7{wr:World}(a:Below w.heap.size w wr)(b:Below wr.heap.size wr w1):Below w.heap.size w w1:=
 a.trans (b.mono a.size)
structure AD where
 birth:Int
 kn:Nat
 ks:Nat->Int
 kb:Nat->Int
 data:ByteArray
structure A8 where
 n:Nat
 s:Nat->AD
 hn:Nat
 h:Nat->Int
def JX(a b c d:Int):Prop:=a=c/\b=d
def Lq(lo hi:Nat)(w w':World):Prop:=∀k,lo<=k->k<hi->w'.heap[k]?=w.heap[k]?
variable{lo hi b o:Nat}
theorem Lq.cell(h:Lq lo hi w w')(a:lo<=b)(c:b<hi):w'.cell? ⟨b,o,none⟩=w.cell? ⟨b,o,none⟩:=
 World.cell?_of_block (w:=w) (h b a c)
variable{v:Value}
theorem AZ(h:w.cell? ⟨b,o,none⟩=some v):b<w.heap.size:=by
 simp only[World.cell?]at h;by_cases a:b<w.heap.size
 ·exact a
 ·rw[Array.getElem?_eq_none (by omega)]at h;simp at h
def ED(w:World)(lo hi:Nat)(v:Value)(n:Nat)(f:Nat->Int):Prop:=
 n<=maxLen/\∃a cap,v = .slice a n cap/\n<=cap/\(0<n->∃b off,a=some ⟨b,off,none⟩/\lo<=b/\b<hi/\∀i,i<n->w.cell? ⟨b,off+i,none⟩=some (.int .i64 (f i)))
def B4(w:World)(lo hi:Nat)(v:Value)(n:Nat)(fs fb:Nat->Int):Prop:=
 n<=maxLen/\∃a cap,v = .slice a n cap/\n<=cap/\(0<n->∃b off,a=some ⟨b,off,none⟩/\lo<=b/\b<hi/\∀i,i<n->w.cell? ⟨b,off+i*2,none⟩=some (.int .i64 (fs i))/\w.cell? ⟨b,off+i*2+1,none⟩=some (.int .i64 (fb i)))
def Cx(w:World)(lo hi:Nat)(v0 v1 v2:Value)(s:AD):Prop:=
 v0 = .int .i64 s.birth/\B4 w lo hi v1 s.kn s.ks s.kb/\v2 = .string s.data/\s.data.size<=maxLen
def Bb(w:World)(lo hi:Nat)(v:Value)(n:Nat)(f:Nat->AD):Prop:=
 n<=maxLen/\∃a cap,v = .slice a n cap/\n<=cap/\(0<n->∃b off,a=some ⟨b,off,none⟩/\lo<=b/\b<hi/\∀i,i<n->∃v0 v1 v2,w.cell? ⟨b,off+i*3,none⟩=some v0/\w.cell? ⟨b,off+i*3+1,none⟩=some v1/\w.cell? ⟨b,off+i*3+2,none⟩=some v2/\Cx w lo hi v0 v1 v2 (f i))
def EE(w:World)(lo hi:Nat)(v0 v1:Value)(p:A8):Prop:=Bb w lo hi v0 p.n p.s/\ED w lo hi v1 p.hn p.h
variable{g:Nat->Int}
theorem B4.same{f:Nat->Int}(h:B4 w lo hi v n f g)(s:Lq lo hi w w'):B4 w' lo hi v n f g:=by
 obtain⟨j,a,cap,hv,e,m⟩:=h;refine⟨j,a,cap,hv,e,fun hn=>?_⟩;obtain⟨b,off,l,c,d,k⟩:=m hn;exact⟨b,off,l,c,d,fun i hi=>by rw[s.cell c d,s.cell c d];exact k i hi⟩
variable{v0 v1 v2:Value}
theorem Cx.same{t:AD}(h:Cx w lo hi v0 v1 v2 t)(s:Lq lo hi w w'):Cx w' lo hi v0 v1 v2 t:=
 ⟨h.1,h.2.1.same s,h.2.2⟩
theorem Bb.same{f:Nat->AD}(h:Bb w lo hi v n f)(s:Lq lo hi w w'):Bb w' lo hi v n f:=by
 obtain⟨j,a,cap,hv,e,m⟩:=h;refine⟨j,a,cap,hv,e,fun hn=>?_⟩;obtain⟨b,off,l,c,d,k⟩:=m hn;refine⟨b,off,l,c,d,fun i hi=>?_⟩;obtain⟨o,v1,p,c0,c1,g,hs⟩:=k i hi;exact⟨o,v1,p,by rw[s.cell c d];exact c0,by rw[s.cell c d];exact c1,by rw[s.cell c d];exact g,hs.same s⟩
variable{f:Nat->Int}
theorem ED.A0(h:ED w lo hi v n f)(s:Below w.heap.size w w'):ED w' lo hi v n f:=by
 obtain⟨e,a,cap,hv,c,l⟩:=h;refine⟨e,a,cap,hv,c,fun hn=>?_⟩;obtain⟨b,off,k,g,j,d⟩:=l hn;exact⟨b,off,k,g,j,fun i hi=>(s.cell (AZ (d i hi))).trans (d i hi)⟩
theorem B4.A0(h:B4 w lo hi v n f g)(s:Below w.heap.size w w'):B4 w' lo hi v n f g:=by
 obtain⟨e,a,cap,hv,d,m⟩:=h;refine⟨e,a,cap,hv,d,fun hn=>?_⟩;obtain⟨b,off,l,j,k,c⟩:=m hn;exact⟨b,off,l,j,k,fun i hi=>⟨(s.cell (AZ (c i hi).1)).trans (c i hi).1,(s.cell (AZ (c i hi).2)).trans (c i hi).2⟩⟩
theorem Cx.A0{t:AD}(h:Cx w lo hi v0 v1 v2 t)(s:Below w.heap.size w w'):Cx w' lo hi v0 v1 v2 t:=
 ⟨h.1,h.2.1.A0 s,h.2.2⟩
theorem Bb.A0{f:Nat->AD}(h:Bb w lo hi v n f)(s:Below w.heap.size w w'):Bb w' lo hi v n f:=by
 obtain⟨e,a,cap,hv,c,m⟩:=h;refine⟨e,a,cap,hv,c,fun hn=>?_⟩;obtain⟨b,off,l,g,j,k⟩:=m hn;refine⟨b,off,l,g,j,fun i hi=>?_⟩;obtain⟨o,v1,p,c0,c1,d,hs⟩:=k i hi;exact⟨o,v1,p,(s.cell (AZ c0)).trans c0,(s.cell (AZ c1)).trans c1,(s.cell (AZ d)).trans d,hs.A0 s⟩
theorem EE.A0{p:A8}(h:EE w lo hi v0 v1 p)(s:Below w.heap.size w w'):EE w' lo hi v0 v1 p:=⟨h.1.A0 s,h.2.A0 s⟩
variable{a:Option Addr}
theorem ED.take{c m c':Nat}(h:ED w lo hi (.slice a n c) n f)(r:m<=n)(l:m<=c'):ED w lo hi (.slice a m c') m f:=by
 obtain⟨d,q,cap,hv,o,p⟩:=h;simp only[Value.slice.injEq,true_and]at hv;obtain⟨rfl,rfl⟩:=hv;refine⟨by omega,a,c',rfl,l,fun d=>?_⟩;obtain⟨b,off,k,e,g,j⟩:=p (by omega);exact⟨b,off,k,e,g,fun i hi=>j i (by omega)⟩
structure Jw (w:World) (b o:Nat) (lo hi:Nat) (ka:Option Addr) (kc:Nat) (s:AD):Prop where
 c0:w.cell? ⟨b,o,none⟩=some (.int .i64 s.birth)
 c1:w.cell? ⟨b,o+1,none⟩=some (.slice ka s.kn kc)
 c2:w.cell? ⟨b,o+2,none⟩=some (.string s.data)
 slot:Cx w lo hi (.int .i64 s.birth) (.slice ka s.kn kc) (.string s.data) s
variable{s:AD}
theorem Jw.A0{ka:Option Addr}{kc:Nat}(h:Jw w b o lo hi ka kc s)(t:Below w.heap.size w w'):Jw w' b o lo hi ka kc s:=
 ⟨(t.cell (AZ h.c0)).trans h.c0,(t.cell (AZ h.c1)).trans h.c1,(t.cell (AZ h.c2)).trans h.c2,h.slot.A0 t⟩
theorem Bb.cells{c:Nat}{f:Nat->AD}(h:Bb w lo hi (.slice a n c) n f){i:Nat}(d:i<n) :
 ∃b off g kc,a=some ⟨b,off,none⟩/\Jw w b (off+i*3) lo hi g kc (f i):=by
 obtain⟨q,p,cap,hv,m,o⟩:=h;simp only[Value.slice.injEq,true_and]at hv;obtain⟨rfl,rfl⟩:=hv;obtain⟨b,off,l,r,s,k⟩:=o (by omega);obtain⟨t,v1,u,c0,c1,j,hs⟩:=k i d;have e:=hs;obtain⟨rfl,⟨_,g,kc,rfl,_⟩,rfl,_⟩:=hs;exact⟨b,off,g,kc,l,⟨c0,c1,j,e⟩⟩
theorem Bc{P:Prop}{t:Bool}(a:t=true↔P)(h:¬P):t=false:=Bool.eq_false_iff.2 (fun e=>h (a.1 e))
def An(s:AD):Prop:=s.birth=0/\s.kn=0/\s.data.toList.isEmpty=true
def Df(n:Int):Prop:=1<=n/\n<=1000000
def BM(p:A8)(xs xb:Int):Prop:=1<=xb/\0<=xs/\xs<p.n/\(p.s xs.toNat).birth=xb
def NC(p:A8)(b:Int)(xs xb:Int):Prop:=(xs=0/\xb=0)\/(BM p xs xb/\xb<=b)
def CD(p:A8)(s:AD):Prop:=Df s.birth/\((s.kn=0/\s.data.size=16)\/(s.kn=8/\s.data.toList.isEmpty=true/\∀i,i<s.kn->NC p s.birth (s.ks i) (s.kb i)))
def Has(n:Nat)(f:Nat->Int)(x:Int):Prop:=∃j,j<n/\f j=x
def Ze(p:A8)(i:Nat):Prop:=0<=p.h i/\p.h i<p.n/\¬An (p.s (p.h i).toNat)/\¬Has i p.h (p.h i)
def Ag(p:A8):Prop:=p.n<=200/\(∀i,i<p.n->An (p.s i)\/CD p (p.s i))/\∀i,i<p.hn->Ze p i
structure AI (S:Nat->Prop) (w w':World):Prop where
 os:w'.os=w.os
 tape:w'.tape=w.tape
 output:w'.output=w.output
 size:w.heap.size<=w'.heap.size
 block:∀k,k<w.heap.size->¬S k->w'.heap[k]?=w.heap[k]?
theorem AI.refl(S:Nat->Prop)(w:World):AI S w w:=⟨rfl,rfl,rfl,Nat.le_refl _,fun _ _ _=>rfl⟩
variable{S:Nat->Prop}
theorem AI.trans{a b c:World}(h:AI S a b)(k:AI S b c):AI S a c:=
 ⟨k.os.trans h.os,k.tape.trans h.tape,k.output.trans h.output,Nat.le_trans h.size k.size,fun i hi hs=>(k.block i (Nat.lt_of_lt_of_le hi h.size) hs).trans (h.block i hi hs)⟩
theorem AI.mono{T:Nat->Prop}{a b:World}(h:AI S a b)(c:∀k,S k->T k):AI T a b:=
 ⟨h.os,h.tape,h.output,h.size,fun i hi hs=>h.block i hi (fun x=>hs (c i x))⟩
theorem AI.Co(h:Below w.heap.size w w'):AI S w w':=⟨h.os,h.tape,h.output,h.size,fun k a _=>h.block k a⟩
theorem AI.A0(h:AI S w w'){B:Nat}(a:B<=w.heap.size)(hs:∀k,S k->B<=k):Below B w w':=
 ⟨h.os,h.tape,h.output,h.size,fun k b=>h.block k (by omega) (fun x=>by have:=hs k x;omega)⟩
theorem AI.setCell(h:AI S w w'){p:Addr}(a:S p.block)(u:Value):AI S w (w'.setCell p u):=
 h.trans ⟨rfl,rfl,rfl,by simp,fun k _ hs=>Below.heap_setCell _ _ _ _ (fun e=>hs (e▸a))⟩
theorem AI.put(w:World)(b o:Nat)(u:Value):AI (fun k=>k=b) w (w.setCell ⟨b,o,none⟩ u):=
 (AI.refl (fun k=>k=b) w).setCell (p:=⟨b,o,none⟩) rfl u
theorem AI.cell(h:AI S w w')(a:b<w.heap.size)(hs:¬S b):w'.cell? ⟨b,o,none⟩=w.cell? ⟨b,o,none⟩:=
 World.cell?_of_block (w:=w) (h.block b a hs)
theorem AI.frozen(h:AI S w w')(a:b<w.heap.size)(hs:¬S b):w'.frozen? ⟨b,o,none⟩=w.frozen? ⟨b,o,none⟩:=
 World.frozen?_of_block (w:=w) (h.block b a hs)
def AJ(w:World)(b o:Nat)(v:Value):Prop:=w.cell? ⟨b,o,none⟩=some v/\w.frozen? ⟨b,o,none⟩=false
theorem AJ.lt(h:AJ w b o v):b<w.heap.size:=AZ h.1
theorem AJ.AH(h:AJ w b o v)(t:AI S w w')(hs:¬S b):AJ w' b o v:=
 ⟨(t.cell h.lt hs).trans h.1,(t.frozen h.lt hs).trans h.2⟩
theorem AJ.A0(h:AJ w b o v)(t:Below w.heap.size w w'):AJ w' b o v:=
 ⟨(t.cell h.lt).trans h.1,(t.frozen h.lt).trans h.2⟩
theorem AJ.set(h:AJ w b o v)(u:Value):AJ (w.setCell ⟨b,o,none⟩ u) b o u:=
 ⟨World.cell?_setCell_same' _ _ _ (by rw[h.1];rfl),by rw[World.frozen?_setCell];exact h.2⟩
theorem AJ.other(h:AJ w b o v){b' o':Nat}(u:Value)(a:b'≠b\/o'≠o):AJ (w.setCell ⟨b',o',none⟩ u) b o v:=by
 refine⟨?_,by rw[World.frozen?_setCell];exact h.2⟩;rw[World.cell?_setCell_other]
 ·exact h.1
 ·intro e;simp only[Addr.mk.injEq]at e;rcases a with h | h
  ·exact h e.1
  ·exact h e.2.1
def Mt(w:World)(b:Nat):Nat->List Value->World
 | _,[]=>w
 | o,u :: us=>Mt (w.setCell ⟨b,o,none⟩ u) b (o+1) us
theorem QO{b j:Nat}{v:Value}:∀(us:List Value) (w:World) (o:Nat),AJ w b j v->j<o\/o+us.length<=j->AJ (Mt w b o us) b j v
 | [],_,_,h,_=>h
 | u :: us,w,o,h,hj=>by
  rw[List.length_cons]at hj;exact QO us _ (o+1) (h.other u (Or.inr (by omega))) (by omega)
theorem Nd{b:Nat}{u v:Value}:∀(us:List Value) (w:World) (o i j:Nat),us[i]?=some u->o+i=j->AJ w b j v->AJ (Mt w b o us) b j u
 | [],_,_,_,_,h,_,_=>by simp at h
 | x :: us,w,o,0,j,h,e,hc=>by
  obtain rfl:x=u:=(by simpa using h);obtain rfl:o=j:=e;exact QO us _ (o+1) (hc.set x) (Or.inl (by omega))
 | x :: us,w,o,i+1,j,h,e,hc=>Nd us _ (o+1) i j (by simpa using h) (by omega) (hc.other x (Or.inr (by omega)))
def zJe(w:World)(b:Nat)(a:Option Addr)(n cap:Nat):Prop:=n<cap->0<n/\a=some ⟨b,0,none⟩/\cap<=maxLen/\∃cur,w.heap[b]?=some (.cells cur 2 (0,0))/\cur.size=cap
def FK(w:World)(b:Nat)(v:Value)(n:Nat)(f:Nat->Int):Prop:=
 n<=maxLen/\∃a cap,v = .slice a n cap/\n<=cap/\(0<n->∃off,a=some ⟨b,off,none⟩/\∀i,i<n->AJ w b (off+i) (.int .i64 (f i)))/\zJe w b a n cap
def CI(w:World)(b:Nat)(v:Value)(n:Nat)(fs fb:Nat->Int):Prop:=
 n<=maxLen/\∃a cap,v = .slice a n cap/\n<=cap/\(0<n->∃off,a=some ⟨b,off,none⟩/\∀i,i<n->AJ w b (off+i*2) (.int .i64 (fs i))/\AJ w b (off+i*2+1) (.int .i64 (fb i)))
theorem FK.at(h:FK w b v n f)(d:0<n->lo<=b/\b<hi):ED w lo hi v n f:=by
 obtain⟨e,a,cap,hv,c,k,l⟩:=h;refine⟨e,a,cap,hv,c,fun hn=>?_⟩;obtain⟨off,j,g⟩:=k hn;exact⟨b,off,j,(d hn).1,(d hn).2,fun i hi=>(g i hi).1⟩
theorem CI.at(h:CI w b v n f g)(e:0<n->lo<=b/\b<hi):B4 w lo hi v n f g:=by
 obtain⟨j,a,cap,hv,c,l⟩:=h;refine⟨j,a,cap,hv,c,fun hn=>?_⟩;obtain⟨off,k,d⟩:=l hn;exact⟨b,off,k,(e hn).1,(e hn).2,fun i hi=>⟨(d i hi).1.1,(d i hi).2.1⟩⟩
theorem FK.AH(h:FK w b v n f)(t:AI S w w')(hs:0<n->¬S b):FK w' b v n f:=by
 obtain⟨j,a,cap,hv,d,m,o⟩:=h;refine⟨j,a,cap,hv,d,fun hn=>?_,fun e=>?_⟩;rotate_left
 ·obtain⟨r0,r1,p,c,g,q⟩:=o e;exact⟨r0,r1,p,c,(t.block b (Array.getElem?_eq_some_iff.1 g).1 (hs r0)).trans g,q⟩
 obtain⟨off,l,k⟩:=m hn;exact⟨off,l,fun i hi=>(k i hi).AH t (hs hn)⟩
theorem CI.AH(h:CI w b v n f g)(t:AI S w w')(hs:0<n->¬S b):CI w' b v n f g:=by
 obtain⟨e,a,cap,hv,c,k⟩:=h;refine⟨e,a,cap,hv,c,fun hn=>?_⟩;obtain⟨off,j,d⟩:=k hn;exact⟨off,j,fun i hi=>⟨(d i hi).1.AH t (hs hn),(d i hi).2.AH t (hs hn)⟩⟩
theorem CI.A0(h:CI w b v n f g)(t:Below w.heap.size w w'):CI w' b v n f g:=
 h.AH (AI.Co (S:=fun _=>False) t) (fun _ h=>h)
theorem FK.A0(h:FK w b v n f)(t:Below w.heap.size w w'):FK w' b v n f:=
 h.AH (AI.Co (S:=fun _=>False) t) (fun _ h=>h)
structure I3 (w:World) (bs o kb:Nat) (kv:Value) (s:AD):Prop where
 birth:AJ w bs o (.int .i64 s.birth)
 kidsv:AJ w bs (o+1) kv
 data:AJ w bs (o+2) (.string s.data)
 kids:CI w kb kv s.kn s.ks s.kb
 Bo:s.data.size<=maxLen
 Bi:0<s.kn->kb≠bs
variable{bs kb:Nat}{kv:Value}
theorem I3.AH(h:I3 w bs o kb kv s)(t:AI S w w')(a:¬S bs)(b:0<s.kn->¬S kb):I3 w' bs o kb kv s:=
 ⟨h.birth.AH t a,h.kidsv.AH t a,h.data.AH t a,h.kids.AH t b,h.Bo,h.Bi⟩
theorem I3.A0(h:I3 w bs o kb kv s)(t:Below w.heap.size w w'):I3 w' bs o kb kv s:=
 h.AH (AI.Co (S:=fun _=>False) t) (fun h=>h) (fun _ h=>h)
theorem I3.at(h:I3 w bs o kb kv s)(a:0<s.kn->lo<=kb/\kb<hi):Cx w lo hi (.int .i64 s.birth) kv (.string s.data) s:=
 ⟨rfl,h.kids.at a,rfl,h.Bo⟩
def Fp(w:World)(bs:Nat)(kb:Nat->Nat)(kv:Nat->Value)(v:Value)(n:Nat)(f:Nat->AD):Prop:=
 n<=maxLen/\∃a cap,v = .slice a n cap/\n<=cap/\(0<n->∃off,a=some ⟨bs,off,none⟩/\∀i,i<n->I3 w bs (off+i*3) (kb i) (kv i) (f i))
def O9(kb:Nat->Nat)(n:Nat)(f:Nat->AD):Prop:=∀i j,i<n->j<n->i≠j->0<(f i).kn->0<(f j).kn->kb i≠kb j
def zGM(lo hi bs:Nat)(kb:Nat->Nat)(n:Nat)(f:Nat->AD):Prop:=0<n->(lo<=bs/\bs<hi)/\∀i,i<n->0<(f i).kn->lo<=kb i/\kb i<hi
variable{kb:Nat->Nat}{kv:Nat->Value}{f:Nat->AD}
theorem Fp.at(h:Fp w bs kb kv v n f)(c:zGM lo hi bs kb n f):Bb w lo hi v n f:=by
 obtain⟨e,a,cap,hv,d,j⟩:=h;refine⟨e,a,cap,hv,d,fun hn=>?_⟩;obtain⟨off,g,b⟩:=j hn;refine⟨bs,off,g,(c hn).1.1,(c hn).1.2,fun i hi=>?_⟩;exact⟨_,_,_,(b i hi).birth.1,(b i hi).kidsv.1,(b i hi).data.1,(b i hi).at ((c hn).2 i hi)⟩
theorem Fp.A0(h:Fp w bs kb kv v n f)(t:Below w.heap.size w w'):Fp w' bs kb kv v n f:=by
 obtain⟨c,a,cap,hv,b,g⟩:=h;refine⟨c,a,cap,hv,b,fun hn=>?_⟩;obtain⟨off,e,d⟩:=g hn;exact⟨off,e,fun i hi=>(d i hi).A0 t⟩
theorem Fp.AH(h:Fp w bs kb kv v n f)(t:AI S w w')
 (d:0<n->¬S bs) (e:∀i,i<n->0<(f i).kn->¬S (kb i)):Fp w' bs kb kv v n f:=by
 obtain⟨c,a,cap,hv,b,k⟩:=h;refine⟨c,a,cap,hv,b,fun hn=>?_⟩;obtain⟨off,j,g⟩:=k hn;exact⟨off,j,fun i hi=>(g i hi).AH t (d hn) (e i hi)⟩
def Ad(w:World)(b:Nat)(v0 v1:Value):Prop:=AJ w b 0 v0/\AJ w b 1 v1
theorem Ad.A0(h:Ad w b v0 v1)(t:Below w.heap.size w w'):Ad w' b v0 v1:=⟨h.1.A0 t,h.2.A0 t⟩
theorem Ad.new(w:World)(a v1:Value)(t:TypeId):Ad (w.alloc (.cells #[a,v1] t)) w.heap.size a v1:=
 ⟨⟨by rw[World.cell?_alloc_at (hn:=rfl)];rfl,by rw[World.frozen?_alloc_at (hn:=rfl)]⟩,⟨by rw[World.cell?_alloc_at (hn:=rfl)];rfl,by rw[World.frozen?_alloc_at (hn:=rfl)]⟩⟩
def CX(w:World)(b:Nat)(v0 v1 v2:Value):Prop:=AJ w b 0 v0/\AJ w b 1 v1/\AJ w b 2 v2
theorem CX.A0(h:CX w b v0 v1 v2)(t:Below w.heap.size w w'):CX w' b v0 v1 v2:=⟨h.1.A0 t,h.2.1.A0 t,h.2.2.A0 t⟩
theorem CX.new(w:World)(a v1 b:Value)(t:TypeId):CX (w.alloc (.cells #[a,v1,b] t)) w.heap.size a v1 b:=
 ⟨⟨by rw[World.cell?_alloc_at (hn:=rfl)];rfl,by rw[World.frozen?_alloc_at (hn:=rfl)]⟩,⟨by rw[World.cell?_alloc_at (hn:=rfl)];rfl,by rw[World.frozen?_alloc_at (hn:=rfl)]⟩,⟨by rw[World.cell?_alloc_at (hn:=rfl)];rfl,by rw[World.frozen?_alloc_at (hn:=rfl)]⟩⟩
theorem CX.put(h:CX w b v0 v1 v2)(a c d:Value):CX (((w.setCell ⟨b,0,none⟩ a).setCell ⟨b,1,none⟩ c).setCell ⟨b,2,none⟩ d) b a c d:=
 ⟨((h.1.set a).other _ (Or.inr (by omega))).other _ (Or.inr (by omega)),((h.2.1.other _ (Or.inr (by omega))).set c).other _ (Or.inr (by omega)),((h.2.2.other _ (Or.inr (by omega))).other _ (Or.inr (by omega))).set d⟩
theorem Ad.put(h:Ad w b v0 v1)(a c:Value):Ad ((w.setCell ⟨b,0,none⟩ a).setCell ⟨b,1,none⟩ c) b a c:=
 ⟨(h.1.set a).other _ (Or.inr (by omega)),(h.2.other _ (Or.inr (by omega))).set c⟩
theorem CX.other(h:CX w b v0 v1 v2){b' o':Nat}(u:Value)(a:b'≠b):CX (w.setCell ⟨b',o',none⟩ u) b v0 v1 v2:=
 ⟨h.1.other u (Or.inl a),h.2.1.other u (Or.inl a),h.2.2.other u (Or.inl a)⟩
theorem A9(w:World)(o:Obj):Below w.heap.size w (w.alloc o):=(Below.refl _ _).alloc (Nat.le_refl _) o
variable{cs:Array Value}
theorem B2{i:Nat}{t:TypeId}(h:w.heap[b]?=some (.cells cs t))(hi:cs[i]?=some v):AJ w b i v:=by
 refine⟨?_,?_⟩
 ·simp[World.cell?,h,hi]
 ·simp[World.frozen?,h]
theorem ZQ{t:TypeId}(v:Value)(h:w.heap[b]?=some (.cells cs t)):(w.setCell ⟨b,o,none⟩ v).heap[b]?=some (.cells (cs.setIfInBounds o v) t):=by
 simp[World.setCell,Array.getElem?_modify,h]
theorem CV{base e size:Nat}(h:w.ownsRow base e size v n xs):∃a cap,v = .slice a n cap/\n<=cap:=by
 obtain⟨_,⟨h,rfl⟩ | ⟨g,cap,c,hv,_,_,b,_⟩⟩:=h
 ·exact⟨none,0,h,Nat.le_refl _⟩
 ·exact⟨_,cap,hv,b⟩
theorem FN{base e size:Nat}(h:w.ownsRow base e size v n xs)(hn:0<n) :
 ∃g cap,v = .slice (some ⟨g,0,none⟩) n cap/\n<=cap/\base<=g/\g<w.heap.size/\∀j u,xs[j]?=some u->AJ w g j u:=by
 obtain⟨_,⟨h,rfl⟩ | ⟨g,cap,c,hv,l,b,i,o,p,k⟩⟩:=h
 ·omega
 ·refine⟨g,cap,hv,i,l,?_,fun j u m=>?_⟩
  ·by_cases d:g<w.heap.size
   ·exact d
   ·rw[Array.getElem?_eq_none (by omega)]at b;simp at b
  ·refine⟨?_,?_⟩
   ·simp only[World.cell?,b];have a:(c.toList.take (n*size))[j]?=some u:=(by rw[k];exact m);rw[List.getElem?_take]at a;split at a
    ·simpa using a
    ·simp at a
   ·simp only[World.frozen?,b];simp
def FR(s:AD):Prop:=Df s.birth/\s.kn=0/\s.data.size=16
def IW(s:AD):Prop:=Df s.birth/\s.kn=8/\s.data.toList.isEmpty=true
theorem OS(l v1 m:Value)(lo hi:Nat)(s:AD)(w:World)(b:Cx w lo hi l v1 m s) :
 Calls Tryz.prog 158 #[.agg #[l,v1,m]] w fun e w'=>AG (An s) e/\Below w.heap.size w w':=by
 obtain⟨rfl,⟨n,a,c,rfl,_⟩,rfl,_⟩:=b;unfold maxLen at n;have d:=(Below.refl w.heap.size w).alloc (Nat.le_refl _) (.cells #[.int .i64 s.birth,.slice a s.kn c,.string s.data] 75);by_cases b:s.birth=0
 ·by_cases g:s.kn=0
  ·by_cases i:s.data.toList.isEmpty=true
   ·have H:Hid (An s):=⟨b,g,i⟩;have j:(s.birth == 0)=true:=(by simp[b]);have k:((s.kn:Int) == 0)=true:=(by simp[g]);clear b g;go_enter Tryz.func158,Tryz.ntmps158;go_wp2;go_ret;exact⟨AG.yes H.out,d⟩
   ·have H:Hid (¬An s):=fun h=>i h.2.2
    have j:(s.birth == 0)=true:=(by simp[b]);have k:((s.kn:Int) == 0)=true:=(by simp[g]);have o:s.data.toList.isEmpty=false:=(by simpa using i);clear b g i;go_enter Tryz.func158,Tryz.ntmps158;go_wp2;go_ret;exact⟨AG.no H.out,d⟩
  ·have H:Hid (¬An s):=fun h=>g h.2.1
   have j:(s.birth == 0)=true:=(by simp[b]);have k:((s.kn:Int) == 0)=false:=(by simp;omega);clear b g;go_enter Tryz.func158,Tryz.ntmps158;go_wp2;go_ret;exact⟨AG.no H.out,d⟩
 ·have H:Hid (¬An s):=fun h=>b h.1
  have j:(s.birth == 0)=false:=(by simp[b]);clear b;go_enter Tryz.func158,Tryz.ntmps158;go_wp2;go_ret;exact⟨AG.no H.out,d⟩
theorem Gl(n:Int)(w:World):Calls Tryz.prog 200 #[.int .i64 n] w fun e w'=>AG (Df n) e/\w'=w:=by
 by_cases a:1<=n
 ·by_cases b:n<=1000000
  ·go_enter Tryz.func200,Tryz.ntmps200;go_wp2;go_ret;exact⟨AG.yes ⟨a,b⟩,rfl⟩
  ·go_enter Tryz.func200,Tryz.ntmps200;go_wp2;go_ret;exact⟨AG.no fun h=>by have:=h.2;omega,rfl⟩
 ·go_enter Tryz.func200,Tryz.ntmps200;go_wp2;go_ret;exact⟨AG.no fun h=>by have:=h.1;omega,rfl⟩
theorem YX(m v1 n:Value)(lo hi:Nat)(s:AD)(w:World)(d:Cx w lo hi m v1 n s) :
 Calls Tryz.prog 159 #[.agg #[m,v1,n]] w fun e w'=>AG (FR s) e/\Below w.heap.size w w':=by
 obtain⟨rfl,⟨p,a,c,rfl,_⟩,rfl,q⟩:=d;unfold maxLen at p q;have g:=(Below.refl w.heap.size w).alloc (Nat.le_refl _) (.cells #[.int .i64 s.birth,.slice a s.kn c,.string s.data] 75);by_cases d:Df s.birth
 ·have j:Hid (Df s.birth):=d;by_cases i:s.kn=0
  ·by_cases k:s.data.size=16
   ·have H:Hid (FR s):=⟨d,i,k⟩;have l:((s.kn:Int) == 0)=true:=(by simp[i]);have o:((s.data.size:Int) == 16)=true:=(by simp[k]);clear d i k;go_enter Tryz.func159,Tryz.ntmps159;go_wp2_with (go_at_call 200;refine(Gl _ _).mono ?_;rintro e w' ⟨⟨t,rfl,b⟩,rfl⟩;obtain rfl:t=true:=b.2 j.out;clear b);go_ret;exact⟨AG.yes H.out,g⟩
   ·have H:Hid (¬FR s):=fun h=>k h.2.2
    have l:((s.kn:Int) == 0)=true:=(by simp[i]);have o:((s.data.size:Int) == 16)=false:=(by simp;omega);clear d i k;go_enter Tryz.func159,Tryz.ntmps159;go_wp2_with (go_at_call 200;refine(Gl _ _).mono ?_;rintro e w' ⟨⟨t,rfl,b⟩,rfl⟩;obtain rfl:t=true:=b.2 j.out;clear b);go_ret;exact⟨AG.no H.out,g⟩
  ·have H:Hid (¬FR s):=fun h=>i h.2.1
   have l:((s.kn:Int) == 0)=false:=(by simp;omega);clear d i;go_enter Tryz.func159,Tryz.ntmps159;go_wp2_with (go_at_call 200;refine(Gl _ _).mono ?_;rintro e w' ⟨⟨t,rfl,b⟩,rfl⟩;obtain rfl:t=true:=b.2 j.out;clear b);go_ret;exact⟨AG.no H.out,g⟩
 ·have j:Hid (¬Df s.birth):=d;clear d;go_enter Tryz.func159,Tryz.ntmps159;go_wp2_with (go_at_call 200;refine(Gl _ _).mono ?_;rintro e w' ⟨⟨t,rfl,b⟩,rfl⟩;obtain rfl:t=false:=Bc b j.out;clear b);go_ret;exact⟨AG.no fun h=>j.out h.1,g⟩
theorem zAz(m v1 n:Value)(lo hi:Nat)(s:AD)(w:World)(d:Cx w lo hi m v1 n s) :
 Calls Tryz.prog 160 #[.agg #[m,v1,n]] w fun e w'=>AG (IW s) e/\Below w.heap.size w w':=by
 obtain⟨rfl,⟨o,a,c,rfl,_⟩,rfl,p⟩:=d;unfold maxLen at o p;have g:=(Below.refl w.heap.size w).alloc (Nat.le_refl _) (.cells #[.int .i64 s.birth,.slice a s.kn c,.string s.data] 75);by_cases d:Df s.birth
 ·have j:Hid (Df s.birth):=d;by_cases i:s.kn=8
  ·by_cases k:s.data.toList.isEmpty=true
   ·have H:Hid (IW s):=⟨d,i,k⟩;have l:((s.kn:Int) == 8)=true:=(by simp[i]);clear d i;go_enter Tryz.func160,Tryz.ntmps160;go_wp2_with (go_at_call 200;refine(Gl _ _).mono ?_;rintro e w' ⟨⟨t,rfl,b⟩,rfl⟩;obtain rfl:t=true:=b.2 j.out;clear b);go_ret;exact⟨AG.yes H.out,g⟩
   ·have H:Hid (¬IW s):=fun h=>k h.2.2
    have l:((s.kn:Int) == 8)=true:=(by simp[i]);have q:s.data.toList.isEmpty=false:=(by simpa using k);clear d i k;go_enter Tryz.func160,Tryz.ntmps160;go_wp2_with (go_at_call 200;refine(Gl _ _).mono ?_;rintro e w' ⟨⟨t,rfl,b⟩,rfl⟩;obtain rfl:t=true:=b.2 j.out;clear b);go_ret;exact⟨AG.no H.out,g⟩
  ·have H:Hid (¬IW s):=fun h=>i h.2.1
   have l:((s.kn:Int) == 8)=false:=(by simp;omega);clear d i;go_enter Tryz.func160,Tryz.ntmps160;go_wp2_with (go_at_call 200;refine(Gl _ _).mono ?_;rintro e w' ⟨⟨t,rfl,b⟩,rfl⟩;obtain rfl:t=true:=b.2 j.out;clear b);go_ret;exact⟨AG.no H.out,g⟩
 ·have j:Hid (¬Df s.birth):=d;clear d;go_enter Tryz.func160,Tryz.ntmps160;go_wp2_with (go_at_call 200;refine(Gl _ _).mono ?_;rintro e w' ⟨⟨t,rfl,b⟩,rfl⟩;obtain rfl:t=false:=Bc b j.out;clear b);go_ret;exact⟨AG.no fun h=>j.out h.1,g⟩
theorem zDp(v:Value)(n lo hi:Nat)(f:Nat->Int)(x:Int)(w:World)(z:ED w lo hi v n f) :
 Calls Tryz.prog 202 #[v,.int .i64 x] w fun e w'=>(∃r:Int,e = .returned (.int .i64 r)/\(0<=r↔Has n f x))/\w'=w:=by
 obtain⟨B,a,c,rfl,D,s⟩:=z;unfold maxLen at B;have q:Hid (0<n->∃b off,a=some ⟨b,off,none⟩/\lo<=b/\b<hi/\∀i,i<n->w.cell? ⟨b,off+i,none⟩=some (.int .i64 (f i))):=s;clear s;go_enter Tryz.func202,Tryz.ntmps202;go_wp2
 go_loop [8] (fun i=>∃k:Nat,k<=n/\i = .int .i64 k/\¬Has k f x) (fun i=>n - (intOf i).toNat)
 case atStart=>exact⟨0,Nat.zero_le _,rfl,fun ⟨j,t,_⟩=>absurd t (Nat.not_lt_zero _)⟩
 case round=>
  obtain⟨k,C,rfl,o⟩:=hrel;have g:Hid (¬Has k f x):=o;clear o;by_cases m:k<n
  ·have u:(k:Int)<(n:Int):=(by omega);obtain⟨b,off,rfl,_,_,y⟩:=q.out (by omega);have A:=y k m;clear y q;by_cases d:f k=x
   ·have H:Hid (Has n f x):=⟨k,m,d⟩;have p:(x == f k)=true:=(by simp[d]);clear d;go_wp2;go_ret;exact⟨⟨_,rfl,⟨fun _=>H.out,fun _=>Int.natCast_nonneg _⟩⟩,rfl⟩
   ·have H:Hid (¬f k=x):=d;have p:(x == f k)=false:=(by simp;exact fun e=>d e.symm);clear d;go_wp2
    go_round
    case rel=>
     refine⟨k+1,by omega,by go_num,?_⟩;rintro⟨j,t,l⟩;by_cases e:j=k
     ·subst e;exact H.out l
     ·exact g.out ⟨j,by omega,l⟩
    case measure=>simp[intOf];omega
  ·obtain rfl:k=n:=(by omega);go_wp2;go_ret;exact⟨⟨-1,rfl,⟨fun h=>absurd h (by omega),fun h=>absurd h g.out⟩⟩,rfl⟩
theorem Rn(v:Value)(n lo hi:Nat)(f:Nat->Int)(x:Int)(w:World)(b:ED w lo hi v n f) :
 Calls Tryz.prog 163 #[v,.int .i64 x] w fun e w'=>AG (Has n f x) e/\w'=w:=by
 have g:Hid (ED w lo hi v n f):=b;obtain⟨j,a,c,rfl,k,i⟩:=b;clear i;go_enter Tryz.func163,Tryz.ntmps163;go_wp2_with fail;refine(zDp _ n lo hi f x _ g.out).mono ?_;rintro e w' ⟨⟨r,rfl,d⟩,rfl⟩;have h:Hid (0<=r↔Has n f x):=d;clear d;go_wp2;go_ret;exact⟨⟨_,rfl,by simpa using h.out⟩,rfl⟩
def Do(n:Nat)(f:Nat->AD)(x ps pb:Int):Prop:=
 (0<=x/\x<n/\¬An (f x.toNat)/\ps=x/\pb=(f x.toNat).birth)\/(¬(0<=x/\x<n/\¬An (f x.toNat))/\ps=0/\pb=0)
theorem OK(v:Value)(n lo hi:Nat)(f:Nat->AD)(x:Int)(w:World)(r:Bb w lo hi v n f) :
 Calls Tryz.prog 162 #[v,.int .i64 x] w fun e w'=>(∃ps y,e = .returned (.agg #[.int .i64 ps,.int .i64 y])/\Do n f x ps y)/\Below w.heap.size w w':=by
 have B:Hid (Bb w lo hi v n f):=r;obtain⟨G,a,c,rfl,N,C⟩:=r;unfold maxLen at G;clear C;have g:Hid (Below w.heap.size w (w.alloc (.cells #[.int .i64 0,.int .i64 0] 38))):=A9 _ _;by_cases r:x<0
 ·have H:Hid (Do n f x 0 0):=Or.inr ⟨fun h=>by omega,rfl,rfl⟩;go_enter Tryz.func162,Tryz.ntmps162;go_wp2;refine bodyPost_ret (v:=.agg #[.int .i64 0,.int .i64 0]) (by simp[results,Tryz.results162,go_sem]) rfl ⟨⟨0,0,rfl,H.out⟩,g.out⟩
 ·by_cases M:(n:Int)<=x
  ·have H:Hid (Do n f x 0 0):=Or.inr ⟨fun h=>by omega,rfl,rfl⟩;go_enter Tryz.func162,Tryz.ntmps162;go_wp2;refine bodyPost_ret (v:=.agg #[.int .i64 0,.int .i64 0]) (by simp[results,Tryz.results162,go_sem]) rfl ⟨⟨0,0,rfl,H.out⟩,g.out⟩
  ·obtain⟨k,rfl⟩:=Int.eq_ofNat_of_zero_le (show 0<=x by omega);have D:k<n:=(by omega);have s:(k:Int)<(n:Int):=(by omega);obtain⟨b,off,F,kc,rfl,hs⟩:=B.out.cells D;have q:Hid (Jw w b (off+k*3) lo hi F kc (f k)):=hs;have E:=AZ hs.c0;obtain⟨z,q1,A,_⟩:=hs;by_cases j:An (f k)
   ·have H:Hid (Do n f k 0 0):=Or.inr ⟨fun h=>h.2.2 (by rw[Int.toNat_natCast];exact j),rfl,rfl⟩;have p:Hid (An (f k)):=j;clear j;go_enter Tryz.func162,Tryz.ntmps162;go_wp2_with fail;refine(OS _ _ _ lo hi (f k) _ (q.out.slot.A0 g.out)).mono ?_;rintro e u ⟨⟨t,rfl,o⟩,d⟩;obtain rfl:t=true:=o.2 p.out;clear o;have l:Hid (Ad u w.heap.size (.int .i64 0) (.int .i64 0)):=(Ad.new w _ _ _).A0 d;have i:=A7 g.out d;clear d z q1 A;obtain⟨⟨I,J⟩,⟨K,L⟩⟩:=l.out;go_wp2;have m:=l.out.put (.int .i64 0) (.int .i64 0);refine bodyPost_ret (v:=.agg #[.int .i64 0,.int .i64 0]) (by simp[results,Tryz.results162,go_sem,m.1.1,m.2.1]) rfl ⟨⟨0,0,rfl,H.out⟩,(i.setCell (Nat.le_refl _) _).setCell (Nat.le_refl _) _⟩
   ·have H:Hid (Do n f k k (f k).birth):=Or.inl ⟨by omega,s,by rw[Int.toNat_natCast];exact j,rfl,by rw[Int.toNat_natCast]⟩;have p:Hid (¬An (f k)):=j;clear j;go_enter Tryz.func162,Tryz.ntmps162;go_wp2_with fail;refine(OS _ _ _ lo hi (f k) _ (q.out.slot.A0 g.out)).mono ?_;rintro e u ⟨⟨t,rfl,o⟩,d⟩;obtain rfl:t=false:=Bc o p.out;clear o;have l:Hid (Ad u w.heap.size (.int .i64 0) (.int .i64 0)):=(Ad.new w _ _ _).A0 d;have i:=A7 g.out d;have O:=(q.out.A0 i).c0;clear d z q1 A;obtain⟨⟨I,J⟩,⟨K,L⟩⟩:=l.out;go_wp2;have m:=l.out.put (.int .i64 k) (.int .i64 (f k).birth);refine bodyPost_ret (v:=.agg #[.int .i64 k,.int .i64 (f k).birth]) (by simp[results,Tryz.results162,go_sem,m.1.1,m.2.1]) rfl ⟨⟨_,_,rfl,H.out⟩,(i.setCell (Nat.le_refl _) _).setCell (Nat.le_refl _) _⟩
end Go.Proofs.YtibhefllijahkaaGreatDoor

/- What is young is held, what is old is answered: impl.letGo. -/
import Derived.Test.YtmgeglgboadfiaaGreatDoorV18
set_option linter.unusedVariables false
set_option maxRecDepth 20000
set_option maxHeartbeats 4000000
namespace Go.Proofs.YtmgeglgboadfiaaGreatDoor
open Go.RowKit
theorem zOA(C lo hi n:Nat)(P:Nat->Prop)(z0 z1 z2 z3 u8 v:Value)(tm nx id m t:Int)(p:zI)(f g:Nat->Int)(w:World)(hv:zU w lo hi v n f g)(iA:qm n f g)(ht:zCE t)(hH:yX p (qZ f g t n))(hC:yi w C z0 z1 (.int .i64 tm) (.int .i64 nx) z2 z3 (.int .i64 id) (.int .i64 m) u8)(hP:qW w P z0 z1 p)(jB:∀k,P k->C<k/\k<w.heap.size)(hm:0<=m)(tB:m<=900000) :
  Calls Tryz.prog 94 #[v,.int .i64 t,.func (.func 96) #[.pointer (some ⟨C,0,none⟩)] #[]] w fun e w'=>∃vo y0 y1,e = .returned vo/\zw w' w.heap.size vo (zBi f g t n)/\yi w' C y0 y1 (.int .i64 tm) (.int .i64 nx) z2 z3 (.int .i64 id) (.int .i64 (m+((qZ f g t n).length:Int))) u8/\qW w' (fun j=>P j\/(w.heap.size<=j/\j<w'.heap.size)) y0 y1 (zv p (qZ f g t n))/\zF (fun j=>j=C) w w':=by
 have pB:=hC.1.lt;have nA:(qZ f g t n).length<=200:=by have:=zCc f g t n;have:=iA.1;omega
 have HS:=zB (show Calls Tryz.prog 151 #[v,.int .i64 t] w fun e w'=>∃vy vo,e = .returned (.agg #[vy,vo])/\zDL (qZ f g t n) (zBi f g t n) w w' vy vo by
  refine(zA2 v n lo hi f g t w hv).mono ?_;rintro e w1 ⟨vy,vo,l,l',rfl,hy,ho,hr⟩;rw[hy.1 ⟨iA,ht⟩,ho.1 ⟨iA,ht⟩]at hr;exact⟨vy,vo,rfl,hr⟩)
 have HC:=zB hC;have HP:=zB hP;have HH:=zB hH;obtain⟨-,av,cv,rfl,-,-⟩:=(show zU w lo hi v n f g from hv);clear hv iA ht hC hP hH;generalize qZ f g t n=l at HS HH nA ⊢;generalize zBi f g t n=l' at HS ⊢;go_enter Tryz.func94,Tryz.ntmps94;go_wp2_with fail;refine HS.out.mono ?_;clear HS;rintro e w1 ⟨vy,vo,rfl,oA,mA,-,tA⟩;obtain⟨ay,cy,rfl,-⟩:=zY oA;obtain⟨ao,co,rfl,-⟩:=zY mA;obtain⟨bo,bA,fB⟩:=oA.own (by unfold maxLen;omega);have fA:=zC w1 (.cells #[.slice ay l.length cy,.slice ao l'.length co] 201);have HX:=zB (zc.zRZ w1 (.slice ay l.length cy) (.slice ao l'.length co) 201);have gA:=zA tA fA;have bB:=zB (HC.out.zRX gA);have cB:=zB (HP.out.zRX gA);have kA:=zB (zw.zRX mA fA);have eB:=zB (bA.zRX fA);have mB:=zB fB;have rB:=tA.size;have nB:(w1.alloc (.cells #[.slice ay l.length cy,.slice ao l'.length co] 201)).heap.size=w1.heap.size+1:=World.size_alloc _ _;obtain⟨⟨x0,-⟩,⟨x1,-⟩⟩:=HX.out;clear oA mA bA fB HC HP;go_wp2_with fail;clear x0 x1;generalize w1.alloc (.cells #[.slice ay l.length cy,.slice ao l'.length co] 201)=w2 at fA HX gA bB cB kA eB nB ⊢
 go_loopw [16] (fun i wr=>∃(k:Nat) (y0 y1:Value),k<=l.length/\i = .int .i64 k/\yi wr C y0 y1 (.int .i64 tm) (.int .i64 nx) z2 z3 (.int .i64 id) (.int .i64 (m+(k:Int))) u8/\qW wr (fun j=>P j\/(w.heap.size<=j/\j<wr.heap.size)) y0 y1 (zv p (l.take k))/\zF (fun j=>j=C) w2 wr) (fun i _=>l.length - (intOf i).toNat)
 case atStart=>exact⟨0,_,_,Nat.zero_le _,rfl,by simpa using bB.out,cB.out.mono (fun j h=>Or.inl h),zF.refl _ _⟩
 case round=>
  obtain⟨k,y0,y1,hk,rfl,rA,vA,jA⟩:=hrel;have pA:=zB rA;have lA:=zB vA;have dA:=zB jA;have oB:=jA.size;have hX:=HX.out.zRf jA (fun h=>by omega);obtain⟨⟨x0,-⟩,⟨x1,-⟩⟩:=hX;clear rA vA jA;by_cases eA:k<l.length
  ·have kB:(k:Int)<(l.length:Int):=(by omega);have bA:=eB.out.zRf dA.out (fun h0 e=>by
    obtain⟨_,h,_⟩:=mB.out h0;omega)
   obtain⟨_,a,c,e1,_,hx⟩:=bA;obtain⟨off,rfl,cA⟩:=hx (by omega);simp only[Value.slice.injEq,true_and]at e1;obtain⟨rfl,rfl⟩:=e1;obtain⟨⟨q0,-⟩,⟨q1,-⟩⟩:=cA k eA;have hn:=HH.out.next eA;have e0:l[k]=(zf l k,zh l k):=by
    unfold zf zh;rw[List.getD_eq_getElem?_getD,List.getElem?_eq_getElem eA];rfl
   rw[e0]at hn;have HN:=zB hn;clear hn e0 cA hx;have aA:=zC wr (.cells #[.int .i64 (zf l k),.int .i64 (zh l k)] 61);obtain⟨⟨r0,-⟩,⟨r1,-⟩⟩:=zc.zRZ wr (.int .i64 (zf l k)) (.int .i64 (zh l k)) 61;go_wp2_with fail;have vB:=aA.size;refine(zNK C 0 wr.heap.size y0 y1 z2 z3 u8 tm nx id (m+(k:Int)) (zv p (l.take k)) (zv p (l.take (k+1))) (zf l k,zh l k) _ (pA.out.zRX aA) (((lA.out.at (lo:=0) (hi:=wr.heap.size) (fun j h=>⟨Nat.zero_le _,by
    rcases h with h | h
    ·have:=jB j h;omega
    ·omega⟩))).zRX aA) (by have:=zEQ HN.out.2;omega) HN.out.1 (by omega) (by omega)).mono ?_
   rintro e w4 ⟨⟨ve,rfl⟩,t0,t1,gB,dB,aB⟩;have lB:=zB gB;have iB:=zB dB;have sA:=zB aB;clear r0 r1 q0 q1 x0 x1 gB dB aB;go_wp2_with fail;go_roundw
   case rel=>
    have sB:=sA.out.size;refine⟨k+1,t0,t1,by omega,by go_num,?_,iB.out.isIn (fun j h1 h2=>Or.inr ⟨by omega,h2⟩),dA.out.trans ((zF.zRa aA).trans sA.out)⟩;have e:m+((k+1:Nat):Int)=m+(k:Int)+1:=(by omega);rw[e];exact lB.out
   case measure=>simp[intOf];omega
  ·obtain rfl:k=l.length:=(by omega);go_wp2_with fail;rw[List.take_length]at lA;go_ret;refine⟨_,y0,y1,rfl,?_,pA.out,lA.out,((zF.zRa gA).trans dA.out)⟩;exact kA.out.zRf (row:=some C) ⟨dA.out.os,dA.out.tape,dA.out.output,dA.out.size,fun k hk hn=>dA.out.block k hk (fun e=>hn (by rw[e]))⟩ (fun q hq e=>by
    injection e with e;have:=zw.lt kA.out hq;omega)
open Go.Extern.Stop Go.Stop Go.Extern
theorem zHC(p:Nat->Addr)(c:Int)(n:Nat)(v:Value)(hn:(n=7/\c=0/\v = .nilIface)\/(n<7/\c=zBg n/\v=qK (p n)))(w:World)(h:zE3 w p):Calls Tryz.prog 93 #[.int .i64 c] w fun e w'=>e = .returned v/\Below w.heap.size w w':=by
 have HE:=zd h;have HN:=zd hn;have iA:n<=7:=by omega
 have dA:=zd (show ∀k,k<n->zBg k≠c from fun k hk=>by
  rcases hn with⟨_,rfl,_⟩ | ⟨h7,rfl,_⟩
  ·exact zP7 k
  ·exact zQH (by omega) h7 (by omega))
 clear h hn;have ha:=zC w (.cells (zN1 p) 199);have HR:=zd (zGB.zRZ p w);go_enter Tryz.func93,Tryz.ntmps93;go_wp2_with fail;refine(zFx p _ HE.out).mono ?_;rintro e wa ⟨rfl,rfl⟩;go_wp2
 go_loopw [7] (fun i' wr=>∃k:Nat,k<=n/\i' = .int .i64 k/\zGB wr w.heap.size p/\Below w.heap.size w wr) (fun i _=>7 - (intOf i).toNat)
 case atStart=>exact⟨0,Nat.zero_le _,rfl,HR.out,ha⟩
 case round=>
  obtain⟨k,hk,rfl,hR,hb⟩:=hrel;by_cases fA:k<7
  ·have eA:(k:Int)<7:=(by omega);obtain⟨q0,q1⟩:=hR k fA;have bA:=zd hR;clear hR;have hn:=zC wr (.cells #[qK (p k),.int .i64 (zBg k)] 199);have aA:=zA hb hn;have cA:=zd (bA.out.zRX hn);have z0:(wr.alloc (.cells #[qK (p k),.int .i64 (zBg k)] 199)).cell? ⟨wr.heap.size,0,none⟩=some (qK (p k)):=(zJ (heap_alloc_new _ _) rfl).1;have z1:(wr.alloc (.cells #[qK (p k),.int .i64 (zBg k)] 199)).cell? ⟨wr.heap.size,1,none⟩=some (.int .i64 (zBg k)):=(zJ (heap_alloc_new _ _) rfl).1;by_cases he:k=n
   ·subst he;obtain⟨hc,hv⟩:=(HN.out.resolve_left (fun h=>by omega)).2;subst hc hv;go_wp2;go_ret;exact⟨rfl,aA⟩
   ·have gA:(zBg k == c)=false:=(by simpa using dA.out k (by omega));go_wp2;go_roundw
    case rel=>exact⟨k+1,by omega,by go_num,cA.out,aA⟩
    case measure=>simp[intOf];omega
  ·obtain rfl:k=7:=(by omega);obtain rfl:n=7:=(by omega);have hv:=(HN.out.resolve_right (fun h=>by omega)).2.2;subst hv;go_wp2;go_ret;exact⟨rfl,hb⟩
theorem zKr(g:Nat)(lb:Array Value)(eg:Enters Tryz.prog g)(P:Nat->Prop)(v:Value)(n lo hi:Nat)(f:Nat->qD)(w:World)(h:yW w lo hi v n f)(hn:n<=1000)
  (hP:∀i,i<n->∀a c w',Below w.heap.size w w'->zU w' lo hi (.slice a (f i).dn c) (f i).dn (f i).ds (f i).db->Calls Tryz.prog g (#[.agg #[.string (f i).name,.int .i64 (f i).origin,.int .i64 (f i).zRh,.int .i64 (f i).rs,.int .i64 (f i).rb,.slice a (f i).dn c]] ++ lb) w' fun e gA=>zG (P i) e/\Below w'.heap.size w' gA) :
  Calls Tryz.prog 103 #[v,.func (.func g) #[] lb] w fun e w'=>((∃i:Nat,i<n/\P i/\(∀j,j<i->¬P j)/\e = .returned (.int .i64 (i:Int)))\/((∀j,j<n->¬P j)/\e = .returned (.int .i64 (-1))))/\Below w.heap.size w w':=by
 have Hp:=zB h;obtain⟨-,a,c,rfl,-,-⟩:=h;have HP:=zB hP;clear hP;have e0:∀(args:Array Value) (w:World),(callFunc g args).run Tryz.prog w = .ok (.enter g args) w:=eg;clear eg;go_enter Tryz.func103,Tryz.ntmps103;go_wp2
 go_loopw [8] (fun i wr=>∃k:Nat,k<=n/\i = .int .i64 k/\(∀j,j<k->¬P j)/\Below w.heap.size w wr) (fun i _=>n - (intOf i).toNat)
 case atStart=>exact⟨0,Nat.zero_le _,rfl,fun j hj=>absurd hj (Nat.not_lt_zero _),Below.refl _ _⟩
 case round=>
  obtain⟨k,hk,rfl,bA,hb⟩:=hrel;have aA:=zB bA;clear bA;by_cases cA:k<n
  ·have fA:(k:Int)<(n:Int):=(by omega);obtain⟨b,off,vd,rfl,hs⟩:=(Hp.out.zRX hb).cells cA;obtain⟨-,ad,cd,rfl,-,-⟩:=id hs.zRl;have Hs:=zB hs.zRl;obtain⟨q0,q1,q2,q3,q4,q5,-,-⟩:=hs;go_wp2_with fail;clear q0 q1 q2 q3 q4 q5;refine(HP.out k cA ad cd wr hb Hs.out).mono ?_;rintro e w1 ⟨⟨t,rfl,ht⟩,eA⟩;have dA:=zA hb eA;clear eA Hs;by_cases hf:P k
   ·obtain rfl:t=true:=ht.2 hf;have HF:=zB hf;clear ht hf;go_wp2;go_ret;exact⟨Or.inl ⟨k,cA,HF.out,aA.out,rfl⟩,dA⟩
   ·obtain rfl:t=false:=zQ ht hf;have HF:=zB hf;clear ht hf;go_wp2;go_roundw
    case rel=>
     refine⟨k+1,by omega,by go_num,fun j hj=>?_,dA⟩;by_cases e:j=k
     ·subst e;exact HF.out
     ·exact aA.out j (by omega)
    case measure=>simp[intOf];omega
  ·obtain rfl:k=n:=(by omega);go_wp2;go_ret;exact⟨Or.inr ⟨aA.out,rfl⟩,hb⟩
theorem zMk(s:qD)(a:Option Addr)(c B:Nat)(name:ByteArray)(w:World)(h0:w.cell? ⟨B,0,none⟩=some (.string name)) :
  Calls Tryz.prog 104 #[.agg #[.string s.name,.int .i64 s.origin,.int .i64 s.zRh,.int .i64 s.rs,.int .i64 s.rb,.slice a s.dn c],.pointer (some ⟨B,0,none⟩)] w fun e w'=>zG (s.name=name) e/\Below w.heap.size w w':=by
 have ha:=zC w (.cells #[.string s.name,.int .i64 s.origin,.int .i64 s.zRh,.int .i64 s.rs,.int .i64 s.rb,.slice a s.dn c] 67);have k0:=(ha.cell (zD h0)).trans h0;clear h0;obtain⟨⟨x0,-⟩,⟨x1,-⟩,⟨x2,-⟩,⟨x3,-⟩,⟨x4,-⟩,⟨x5,-⟩⟩:=zi.zRZ w (.string s.name) (.int .i64 s.origin) (.int .i64 s.zRh) (.int .i64 s.rs) (.int .i64 s.rb) (.slice a s.dn c) 67;by_cases e1:s.name=name
 ·skip;have a1:=zCt e1;have H:=zB e1;clear e1;go_enter Tryz.func104,Tryz.ntmps104;go_wp2;go_ret;exact⟨zG.yes H.out,ha⟩
 ·skip;have a1:=zEP e1;have H:=zB e1;clear e1;go_enter Tryz.func104,Tryz.ntmps104;go_wp2;go_ret;exact⟨zG.no H.out,ha⟩
theorem zO2{n k:Nat}{f:Nat->qD}{name:ByteArray}{e:Ending}(hn:(f k).name=name)(hf:∀j,j<k->(f j).name≠name)(hk:k<n)
  (hr:(∃i:Nat,i<n/\(f i).name=name/\(∀j,j<i->¬(f j).name=name)/\e = .returned (.int .i64 (i:Int)))\/((∀j,j<n->¬(f j).name=name)/\e = .returned (.int .i64 (-1)))):e = .returned (.int .i64 (k:Int)):=by
 rcases hr with⟨i,hi,h1,h2,rfl⟩ | ⟨h1,_⟩
 ·obtain rfl:i=k:=by
   rcases Nat.lt_trichotomy i k with h | h | h
   ·exact absurd h1 (hf i h)
   ·exact h
   ·exact absurd hn (h2 k h)
  rfl
 ·exact absurd hn (h1 k hk)
theorem zJH(C lo hi n k c2:Nat)(a2:Option Addr)(f:Nat->qD)(name:ByteArray)(w:World)(hc:w.cell? ⟨C,4,none⟩=some (.slice a2 n c2))(hS:yW w lo hi (.slice a2 n c2) n f)(hn:n<=8)(hk:k<n)(bA:(f k).name=name)(aA:∀j,j<k->(f j).name≠name) :
  Calls Tryz.prog 37 #[.pointer (some ⟨C,0,none⟩),.string name] w fun e w'=>(∃b off,a2=some ⟨b,off,none⟩/\e = .returned (.pointer (some ⟨b,off+k*6,none⟩)))/\Below w.heap.size w w':=by
 have Hp:=zB hS;have Hn:=zB bA;have Hf:=zB aA;obtain⟨b,off,vd,rfl,-⟩:=hS.cells hk;clear hS bA aA;have ha:=zC w (.cells #[.string name] 9);have c0:(w.alloc (.cells #[.string name] 9)).cell? ⟨w.heap.size,0,none⟩=some (.string name):=World.cell?_alloc_at _ _ _ _ rfl;have eA:=(ha.cell (zD hc)).trans hc;have C0:=zB c0;have kA:(k:Int)<(n:Int):=by omega
 clear c0 hc;go_enter Tryz.func37,Tryz.ntmps37;go_wp2_with fail;generalize w.alloc (.cells #[.string name] 9)=W1 at ha eA C0 ⊢;have IX:=zB (show ∀w',Below W1.heap.size W1 w'->Calls Tryz.prog 103 #[.slice (some ⟨b,off,none⟩) n c2,.func (.func 104) #[] #[.pointer (some ⟨w.heap.size,0,none⟩)]] w' fun e fA=>e = .returned (.int .i64 (k:Int))/\Below w'.heap.size w' fA from fun w' gA=>by
  refine(zKr 104 #[.pointer (some ⟨w.heap.size,0,none⟩)] (enters_of Tryz.func104 (by kernel_rfl) rfl) (fun i=>(f i).name=name) _ n lo hi f w' ((Hp.out.zRX ha).zRX gA) (by omega) (fun i hi' a c fA iA hp=>zMk (f i) a c _ name fA (((zA gA iA).cell (zD C0.out)).trans C0.out))).mono ?_;rintro e w2 ⟨hr,dA⟩;exact⟨zO2 Hn.out Hf.out hk hr,dA⟩)
 go_region_held3 (fun w'=>w'.cell? ⟨C,4,none⟩=some (.slice (some ⟨b,off,none⟩) n c2)) (go_keep)
  (first | (go_at_call 103;refine(IX.out _ (Below.refl _ _).drew).mono ?_;rintro e w2 ⟨rfl,dA⟩;have cA:=zK dA;have jA:=(cA.cell (zD eA)).trans eA))
 go_wp2;go_ret;exact⟨⟨b,off,rfl,rfl⟩,zA ha cA⟩
theorem yv{P:Program}{w w1:World}{bA:Array Oper}{o:Oper}{a:Act}{K:Act->World->Prop}{Q:Exit->Act->World->Prop}{E:Prop}(cA:o.guard=none)(s x:Operand)(t:TypeId)
  (ho:o.op = .call {callee:=.builtin .append,args:=#[s,x],argTypes:=#[t,t]}) (vs vx v':Value) (hs:a.eval s=vs) (hx:a.eval x=vx) (aA:(Builtin.append_ #[t,t] o.type #[vs,vx]).run P w = .ok v' w1)
  (h:K (a.put o.dst v') w1):if Region.wanted o (yielded bA a.tmps)=true then Oper.wp P o a w K Q else E:=by
 have hw:Region.wanted o (yielded bA a.tmps)=true:=by simp[Region.wanted,cA]
 rw[if_pos hw];unfold Oper.wp;simp[execOp,ho,resolve,invoke,builtin,hs,hx,aA,Result.andThen];exact h
theorem yJ.nth{w:World}{bs n:Nat}{kb:Nat->Nat}{kv:Nat->Value}{v:Value}{f:Nat->qD}(h:yJ w bs kb kv v n f){k:Nat}(hk:k<n):∃off c,v = .slice (some ⟨bs,off,none⟩) n c/\zAH w bs (off+k*6) (kb k) (kv k) (f k):=by
 obtain⟨_,a,c,hv,_,hx⟩:=h;obtain⟨off,ha,h⟩:=hx (by omega);exact⟨off,c,by rw[hv,ha],h k hk⟩
theorem zLo(v:Value)(s:zl)(w:World):(Instr.field 99 (.agg #[.int .i64 s.id,.string s.name,.string s.set,.int .i64 s.zRh,.int .i64 s.time,.int .i64 s.rs,.int .i64 s.rb,v]) 4).run Tryz.prog w = .ok (.int .i64 s.time) w:=by kernel_rfl
theorem zLD(C lo hi:Nat)(z0 z1 z2 z3 u6 u7 u8:Value)(W:zH)(x:Int)(w:World)(h:zk w lo hi z0 z1 z2 z3 W)(hC:yi w C z0 z1 (.int .i64 W.time) (.int .i64 W.next) z2 z3 u6 u7 u8)(hn:W.pn<=20)(eA:zNW W.pn W.zRe)(hD:zCU W)(hx:(Lit.int .i64 x).wf=true) :
  Calls Tryz.prog 95 #[.pointer (some ⟨C,0,none⟩),.int .i64 x] w fun e w'=>∃a c,e = .returned (yd (.slice a (zN W x).dn c) (zN W x))/\Below w.heap.size w w':=by
 have Hp:=zB h;obtain⟨l0,lA,l1,kA,l2,iA,l3,jA,rfl,rfl,rfl,rfl⟩:=h.form;have HD:=zB hD;have fA:=zB eA;have Hx:=zB hx;have ha:=zC w (.cells #[.int .i64 0,.string ⟨#[]⟩,.string ⟨#[]⟩,.int .i64 0,.int .i64 0,.int .i64 0,.int .i64 0,.slice none 0 0] 99);obtain⟨⟨x0,-⟩,⟨x1,-⟩,⟨x2,-⟩,⟨x3,-⟩,⟨x4,-⟩,⟨x5,-⟩,-⟩:=hC.zRX ha;have HR:=zB (zCP.zRZ w (.int .i64 0) (.string ⟨#[]⟩) (.string ⟨#[]⟩) (.int .i64 0) (.int .i64 0) (.int .i64 0) (.int .i64 0) (.slice none 0 0) 99);clear h hD eA hx hC;obtain⟨S,hS⟩:∃S,S=zN W x:=⟨_,rfl⟩;rw[<-hS];unfold yd;have HS:=zB hS;clear hS;go_enter Tryz.func95,Tryz.ntmps95;go_wp2_with fail;clear x0 x1 x2 x3 x4 x5;generalize w.alloc (.cells #[.int .i64 0,.string ⟨#[]⟩,.string ⟨#[]⟩,.int .i64 0,.int .i64 0,.int .i64 0,.int .i64 0,.slice none 0 0] 99)=W1 at ha HR ⊢;refine(zG2 _ _ _ _ lo hi W W1 (Hp.out.zRX ha) hn fA.out).mono ?_;rintro e w2 ⟨A,rfl,hA,cA⟩;have HA:=zB hA;clear hA;go_wp2_with fail;refine(zBt lo hi W A x w2 HA.out HD.out Hx.out hn).mono ?_;rw[<-HS.out];unfold yd;rintro e w3 ⟨a,c,rfl,gA,bA⟩;have hb:=zA (zA ha cA) bA;have dA:=zB ((HR.out.zRX cA).zRX bA);clear gA;obtain⟨⟨⟨r0,g0⟩,⟨r1,g1⟩,⟨r2,g2⟩,⟨r3,g3⟩⟩,⟨r4,g4⟩,⟨r5,g5⟩,⟨r6,g6⟩,⟨r7,g7⟩⟩:=dA.out;go_wp2_with fail;have aA:=dA.out.put (.int .i64 S.id) (.string S.name) (.string S.set) (.int .i64 S.zRh) (.int .i64 S.time) (.int .i64 S.rs) (.int .i64 S.rb) (.slice a S.dn c);have hT:=zF.put8 w3 w.heap.size (.int .i64 S.id) (.string S.name) (.string S.set) (.int .i64 S.zRh) (.int .i64 S.time) (.int .i64 S.rs) (.int .i64 S.rb) (.slice a S.dn c);clear r0 g0 r1 g1 r2 g2 r3 g3 r4 g4 r5 g5 r6 g6 r7 g7;refine bodyPost_ret (v:=.agg #[.int .i64 S.id,.string S.name,.string S.set,.int .i64 S.zRh,.int .i64 S.time,.int .i64 S.rs,.int .i64 S.rb,.slice a S.dn c]) (by simp[results,Tryz.results95,go_sem,aA.1.1.1,aA.1.2.1.1,aA.1.2.2.1.1,aA.1.2.2.2.1,aA.2.1.1,aA.2.2.1.1,aA.2.2.2.1.1,aA.2.2.2.2.1]) rfl ⟨a,c,rfl,?_⟩
 ·exact hb.trans (hT.zRX (B:=w.heap.size) hb.size (fun k e=>by omega))
theorem zMX{W:zH}(h:zBI W)(x:Int):zCE (zN W x).time:=by
 by_cases hx:∃k,qs W x k
 ·obtain⟨k,hk⟩:=hx;rw[qq hk];have h1:=(h.2.2.2.2.2 k hk.1).1;have h2:=h.1;unfold zB6 at h2;exact⟨by have:=h1.2.2.1;omega,by have:=h1.2.2.2.1;omega⟩
 ·have e:zN W x=yK:=(by unfold zN;rw[dif_neg hx]);rw[e];exact⟨by decide,by decide⟩
theorem zQI(p:Nat->Addr)(C k hw tB fC:Nat)(z0 z1 z2 z3 sF jF vo:Value)(W:zH)(y:zCO)(name:ByteArray)(w:World)(hE:zE3 w p)(hI:zAx W)(hy:zGz y)(ht:zCE (zN W (W.zRg k).zRh).time)(hx:(Lit.int .i64 (W.zRg k).zRh).wf=true)(hk:zGJ W name k)(hD:(W.zRg k).dn<=1048576)(fI:C<hw)(sH:hw<=w.heap.size)
  (ho:qP w (C+1) hw z0 z1 z2 z3 W) (hC:yi w C z0 z1 (.int .i64 W.time) (.int .i64 W.next) z2 z3 (.int .i64 0) (.int .i64 0) .nilIface) (fE:zy w tB fC sF jF y.zRd) (nH:hw<=tB) (eI:fC<=w.heap.size) (mD:zU w hw w.heap.size vo y.old.length (zf y.old) (zh y.old)) :
  Calls Tryz.prog 35 #[.pointer (some ⟨C,0,none⟩),.string name,.agg #[sF,jF,.int .i64 y.rs,.int .i64 y.rb,vo,.int .i64 y.code]] w (zLy p (zBE W k y) C w):=by
 have h8:=hI.zRo.zRg.1;have lH:=hI.zRo.zRe.1;have iA:=hk.1;have tH:=hy.2.1;have HE:=zB hE;have HC:=zB hC;have HI:=zB hI;have HY:=zB hy;have Ht:=zB ht;have Hx:=zB hx;have Hk:=zB hk;obtain⟨fA,kA,jA,gA,rfl,rfl⟩:=fE.at.form;obtain⟨-,oo,oc,rfl,-,-⟩:=id mD;obtain⟨P,Q,R,sA,nA⟩:=ho;obtain⟨kB,kb,kv,hS,bF,mC,-,eF⟩:=sA.zRg;obtain⟨off,c,rfl,iF⟩:=hS.nth iA;have rD:Q kB:=mC _ (Or.inl ⟨by omega,rfl⟩);have dI:=nA kB (Or.inr (Or.inl rD));obtain⟨bs,vE⟩:∃bs,bs=kB:=⟨_,rfl⟩;obtain⟨o2,aD⟩:∃o2,o2=off+k*6:=⟨_,rfl⟩;have bC:=zB (show ∀w',yJ w' kB kb kv (.slice (some ⟨kB,off,none⟩) W.sn c) W.sn W.zRg->w'.cell? ⟨C,4,none⟩=some (.slice (some ⟨kB,off,none⟩) W.sn c)->Calls Tryz.prog 37 #[.pointer (some ⟨C,0,none⟩),.string name] w' fun e fD=>e = .returned (.pointer (some ⟨bs,o2,none⟩))/\Below w'.heap.size w' fD from fun w' aH hc=>by
  refine(zJH C (C+1) hw W.sn k c _ W.zRg name w' hc (aH.at (lo:=C+1) (hi:=hw) (fun j hj=>nA j (Or.inr (Or.inl (mC j hj))))) h8 iA hk.2.1 hk.2.2).mono ?_;rintro e w2 ⟨⟨b,dG,e1,rfl⟩,pA⟩;simp only[Option.some.injEq,Addr.mk.injEq,and_true]at e1;obtain⟨rfl,rfl⟩:=e1;exact⟨by rw[vE,aD],pA⟩)
 subst vE;have dA:=zB nA;have mG:=zB hS;have pG:=zB bF;have mB:=zB mC;have iB:=zB iF;have cG:=zB rD;have tF:=zB (eF k iA);have HZ:=zB sA.zRe.isIn;have tD:=zB sA.qr;have kG:=zB aD;have eG:=zB fE;have oG:=zB mD;clear sA nA hS bF mC iF hC hI hE hy ht hx hk rD eF fE mD;rw[<-aD]at iB;clear aD;have ha:=zC w (.cells #[.slice fA y.zRd.n kA,.slice jA y.zRd.hn gA,.int .i64 y.rs,.int .i64 y.rb,.slice oo y.old.length oc,.int .i64 y.code] 64);have HX:=zB (zi.zRZ w (.slice fA y.zRd.n kA) (.slice jA y.zRd.hn gA) (.int .i64 y.rs) (.int .i64 y.rb) (.slice oo y.old.length oc) (.int .i64 y.code) 64);have lF:(w.alloc (.cells #[.slice fA y.zRd.n kA,.slice jA y.zRd.hn gA,.int .i64 y.rs,.int .i64 y.rb,.slice oo y.old.length oc,.int .i64 y.code] 64)).heap.size=w.heap.size+1:=World.size_alloc _ _;have vH:C<w.heap.size:=by omega
 obtain⟨⟨x0,-⟩,⟨x1,-⟩,⟨x2,-⟩,⟨x3,-⟩,⟨x4,-⟩,⟨x5,-⟩⟩:=HX.out;by_cases sC:y.code=0;rotate_left
 ·obtain⟨i,rE,rF⟩:=HY.out.1.resolve_left sC;have nE:=zB rF;clear rF;go_enter Tryz.func35,Tryz.ntmps35;go_wp2_with fail;generalize w.alloc (.cells #[.slice fA y.zRd.n kA,.slice jA y.zRd.hn gA,.int .i64 y.rs,.int .i64 y.rb,.slice oo y.old.length oc,.int .i64 y.code] 64)=w1 at ha HX lF x0 x1 x2 x3 x4 x5 ⊢;refine(zHC p y.code i (qK (p i)) (Or.inr ⟨rE,nE.out,rfl⟩) w1 (HE.out.zRX ha)).mono ?_;rintro e w2 ⟨rfl,pA⟩;have dB:=zA ha pA;have fB:=zB (HC.out.zRX dB);clear x0 x1 x2 x3 x4 x5;obtain⟨-,-,-,-,-,-,-,-,⟨x8,mE⟩⟩:=fB.out;go_wp2_with fail;go_end0;have hT:=zF.put w2 C 8 (qK (p i));have vG:=dB.size;have bG:=hT.size;have mA:=fB.out;refine⟨⟨_,rfl⟩,((zF.zRa dB).trans hT).zRX (B:=C) (by omega) (fun j (h:j=C)=>by omega),Nat.lt_of_lt_of_le (show C<w2.heap.size by omega) bG,Or.inr ⟨i,rE,?_,_,_,_,_,_,_,_,_,⟨mA.1.zRY _ (Or.inr (by decide)),mA.2.1.zRY _ (Or.inr (by decide)),mA.2.2.1.zRY _ (Or.inr (by decide)),mA.2.2.2.1.zRY _ (Or.inr (by decide)),mA.2.2.2.2.1.zRY _ (Or.inr (by decide)),mA.2.2.2.2.2.1.zRY _ (Or.inr (by decide)),mA.2.2.2.2.2.2.1.zRY _ (Or.inr (by decide)),mA.2.2.2.2.2.2.2.1.zRY _ (Or.inr (by decide)),mA.2.2.2.2.2.2.2.2.set _⟩⟩⟩;unfold zBE;rw[if_neg sC,nE.out]
 have rC:=zB sC;obtain⟨yc,jH⟩:∃yc,yc=y.code:=⟨_,rfl⟩;go_enter Tryz.func35,Tryz.ntmps35;clear sC jH yc;go_wp2_with fail;generalize w.alloc (.cells #[.slice fA y.zRd.n kA,.slice jA y.zRd.hn gA,.int .i64 y.rs,.int .i64 y.rb,.slice oo y.old.length oc,.int .i64 y.code] 64)=w1 at ha HX lF x0 x1 x2 x3 x4 x5 ⊢;refine(zHC p y.code 7 .nilIface (Or.inl ⟨rfl,rC.out,rfl⟩) w1 (HE.out.zRX ha)).mono ?_;rintro e w2 ⟨rfl,pA⟩;have dB:=zA ha pA;have fB:=zB (HC.out.zRX dB);have sE:=zB (HX.out.zRX pA);have vG:=pA.size;clear x0 x1 x2 x3 x4 x5;obtain⟨-,-,-,-,-,-,-,-,⟨x8,mE⟩⟩:=fB.out;go_upto_region 3 with fail;clear x8 mE;have pC:=zF.put w2 C 8 .nilIface;have sD:=zB (show zF (fun j=>j=C) w (w2.setCell ⟨C,8,none⟩ .nilIface)from(zF.zRa dB).trans pC);have kC:=zB (show yi (w2.setCell ⟨C,8,none⟩ .nilIface) C z0 z1 (.int .i64 W.time) (.int .i64 W.next) (.slice (some ⟨bs,off,none⟩) W.sn c) z3 (.int .i64 0) (.int .i64 0) .nilIface from by
  have h:=fB.out;exact⟨h.1.zRY _ (Or.inr (by decide)),h.2.1.zRY _ (Or.inr (by decide)),h.2.2.1.zRY _ (Or.inr (by decide)),h.2.2.2.1.zRY _ (Or.inr (by decide)),h.2.2.2.2.1.zRY _ (Or.inr (by decide)),h.2.2.2.2.2.1.zRY _ (Or.inr (by decide)),h.2.2.2.2.2.2.1.zRY _ (Or.inr (by decide)),h.2.2.2.2.2.2.2.1.zRY _ (Or.inr (by decide)),h.2.2.2.2.2.2.2.2.set _⟩)
 have iC:=zB (sE.out.zRf pC (by omega));have kH:=pC.size;clear pC fB sE;generalize w2.setCell ⟨C,8,none⟩ .nilIface=w3 at sD kC iC kH ⊢;obtain⟨⟨x0,-⟩,⟨x1,-⟩,⟨x2,-⟩,⟨x3,-⟩,⟨x4,-⟩,⟨x5,-⟩⟩:=iC.out;obtain⟨⟨c0,bH⟩,⟨c1,vF⟩,-⟩:=kC.out;have n1:w.heap.size≠C:=by omega
 have n2:C≠w.heap.size:=by omega
 go_upto_region 4 with fail;clear x0 x1 x2 x3 x4 x5 c0 bH c1 vF;have oC:zF (fun j=>j=C) w3 ((w3.setCell ⟨C,0,none⟩ (.slice fA y.zRd.n kA)).setCell ⟨C,1,none⟩ (.slice jA y.zRd.hn gA)):=(zF.put _ C _ _).trans (zF.put _ C _ _);have aE:=zB (sD.out.trans oC);have nD:=zB (show yi ((w3.setCell ⟨C,0,none⟩ (.slice fA y.zRd.n kA)).setCell ⟨C,1,none⟩ (.slice jA y.zRd.hn gA)) C (.slice fA y.zRd.n kA) (.slice jA y.zRd.hn gA) (.int .i64 W.time) (.int .i64 W.next) (.slice (some ⟨bs,off,none⟩) W.sn c) z3 (.int .i64 0) (.int .i64 0) .nilIface from by
  have h:=kC.out;exact⟨(h.1.set _).zRY _ (Or.inr (by decide)),(h.2.1.zRY _ (Or.inr (by decide))).set _,(h.2.2.1.zRY _ (Or.inr (by decide))).zRY _ (Or.inr (by decide)),(h.2.2.2.1.zRY _ (Or.inr (by decide))).zRY _ (Or.inr (by decide)),(h.2.2.2.2.1.zRY _ (Or.inr (by decide))).zRY _ (Or.inr (by decide)),(h.2.2.2.2.2.1.zRY _ (Or.inr (by decide))).zRY _ (Or.inr (by decide)),(h.2.2.2.2.2.2.1.zRY _ (Or.inr (by decide))).zRY _ (Or.inr (by decide)),(h.2.2.2.2.2.2.2.1.zRY _ (Or.inr (by decide))).zRY _ (Or.inr (by decide)),(h.2.2.2.2.2.2.2.2.zRY _ (Or.inr (by decide))).zRY _ (Or.inr (by decide))⟩)
 have kE:=zB (iC.out.zRf oC (by omega));have sG:=oC.size;clear oC kC iC sD;generalize ((w3.setCell ⟨C,0,none⟩ (.slice fA y.zRd.n kA)).setCell ⟨C,1,none⟩ (.slice jA y.zRd.hn gA))=w4 at aE nD kE sG ⊢;have cB:∀j,zCN bs kb W.sn W.zRg j->¬j=C:=fun j hj e=>by have:=dA.out j (Or.inr (Or.inl (mB.out j hj)));omega
 have oF:=zB (mG.out.zRf aE.out cB);have eA:=zB cB;clear cB;obtain⟨c4,-⟩:=nD.out.2.2.2.2.1;go_wp2_with fail;refine(bC.out w4 oF.out c4).mono ?_;clear bC c4;rintro e w5 ⟨rfl,oB⟩;have gI:=oB.size;have eB:=zB (aE.out.trans (zF.zRa oB));have oE:=zB (nD.out.zRX oB);have fF:=zB (kE.out.zRX oB);have mF:=zB (oF.out.zRX oB);have bB:=iB.out.zRf eB.out (by omega) (fun h0=>eA.out _ (Or.inr ⟨k,iA,h0,rfl⟩));have cE:=zB bB;have nF:=zB ((eG.out.zRf eB.out (fun j e=>by omega)).isIn (S:=fun j=>tB<=j/\j<fC) (fun j h1 h2=>⟨h1,h2⟩));have cD:=zB (oG.out.same (fun j h1 h2=>eB.out.block j h2 (by omega)));have eE:=zB (tF.out.kept (zCK eB.out) (fun h0=>by
  rw[(show(kv k).ownBlock=some (kb k)by
   obtain⟨_,a,c,hv,_,hx⟩:=iB.out.zRl;obtain⟨off,ha,_⟩:=hx h0;rw[hv,ha];rfl)]
  intro e;injection e with e;exact eA.out _ (Or.inr ⟨k,iA,h0,rfl⟩) e))
 have cF:=zB (HZ.out.zRf eB.out (fun j hj e=>by have:=dA.out j (Or.inr (Or.inr hj));omega));have gD:bs≠C:=by omega
 have cC:zk w5 0 w5.heap.size (.slice fA y.zRd.n kA) (.slice jA y.zRd.hn gA) (.slice (some ⟨bs,off,none⟩) W.sn c) z3 {W with zRd:=y.zRd}:=⟨nF.out.at (fun j hj=>⟨Nat.zero_le _,by omega⟩),mF.out.at (fun j hj=>⟨Nat.zero_le _,by have:=dA.out j (Or.inr (Or.inl (mB.out j hj)));omega⟩),cF.out.at (fun j hj=>⟨Nat.zero_le _,by have:=dA.out j (Or.inr (Or.inr hj));omega⟩)⟩;have bD:=zB (show ∀w',Below w5.heap.size w5 w'->Calls Tryz.prog 95 #[.pointer (some ⟨C,0,none⟩),.int .i64 (W.zRg k).zRh] w' fun e fD=>(∃a c,e = .returned (yd (.slice a (zN W (W.zRg k).zRh).dn c) (zN W (W.zRg k).zRh)))/\Below w'.heap.size w' fD from fun w' tE=>by
  refine(zLD C 0 w5.heap.size _ _ _ _ _ _ _ {W with zRd:=y.zRd} (W.zRg k).zRh w' (cC.zRX tE) (oE.out.zRX tE) lH HI.out.zRo.idsWf HI.out.zRo.dist Hx.out).mono ?_;rw[zIl];rintro e w2 ⟨a,c,rfl,pA⟩;exact⟨⟨a,c,rfl⟩,pA⟩)
 have jD:bs<w5.heap.size:=by omega
 obtain⟨x4,-⟩:=fF.out.2.2.2.2.1;obtain⟨q2,-⟩:=bB.c2;have jC:=zB (show ∀w',Below w5.heap.size w5 w'->(fun w':World=>w'.cell? ⟨w.heap.size,4,none⟩=some (.slice oo y.old.length oc)/\w'.cell? ⟨bs,o2+2,none⟩=some (.int .i64 (W.zRg k).zRh)) w' from fun w' hb=>⟨(hb.cell (p:=⟨w.heap.size,4,none⟩) (zD x4)).trans x4,(hb.cell (p:=⟨bs,o2+2,none⟩) jD).trans q2⟩);have bI:∀(fn:Fn) (first dF:Array Value) (w:World),(Instr.makeFunc fn first dF).run Tryz.prog w = .ok (.func fn first dF) w:=fun _ _ _ _=>rfl
 have nC:Below w5.heap.size w5 w5.drew:=(Below.refl _ _).drew;have dE:=zB (zPE (W:=W) (k:=k) HY.out rC.out);have aG:=zB ((HY.out.2.2 rC.out).ptrs (by omega));obtain⟨A,hA⟩:∃A,A=zN W (W.zRg k).zRh:=⟨_,rfl⟩;have HA:=zB hA;unfold zE4 at dE;rw[<-hA]at bD dE Ht;unfold yd at bD;have fH:=fun (a:Option Addr) (c:Nat) (w:World)=>zLo (.slice a A.dn c) A w
 clear hA cC x4 q2 bB;go_upto_region 5 with fail;refine wp_region_held_drew (S:=(fun w':World=>w'.cell? ⟨w.heap.size,4,none⟩=some (.slice oo y.old.length oc)/\w'.cell? ⟨bs,o2+2,none⟩=some (.int .i64 (W.zRg k).zRh))) (by kernel_rfl) (jC.out _ nC) (fun hHeld=>?_);generalize w5.drew=q0 at hHeld nC ⊢;refine tk 0 (h:=tk 1 (h:=tk 2 (h:=tk 3 (h:=tk 4 (h:=tk 5 (h:=tk 6 (h:=tk 9 (h:=tk 10 (h:=?_)))))))));refine rd [7] (rc (fun K hK=>?_) .nil);go_simp;go_at_call 95;refine(bD.out _ nC).mono ?_;rintro e w6 ⟨⟨a6,c6,rfl⟩,eH⟩;have aA:=zA nC eH
 (try go_wp2_with fail)
 refine hK.out _ _ (jC.out _ aA) ?_;clear hK K;intro hHeld
 try simp only[Act.put,s1,s2,s3]
 refine tk 8 (h:=?_);refine rd [11] (rc (fun K hK=>?_) .nil);go_simp;go_at_call 94;have rH:=aA.size;refine(zOA C hw w.heap.size y.old.length (fun j=>tB<=j/\j<fC) _ _ _ _ .nilIface _ W.time W.next 0 0 A.time y.zRd (zf y.old) (zh y.old) w6 (cD.out.zRX aA) aG.out Ht.out dE.out (oE.out.zRX aA) (nF.out.zRX aA) (fun k hk=>by omega) (by omega) (by omega)).mono ?_;rintro e w7 ⟨v7,y0,y1,rfl,gB,pF,kF,sB⟩;obtain⟨a7,c7,rfl,-⟩:=zY gB;have jE:(fun w':World=>w'.cell? ⟨w.heap.size,4,none⟩=some (.slice oo y.old.length oc)/\w'.cell? ⟨bs,o2+2,none⟩=some (.int .i64 (W.zRg k).zRh)) w7:=by
  have h:=jC.out _ aA;exact⟨(sB.cell (o:=4) (show w.heap.size<w6.heap.size by omega) (by omega)).trans h.1,(sB.cell (o:=o2+2) (show bs<w6.heap.size by omega) gD).trans h.2⟩
 have pE:=zB gB;have iG:=zB pF;have tG:=zB kF;have dD:zF (fun j=>j=C) w5 w7:=(zF.zRa aA).trans sB;have oH:=sB.size;have lB:=zB dD;clear pF kF gB
 (try go_wp2_with fail)
 refine hK.out _ _ jE ?_;clear hK K hHeld jE sB;intro hHeld
 try simp only[Act.put,s1,s2,s3]
 refine tk 12 (h:=?_);refine wpAnyH_done (by kernel_rfl) ?_ _;clear hHeld fH bD jC;go_upto_region 6 with fail;have bA:=cE.out.zRf lB.out gD (fun h0=>eA.out _ (Or.inr ⟨k,iA,h0,rfl⟩));have lE:=fF.out.zRf lB.out (show ¬w.heap.size=C by omega);have aC:=eE.out.kept (zCK lB.out) (fun h0=>by
  rw[(show(kv k).ownBlock=some (kb k)by
   obtain⟨_,a,c,hv,_,hx⟩:=iB.out.zRl;obtain⟨off,ha,_⟩:=hx h0;rw[hv,ha];rfl)]
  intro e;injection e with e;exact eA.out _ (Or.inr ⟨k,iA,h0,rfl⟩) e)
 have jG:=zB (mF.out.zRf lB.out eA.out);obtain⟨L,hL⟩:∃L,L=zBi (zf y.old) (zh y.old) A.time y.old.length:=⟨_,rfl⟩;rw[<-hL]at pE;simp only[<-hL];have iI:L.length<=3:=by
  rw[hL];have:=zK7 (zf y.old) (zh y.old) A.time y.old.length;omega
 have cH:=zB hL;have cA:Below w7.heap.size w7 w7.drew:=(Below.refl _ _).drew;have gB:=zw.zRX pE.out cA;obtain⟨-,ak,ck,lC,-,-⟩:=id bA.zRl;have pD:=bA.zRl.zRX cA;have gE:=aC.zRX cA;rw[lC]at pD gE;obtain⟨da,dc,wb,nb,vB,eC,tC,aF⟩:=zHE (lo:=0) (hi:=w7.drew.heap.size) pD gE (by
  obtain⟨bb,ho,mH⟩:=zw.own gB (by unfold maxLen;omega);exact ho.at (fun h0=>⟨Nat.zero_le _,(mH h0).2.2⟩)) (by omega) 62
 have kD:=zB eC;have vA:=zB tC;have iE:=zB aF;have oA:∀j,(0<(W.zRg k).dn/\j=kb k)->j≠bs/\j≠C/\j≠w.heap.size:=fun j hj=>by
  have h1:=dA.out j (Or.inr (Or.inl (mB.out j (Or.inr ⟨k,iA,hj.1,hj.2⟩))));exact⟨fun e=>iB.out.zRk hj.1 (by rw[<-hj.2];exact e),by omega,by omega⟩
 have oD:bs<w7.drew.heap.size:=show bs<w7.heap.size by omega
 have nB:=lE.zRX cA;have fG:=nB.zRf tC (fun h=>(oA _ h).2.2 rfl);have tA:=fun (r:Nat) (u:Value) (h:zW w7 bs (o2+r) u)=>(h.zRX cA).zRf tC (fun h=>(oA _ h).1 rfl)
 have c5:=bA.c5;rw[lC]at c5;obtain⟨d5,gF⟩:=c5.zRX cA;obtain⟨m3,nG⟩:=tA 3 _ bA.c3;obtain⟨m4,gG⟩:=tA 4 _ bA.c4;obtain⟨m5,lG⟩:=tA 5 _ c5;obtain⟨-,-,⟨x2,-⟩,⟨x3,-⟩,-⟩:=nB;obtain⟨-,-,⟨u2,-⟩,⟨u3,-⟩,-⟩:=fG;have bE:=zB bA;have rA:=zB oA;have jI:=zB lC;have n3:bs≠w.heap.size:=by omega
 have n4:w.heap.size≠bs:=by omega
 clear lE tA c5 pD gE eC tC aF bA aC gB hL oA lC;have E1:zF (fun j=>j=bs) wb ((wb.setCell ⟨bs,o2+3,none⟩ (.int .i64 y.rs)).setCell ⟨bs,o2+3+1,none⟩ (.int .i64 y.rb)):=(zF.put _ bs _ _).trans (zF.put _ bs _ _);have E2:zF (fun j=>j=bs) wb (((wb.setCell ⟨bs,o2+3,none⟩ (.int .i64 y.rs)).setCell ⟨bs,o2+3+1,none⟩ (.int .i64 y.rb)).setCell ⟨bs,o2+5,none⟩ (.slice da ((W.zRg k).dn+L.length) dc)):=E1.trans (zF.put _ bs _ _);have vC:w.heap.size<wb.heap.size:=zD u2;have gH:=zB (show(fun w':World=>w'.cell? ⟨w.heap.size,2,none⟩=some (.int .i64 y.rs)/\w'.cell? ⟨w.heap.size,3,none⟩=some (.int .i64 y.rb)) ((wb.setCell ⟨bs,o2+3,none⟩ (.int .i64 y.rs)).setCell ⟨bs,o2+3+1,none⟩ (.int .i64 y.rb))from⟨(E1.cell (o:=2) vC n4).trans u2,(E1.cell (o:=3) vC n4).trans u3⟩);have rG:=zB (show(fun w':World=>w'.cell? ⟨w.heap.size,2,none⟩=some (.int .i64 y.rs)/\w'.cell? ⟨w.heap.size,3,none⟩=some (.int .i64 y.rb)) (((wb.setCell ⟨bs,o2+3,none⟩ (.int .i64 y.rs)).setCell ⟨bs,o2+3+1,none⟩ (.int .i64 y.rb)).setCell ⟨bs,o2+5,none⟩ (.slice da ((W.zRg k).dn+L.length) dc))from⟨(E2.cell (o:=2) vC n4).trans u2,(E2.cell (o:=3) vC n4).trans u3⟩);have gC:=zB E2;have dC:=zB vB;have HU:=zB (show(fun w':World=>w'.cell? ⟨w.heap.size,2,none⟩=some (.int .i64 y.rs)/\w'.cell? ⟨w.heap.size,3,none⟩=some (.int .i64 y.rb)) wb from⟨u2,u3⟩);have lD:=zB (show(fun w':World=>w'.cell? ⟨w.heap.size,2,none⟩=some (.int .i64 y.rs)/\w'.cell? ⟨w.heap.size,3,none⟩=some (.int .i64 y.rb)) w7.drew from⟨x2,x3⟩);clear vB E1 E2 u2 u3;refine wp_region_held_drew (S:=(fun w':World=>w'.cell? ⟨w.heap.size,2,none⟩=some (.int .i64 y.rs)/\w'.cell? ⟨w.heap.size,3,none⟩=some (.int .i64 y.rb))) (by kernel_rfl) lD.out (fun hHeld=>?_);generalize w7.drew=q7 at hHeld lD dC vA iE d5 gF x2 x3 cA oD ⊢;refine tk 0 (h:=tk 1 (h:=tk 2 (h:=tk 3 (h:=tk 4 (h:=tk 5 (h:=tk 6 (h:=tk 8 (h:=?_))))))));refine rd [7] (rc (fun K hK=>?_) .nil);go_simp
 (try go_wp2_with fail)
 refine hK.out _ _ (lD.out) ?_;clear hK K;intro hHeld
 try simp only[Act.put,s1,s2,s3]
 refine rd [9] (rc (fun K hK=>?_) .nil);refine yv rfl (.tmp 47) (.tmp 48) 62 rfl _ _ _ rfl rfl dC.out ?_
 (try go_wp2_with fail)
 refine hK.out _ _ (HU.out) ?_;clear hK K;intro hHeld
 try simp only[Act.put,s1,s2,s3]
 clear d5 gF x2 x3;refine tk 10 (h:=tk 11 (h:=?_));refine rd [12] (rc (fun K hK=>?_) .nil);go_simp
 (try go_wp2_with fail)
 refine hK.out _ _ (gH.out) ?_;clear hK K;intro hHeld
 try simp only[Act.put,s1,s2,s3]
 refine tk 13 (h:=tk 14 (h:=?_));refine rd [15] (rc (fun K hK=>?_) .nil);go_simp
 (try go_wp2_with fail)
 refine hK.out _ _ (rG.out) ?_;clear hK K;intro hHeld
 try simp only[Act.put,s1,s2,s3]
 refine wpAnyH_done (by kernel_rfl) ?_ _;clear hHeld m3 nG m4 gG m5 lG;go_wp2_with fail;go_end0;have eO:zBE W k y=⟨zLL W k y,0,((zE4 W k y).length:Int),0⟩:=if_pos rC.out;have eY:zE4 W k y=qZ (zf y.old) (zh y.old) A.time y.old.length:=by unfold zE4;rw[HA.out]
 have eD:zDu W k y=zBH (W.zRg k).dn (W.zRg k).ds (W.zRg k).db ++ L:=by unfold zDu zPQ;rw[cH.out,HA.out]
 have iH:yi (((wb.setCell ⟨bs,o2+3,none⟩ (.int .i64 y.rs)).setCell ⟨bs,o2+3+1,none⟩ (.int .i64 y.rb)).setCell ⟨bs,o2+5,none⟩ (.slice da ((W.zRg k).dn+L.length) dc)) C y0 y1 (.int .i64 W.time) (.int .i64 W.next) (.slice (some ⟨bs,off,none⟩) W.sn c) z3 (.int .i64 0) (.int .i64 ((zE4 W k y).length:Int)) .nilIface:=by
  have h:=iG.out;rw[Int.zero_add,<-eY]at h;exact((h.zRX cA).zRf vA.out (fun e=>(rA.out _ e).2.1 rfl)).zRf gC.out (fun e=>gD e.symm)
 have pH:=cA.size;have cI:=vA.out.size;have aI:=gC.out.size;have pB:zF (fun j=>j=C\/j=bs\/(0<(W.zRg k).dn/\j=kb k)) w (((wb.setCell ⟨bs,o2+3,none⟩ (.int .i64 y.rs)).setCell ⟨bs,o2+3+1,none⟩ (.int .i64 y.rb)).setCell ⟨bs,o2+5,none⟩ (.slice da ((W.zRg k).dn+L.length) dc)):=((((eB.out.mono (fun j e=>Or.inl e)).trans (lB.out.mono (fun j e=>Or.inl e))).trans (zF.zRa cA)).trans (vA.out.mono (fun j e=>Or.inr (Or.inr e)))).trans (gC.out.mono (fun j e=>Or.inr (Or.inl e)));have lA:∀j,(0<(W.zRg k).dn/\j=kb k)->C+1<=j/\j<hw/\Q j:=fun j hj=>by
  have h1:=mB.out j (Or.inr ⟨k,iA,hj.1,hj.2⟩);have:=dA.out j (Or.inr (Or.inl h1));exact⟨this.1,this.2,h1⟩
 rw[eO];refine⟨⟨_,rfl⟩,pB.zRX (B:=C) (by omega) (fun j h=>by
  rcases h with h | h | h
  ·omega
  ·omega
  ·have:=lA j h;omega),by omega,Or.inl ⟨rfl,_,_,_,_,iH,?_⟩⟩
 have aB:zF (fun j=>j=bs\/(0<(W.zRg k).dn/\j=kb k)) q7 (((wb.setCell ⟨bs,o2+3,none⟩ (.int .i64 y.rs)).setCell ⟨bs,o2+3+1,none⟩ (.int .i64 y.rb)).setCell ⟨bs,o2+5,none⟩ (.slice da ((W.zRg k).dn+L.length) dc)):=(vA.out.mono (fun j e=>Or.inr e)).trans (gC.out.mono (fun j e=>Or.inl e));have jB:∀o u,zW w7 bs o u->zW wb bs o u:=fun o u h=>(h.zRX cA).zRf vA.out (fun h=>(rA.out _ h).1 rfl)
 have e2:=kG.out;have iD:0<(zBU W k y).dn->((0<(W.zRg k).dn/\nb=kb k)\/(q7.heap.size<=nb/\nb<wb.heap.size)):=fun h=>iE.out (by
  have:(zBU W k y).dn=(W.zRg k).dn+L.length:=(by show(zDu W k y).length=_;rw[eD,List.length_append,zAq]);omega)
 have rB:0<(zBU W k y).dn->nb≠bs:=fun h=>by
  rcases iD h with h | h
  ·exact(rA.out nb h).1
  ·omega
 have vD:zAH (((wb.setCell ⟨bs,o2+3,none⟩ (.int .i64 y.rs)).setCell ⟨bs,o2+3+1,none⟩ (.int .i64 y.rb)).setCell ⟨bs,o2+5,none⟩ (.slice da ((W.zRg k).dn+L.length) dc)) bs (off+k*6) nb (.slice da ((W.zRg k).dn+L.length) dc) (zBU W k y):=by
  rw[<-e2];have hs:=bE.out;refine⟨?_,?_,?_,?_,?_,?_,?_,iB.out.zRn,rB⟩
  ·exact(((jB _ _ hs.c0).zRY _ (Or.inr (by omega))).zRY _ (Or.inr (by omega))).zRY _ (Or.inr (by omega))
  ·exact(((jB _ _ hs.c1).zRY _ (Or.inr (by omega))).zRY _ (Or.inr (by omega))).zRY _ (Or.inr (by omega))
  ·exact(((jB _ _ hs.c2).zRY _ (Or.inr (by omega))).zRY _ (Or.inr (by omega))).zRY _ (Or.inr (by omega))
  ·exact(((jB _ _ hs.c3).set _).zRY _ (Or.inr (by omega))).zRY _ (Or.inr (by omega))
  ·exact(((jB _ _ hs.c4).zRY _ (Or.inr (by omega))).set _).zRY _ (Or.inr (by omega))
  ·exact(((jB _ _ hs.c5).zRY _ (Or.inr (by omega))).zRY _ (Or.inr (by omega))).set _
  ·have h:=kD.out.zRf gC.out (fun h0=>rB (by show 0<(zDu W k y).length;rw[eD];exact h0));show zm _ nb _ (zDu W k y).length (zf (zDu W k y)) (zh (zDu W k y));rw[eD];exact h
 show qM _ (C+1) _ _ _ _ _ (zLL W k y);refine⟨(fun j=>(tB<=j/\j<fC)\/(w6.heap.size<=j/\j<w7.heap.size)),(fun j=>Q j\/(q7.heap.size<=j/\j<wb.heap.size)),R,⟨?_,?_,?_,?_,?_,?_⟩,?_⟩
 ·have h:=(tG.out.zRX cA).zRf aB (fun j hj e=>by
   rcases e with e | e
   ·omega
   ·have:=lA j e;omega)
  show qW _ _ _ _ (zv y.zRd (zE4 W k y));rw[eY];exact h
 ·refine zHx (w:=q7) (jG.out.zRX cA) pG.out (fun j hj=>Or.inl (mB.out j hj)) iA aB (fun j hj dH r hr u hc=>?_) vD (fun h=>⟨(iD h).imp id (fun h j hj e=>?_),?_⟩)
  ·exact(((hc.zRf vA.out (fun h=>(rA.out _ h).1 rfl)).zRY _ (Or.inr (by omega))).zRY _ (Or.inr (by omega))).zRY _ (Or.inr (by omega))
  ·have:=dA.out j (Or.inr (Or.inl (mB.out j hj)));omega
  ·rcases iD h with h | h
   ·exact Or.inl (lA nb h).2.2
   ·exact Or.inr h
 ·exact((cF.out.zRf lB.out (fun j hj e=>by have:=dA.out j (Or.inr (Or.inr hj));omega)).zRX cA).zRf aB (fun j hj e=>by
   rcases e with e | e
   ·exact tD.out bs cG.out (by rw[<-e];exact hj)
   ·exact tD.out j (lA j e).2.2 hj)
 ·intro j hj hq;rcases hq with hq | hq
  ·have:=dA.out j (Or.inr (Or.inl hq));omega
  ·omega
 ·intro j hj hq;have:=dA.out j (Or.inr (Or.inr hq));omega
 ·intro j hj hq;rcases hj with hj | hj
  ·exact tD.out j hj hq
  ·have:=dA.out j (Or.inr (Or.inr hq));omega
 ·rintro j (h | h | h)
  ·omega
  ·rcases h with h | h
   ·have:=dA.out j (Or.inr (Or.inl h));omega
   ·omega
  ·have:=dA.out j (Or.inr (Or.inr h));omega
theorem zHs(p:Nat->Addr)(C k B0 B1 B2:Nat)(z0 z1 z2 z3:Value)(W:zH)(name:ByteArray)(zRj:Int)(data:ByteArray)(w:World)(hE:zE3 w p)(hI:zAx W)(ht:zCE (zN W (W.zRg k).zRh).time)(hx:(Lit.int .i64 (W.zRg k).zRh).wf=true)(hk:zGJ W name k)(hD:(W.zRg k).dn<=1048576)(kB:C<w.heap.size)(k0:w.cell? ⟨B0,0,none⟩=some (.string name))(l0:B0<C)(k1:w.cell? ⟨B1,0,none⟩=some (.int .i64 zRj))(l1:B1<C)(k2:w.cell? ⟨B2,0,none⟩=some (.string data))(l2:B2<C)
  (ho:qP w (C+1) w.heap.size z0 z1 z2 z3 W) (hC:yi w C z0 z1 (.int .i64 W.time) (.int .i64 W.next) z2 z3 (.int .i64 0) (.int .i64 0) .nilIface) :
  Calls Tryz.prog 34 #[.pointer (some ⟨C,0,none⟩),.pointer (some ⟨B0,0,none⟩),.pointer (some ⟨B1,0,none⟩),.pointer (some ⟨B2,0,none⟩)] w (zLy p (zBE W k (qo W.zRd (W.zRg k).rs (W.zRg k).rb zRj data W.time)) C w):=by
 have h8:=hI.zRo.zRg.1;have vA:=hk.1;have HC:=zB hC;have HO:=zB ho;obtain⟨bs,o2,jA,oA⟩:∃bs o2,Hid (∃nb nv,zAH w bs o2 nb nv (W.zRg k))/\Hid (∀w',Below w.heap.size w w'->Calls Tryz.prog 37 #[.pointer (some ⟨C,0,none⟩),.string name] w' fun e bA=>e = .returned (.pointer (some ⟨bs,o2,none⟩))/\Below w'.heap.size w' bA):=by
  obtain⟨P,Q,R,pA,mA⟩:=ho;have mB:=pA.isIn;obtain⟨oB,kb,kv,hS,tB,jB⟩:=mB.zRg;obtain⟨off,c,rfl,lA⟩:=hS.nth vA;refine⟨oB,off+k*6,zB ⟨_,_,lA⟩,zB (fun w' iA=>?_)⟩;obtain⟨c4,-⟩:=(hC.zRX iA).2.2.2.2.1;refine(zJH C (C+1) w.heap.size W.sn k c _ W.zRg name w' c4 ((hS.at (lo:=C+1) (hi:=w.heap.size) (fun j hj=>mA j (Or.inr (Or.inl (jB j hj))))).zRX iA) h8 vA hk.2.1 hk.2.2).mono ?_;rintro e w2 ⟨⟨b,pB,e1,rfl⟩,gA⟩;simp only[Option.some.injEq,Addr.mk.injEq,and_true]at e1;obtain⟨rfl,rfl⟩:=e1;exact⟨rfl,gA⟩
 obtain⟨nb,nv,lA⟩:=jA.out;clear jA;have jA:=zB lA;have fA:zu w (C+1) w.heap.size z0 z1 W.zRd:=ho.own.at.zRd;obtain⟨a0,c0,a1,c1,rfl,rfl⟩:=fA.form;obtain⟨y,hy⟩:∃y,y=qo W.zRd (W.zRg k).rs (W.zRg k).rb zRj data W.time:=⟨_,rfl⟩;have rB:=zB (show ∀w',Below w.heap.size w w'->Calls Tryz.prog 36 #[.agg #[.slice a0 W.zRd.n c0,.slice a1 W.zRd.hn c1],.agg #[.int .i64 (W.zRg k).rs,.int .i64 (W.zRg k).rb],.int .i64 zRj,.string data,.int .i64 W.time] w' (zHa y w')from fun w' hb=>by
  rw[hy];exact zFn _ _ (C+1) w.heap.size W.zRd (W.zRg k).rs (W.zRg k).rb zRj W.time data w' (fA.zRX hb))
 have HG:=zB (show zGz y by rw[hy];exact zFQ _ _ _ _ _ _);rw[<-hy];have gB:=zB (show ∀(w' bA:World) (v0 v1 vo:Value) (lo hi:Nat),Below w.heap.size w w'->Below w'.heap.size w' bA->zy bA lo hi v0 v1 y.zRd->w'.heap.size<=lo->hi<=bA.heap.size->zw bA w'.heap.size vo y.old->Calls Tryz.prog 35 #[.pointer (some ⟨C,0,none⟩),.string name,.agg #[v0,v1,.int .i64 y.rs,.int .i64 y.rb,vo,.int .i64 y.code]] bA (zLy p (zBE W k y) C bA)from fun w' bA v0 v1 vo lo hi hb iA hp h1 h2 hr=>by
  have gA:=zA hb iA;have hz:=hb.size;have vB:=iA.size;have sB:=gA.size;refine zQI p C k w.heap.size lo hi _ _ _ _ v0 v1 vo W y name bA (hE.zRX gA) hI HG.out ht hx hk hD kB sB (ho.zRX gA) (hC.zRX gA) hp (by omega) h2 ?_;obtain⟨bb,h3,dB⟩:=zw.own hr (by have:=HG.out.2.1;unfold maxLen;omega);exact h3.at (fun h0=>⟨by have:=(dB h0).2.1;omega,(dB h0).2.2⟩))
 have nA:Below w.heap.size w w.drew:=(Below.refl _ _).drew;have aA:=zB (show ∀w',Below w.heap.size w w'->(fun w':World=>w'.cell? ⟨B0,0,none⟩=some (.string name)/\w'.cell? ⟨B1,0,none⟩=some (.int .i64 zRj)/\w'.cell? ⟨B2,0,none⟩=some (.string data)) w' from fun w' hb=>⟨(hb.cell (zD k0)).trans k0,(hb.cell (zD k1)).trans k1,(hb.cell (zD k2)).trans k2⟩);have eA:=zB (show ∀w',Below C w w'->(fun w':World=>w'.cell? ⟨B0,0,none⟩=some (.string name)/\w'.cell? ⟨B1,0,none⟩=some (.int .i64 zRj)/\w'.cell? ⟨B2,0,none⟩=some (.string data)) w' from fun w' hb=>⟨(hb.cell (p:=⟨B0,0,none⟩) l0).trans k0,(hb.cell (p:=⟨B1,0,none⟩) l1).trans k1,(hb.cell (p:=⟨B2,0,none⟩) l2).trans k2⟩);clear hE hI ht hx hk hD ho hC fA lA hy;go_enter Tryz.func34,Tryz.ntmps34;go_upto_region 0 with fail;clear k0 k1 k2;refine wp_region_held_drew (S:=(fun w':World=>w'.cell? ⟨B0,0,none⟩=some (.string name)/\w'.cell? ⟨B1,0,none⟩=some (.int .i64 zRj)/\w'.cell? ⟨B2,0,none⟩=some (.string data))) (by kernel_rfl) (aA.out _ nA) (fun hHeld=>?_);have aB:=nA;generalize w.drew=q0 at hHeld nA aB ⊢;refine tk 0 (h:=tk 1 (h:=tk 2 (h:=tk 3 (h:=tk 4 (h:=tk 5 (h:=tk 7 (h:=tk 8 (h:=tk 13 (h:=tk 14 (h:=tk 15 (h:=tk 16 (h:=tk 17 (h:=tk 18 (h:=?_))))))))))))));refine zJP [6,9,10,11,12,19] (fun i=>if i=10 then [9] else if i=11 then [10] else if i=12 then [11] else []) (fun i=>i+5) (fun i v w'=>(i=6->v = .agg #[.slice a0 W.zRd.n c0,.slice a1 W.zRd.hn c1])/\(i=9->v = .pointer (some ⟨bs,o2,none⟩))/\(i=10->v = .pointer (some ⟨bs,o2,none⟩))/\(i=11->v = .pointer (some ⟨bs,o2+3,none⟩))/\(i=12->v = .agg #[.int .i64 (W.zRg k).rs,.int .i64 (W.zRg k).rb])/\(i=19->v = .int .i64 W.time)) 2 (G:=fun w'=>Below w.heap.size w w') (by kernel_rfl) (by decide) (by decide) (by decide) ?_ (fun _ _ h t=>zA h t) (by assumption) aB ?_ ?_
 ·intro i v w' bA hf t;exact hf
 ·intro i hi x w2 hS hG hD K hK;simp only[List.mem_cons,List.not_mem_nil,or_false]at hi;rcases hi with rfl | rfl | rfl | rfl | rfl | rfl
  ·refine wpOp_step (zAa rfl) (fun K' cA=>?_);simp only[qX,Act.put,Nat.reduceAdd,s1,s2,s3];obtain⟨⟨c0,-⟩,⟨c1,-⟩,⟨c2,-⟩,-⟩:=HC.out.zRX hG;go_simp;refine cA _ _ (hK.out _ _ w2 ?_ (aA.out _ (zA hG (Below.refl _ _))) ⟨fun _=>rfl,fun e=>absurd e (by decide),fun e=>absurd e (by decide),fun e=>absurd e (by decide),fun e=>absurd e (by decide),fun e=>absurd e (by decide)⟩ (Below.refl _ _));simp only[qX,Act.put,Nat.reduceAdd,s1,s2,s3]
  ·refine wpOp_step (zAa rfl) (fun K' cA=>?_);simp only[qX,Act.put,Nat.reduceAdd,s1,s2,s3];go_simp;go_at_call 37;refine(oA.out _ hG).mono ?_;rintro e w3 ⟨rfl,kA⟩;refine cA _ _ (hK.out _ _ w3 ?_ (aA.out _ (zA hG kA)) ⟨fun e=>absurd e (by decide),fun _=>rfl,fun e=>absurd e (by decide),fun e=>absurd e (by decide),fun e=>absurd e (by decide),fun e=>absurd e (by decide)⟩ kA);simp only[qX,Act.put,Nat.reduceAdd,s1,s2,s3]
  ·refine wpOp_step (zAa rfl) (fun K' cA=>?_);simp only[qX,Act.put,Nat.reduceAdd,s1,s2,s3];have e9:=(hD 9 (by decide)).2.1 rfl;simp only[e9];go_simp;refine cA _ _ (hK.out _ _ w2 ?_ (aA.out _ (zA hG (Below.refl _ _))) ⟨fun e=>absurd e (by decide),fun e=>absurd e (by decide),fun _=>rfl,fun e=>absurd e (by decide),fun e=>absurd e (by decide),fun e=>absurd e (by decide)⟩ (Below.refl _ _));simp only[qX,Act.put,Nat.reduceAdd,s1,s2,s3,e9]
  ·refine wpOp_step (zAa rfl) (fun K' cA=>?_);simp only[qX,Act.put,Nat.reduceAdd,s1,s2,s3];have e9:=(hD 10 (by decide)).2.2.1 rfl;simp only[e9];go_simp;refine cA _ _ (hK.out _ _ w2 ?_ (aA.out _ (zA hG (Below.refl _ _))) ⟨fun e=>absurd e (by decide),fun e=>absurd e (by decide),fun e=>absurd e (by decide),fun _=>rfl,fun e=>absurd e (by decide),fun e=>absurd e (by decide)⟩ (Below.refl _ _));simp only[qX,Act.put,Nat.reduceAdd,s1,s2,s3,e9]
  ·refine wpOp_step (zAa rfl) (fun K' cA=>?_);simp only[qX,Act.put,Nat.reduceAdd,s1,s2,s3];have e9:=(hD 11 (by decide)).2.2.2.1 rfl;simp only[e9];obtain⟨q3,-⟩:=(jA.out.zRX hG).c3;obtain⟨q4,-⟩:=(jA.out.zRX hG).c4;go_simp;refine cA _ _ (hK.out _ _ w2 ?_ (aA.out _ (zA hG (Below.refl _ _))) ⟨fun e=>absurd e (by decide),fun e=>absurd e (by decide),fun e=>absurd e (by decide),fun e=>absurd e (by decide),fun _=>rfl,fun e=>absurd e (by decide)⟩ (Below.refl _ _));simp only[qX,Act.put,Nat.reduceAdd,s1,s2,s3,e9]
  ·refine wpOp_step (zAa rfl) (fun K' cA=>?_);simp only[qX,Act.put,Nat.reduceAdd,s1,s2,s3];obtain⟨⟨c0,-⟩,⟨c1,-⟩,⟨c2,-⟩,-⟩:=HC.out.zRX hG;go_simp;refine cA _ _ (hK.out _ _ w2 ?_ (aA.out _ (zA hG (Below.refl _ _))) ⟨fun e=>absurd e (by decide),fun e=>absurd e (by decide),fun e=>absurd e (by decide),fun e=>absurd e (by decide),fun e=>absurd e (by decide),fun _=>rfl⟩ (Below.refl _ _));simp only[qX,Act.put,Nat.reduceAdd,s1,s2,s3]
 ·intro x w2 hS hG hF;have f6:=(hF 6 (by decide)).1 rfl;have f12:=(hF 12 (by decide)).2.2.2.2.1 rfl;have ft:=(hF 19 (by decide)).2.2.2.2.2 rfl;simp only[qX,zAy,if_true,Act.put,Nat.reduceAdd,s1,s2,s3,f6,f12,ft];clear hF f6 f12 ft hHeld;refine rd [20] (rc (fun K hK=>?_) .nil);go_simp;go_at_call 36;refine(rB.out w2 hG).mono ?_;rintro e w3 ⟨v0,v1,vo,lo,hi,rfl,fB,lB,sA,rA,-,kA⟩;obtain⟨b0,d0,b1,d1,rfl,rfl⟩:=sA.at.form;obtain⟨b2,d2,rfl,-⟩:=zY rA;have nB:=zB sA;have iB:=zB rA;have bB:=zA hG kA;clear sA rA
  (try go_wp2_with fail)
  refine hK.out _ _ (aA.out _ bB) ?_;clear hK K;intro hHeld
  try simp only[Act.put,s1,s2,s3]
  refine rd [21] (rc (fun K hK=>?_) .nil);go_simp;go_at_call 35;refine(gB.out w2 w3 _ _ _ lo hi hG kA nB.out fB lB iB.out).mono ?_;rintro e w4 ⟨⟨ve,rfl⟩,eB,dA⟩;have tA:=zB dA;have cB:Below C w w4:=(bB.mono (by omega)).trans eB;clear dA
  (try go_wp2_with fail)
  refine hK.out _ _ (eA.out _ cB) ?_;clear hK K;intro hHeld
  try simp only[Act.put,s1,s2,s3]
  refine wpAnyH_done (by kernel_rfl) ?_ _;clear hHeld;go_wp2_with fail;go_end0;refine⟨⟨_,rfl⟩,cB,tA.out.1,?_⟩;rcases tA.out.2 with h | h
  ·exact Or.inl h
  ·exact Or.inr h
theorem zOb{W:zH}{x:ByteArray}(h:zAS W x):∃k,zGJ W x k:=by
 obtain⟨k,hk,hn⟩:=h
 induction k using Nat.strongRecOn with
 | _ k ih=>
  by_cases e:∃j,j<k/\(W.zRg j).name=x
  ·obtain⟨j,hj,hx⟩:=e;exact ih j hj (by omega) hx
  ·exact⟨k,hk,hn,fun j hj hx=>e ⟨j,hj,hx⟩⟩
theorem zIV.all{W:zH}{a b:Prop}{m:Nat}{Q:Nat->Prop}{ei:Nat->Nat}(h:zIV W a b m Q ei none):∀j,j<m->Q j:=by
 rcases h with⟨_,e⟩ | ⟨_,_,e⟩ | ⟨_,_,_,k,hk,_,_,e⟩ | ⟨_,_,_,h4,_⟩
 ·cases e
 ·cases e
 ·cases e
 ·exact h4
theorem zIV.uniq{W:zH}{a b:Prop}{m:Nat}{Q:Nat->Prop}{ei:Nat->Nat}{r r':Option Nat}(h:zIV W a b m Q ei r)(h':zIV W a b m Q ei r'):r=r':=by
 rcases h with⟨h1,e⟩ | ⟨h1,h2,e⟩ | ⟨h1,h2,h3,i,hi,hn,hl,e⟩ | ⟨h1,h2,h3,h4,e⟩
 ·rcases h' with⟨g1,e'⟩ | ⟨g1,g2,e'⟩ | ⟨g1,g2,g3,j,hj,gn,gl,e'⟩ | ⟨g1,g2,g3,g4,e'⟩
  ·rw[e,e']
  ·exact absurd h1 g1
  ·exact absurd h1 g1
  ·exact absurd h1 g1
 ·rcases h' with⟨g1,e'⟩ | ⟨g1,g2,e'⟩ | ⟨g1,g2,g3,j,hj,gn,gl,e'⟩ | ⟨g1,g2,g3,g4,e'⟩
  ·exact absurd g1 h1
  ·rw[e,e']
  ·rcases h2 with h | h
   ·exact absurd g2 h
   ·exact absurd h g3
  ·rcases h2 with h | h
   ·exact absurd g2 h
   ·exact absurd h g3
 ·rcases h' with⟨g1,e'⟩ | ⟨g1,g2,e'⟩ | ⟨g1,g2,g3,j,hj,gn,gl,e'⟩ | ⟨g1,g2,g3,g4,e'⟩
  ·exact absurd g1 h1
  ·rcases g2 with h | h
   ·exact absurd h2 h
   ·exact absurd h h3
  ·rcases Nat.lt_trichotomy i j with h | h | h
   ·exact absurd (gl i h) hn
   ·rw[e,e',h]
   ·exact absurd (hl j h) gn
  ·exact absurd (g4 i hi) hn
 ·rcases h' with⟨g1,e'⟩ | ⟨g1,g2,e'⟩ | ⟨g1,g2,g3,j,hj,gn,gl,e'⟩ | ⟨g1,g2,g3,g4,e'⟩
  ·exact absurd g1 h1
  ·rcases g2 with h | h
   ·exact absurd h2 h
   ·exact absurd h h3
  ·exact absurd (h4 j hj) gn
  ·rw[e,e']
def yz(W:zH)(name:ByteArray)(zRj:Int)(data:ByteArray)(w:World)(e:Ending)(w':World):Prop:=∃r o,zIV W (∃i,i<2/\8000<((fun i=>match i with | 0=>name | _=>data) i).size) (∃i,i<0/\¬yI ((fun _=>⟨#[]⟩) i)) 1 (fun i=>match i with  | _=>zAS W name) (fun i=>match i with  | _=>2) r/\(r=none->∃k,zGJ W name k/\o=zBE W k (qo W.zRd (W.zRg k).rs (W.zRg k).rb zRj data W.time))/\zB0 (zNA r o) w e w'
theorem yz.ill{W:zH}{name:ByteArray}{zRj:Int}{data:ByteArray}{w w':World}{e:Ending}{i:Nat}(hr:zIV W (∃i,i<2/\8000<((fun i=>match i with | 0=>name | _=>data) i).size) (∃i,i<0/\¬yI ((fun _=>⟨#[]⟩) i)) 1 (fun i=>match i with  | _=>zAS W name) (fun i=>match i with  | _=>2) (some i))(h:zB0 (zB3 (zBg i)) w e w'):yz W name zRj data w e w':=⟨some i,zB3 0,hr,fun e=>(by cases e),h⟩
theorem zGS(p:Nat->Addr)(v0 v1 v2 v3:Value)(lo hi:Nat)(W:zH)(name:ByteArray)(zRj:Int)(data:ByteArray)(w:World)(hE:zE3 w p)(h:zk w lo hi v0 v1 v2 v3 W)(dA:zCQ W)(b1:qC W.zRd<=1048576)(b2:W.sn<=1048576)(b3:W.pn<=1048576)(b4:zDs W)(bA:name.size<=maxLen)(aA:(Lit.int .i64 zRj).wf=true)(cA:data.size<=maxLen) :
  Calls Tryz.prog 10 #[zz v0 v1 v2 v3 W,.string name,.int .i64 zRj,.string data] w (yz W name zRj data w):=by
 by_cases hs:zAS W name
 ·obtain⟨k,hk⟩:=zOb hs;refine(zD8 p v0 v1 v2 v3 lo hi W name zRj data (zBE W k (qo W.zRd (W.zRg k).rs (W.zRg k).rb zRj data W.time)) w hE h dA b1 b2 b3 b4 bA aA cA ?_).mono ?_
  ·intro B0 B1 B2 C w' z0 z1 z2 z3 k0 l0 k1 l1 k2 l2 hI _ _ hq eA hb ho hC;have hS:=(zGu W).1 hI;have hx:=dA (W.pn+k) (by have:=hk.1;unfold zq;omega);rw[yF]at hx;exact zHs p C k B0 B1 B2 z0 z1 z2 z3 W name zRj data w' (hE.zRX hb) hI (zMX hS.zRo _) hx hk (b4.1 k hk.1) eA k0 l0 k1 l1 k2 l2 ho hC
  ·rintro e w' ⟨r,h1,h2⟩;exact⟨r,_,h1,fun _=>⟨k,hk,rfl⟩,h2⟩
 ·refine(zD8 p v0 v1 v2 v3 lo hi W name zRj data (zB3 0) w hE h dA b1 b2 b3 b4 bA aA cA ?_).mono ?_
  ·intro B0 B1 B2 C w' z0 z1 z2 z3 k0 l0 k1 l1 k2 l2 hI _ _ hq eA hb ho hC;exact absurd (hq 0 (by omega)) hs
  ·rintro e w' ⟨r,h1,h2⟩;exact⟨r,_,h1,fun e=>absurd ((e▸h1).all 0 (by omega)) hs,h2⟩
open Go.Maps
def zE2(s:qD):Nat:=s.name.size+s.dn
def zBL(f:Nat->qD):Nat->Nat
 | 0=>0
 | k+1=>zBL f k+zE2 (f k)
def zD7(s:zl):Nat:=s.name.size+s.set.size+s.dn
def zA0(f:Nat->zl):Nat->Nat
 | 0=>0
 | k+1=>zA0 f k+zD7 (f k)
def yU(W:zH):Nat:=qC W.zRd+(W.sn+zBL W.zRg W.sn)+(W.pn+zA0 W.zRe W.pn)
theorem zOS(v:Value)(lo hi:Nat)(s:qD)(left:Int)(w:World)(h1:zU w lo hi v s.dn s.ds s.db)(m1:s.name.size<=maxLen)(eA:0<=left)(iA:left<=1048576) :
  Calls Tryz.prog 66 #[zDU v s,.int .i64 left] w fun e w'=>zDM (zE2 s) left e/\Below w.heap.size w w':=by
 unfold zDU;have H1:=zB h1;obtain⟨-,a,c,rfl,-⟩:=id h1;clear h1;unfold maxLen at m1;have aA:=zC w (.cells #[.string s.name,.int .i64 s.origin,.int .i64 s.zRh,.int .i64 s.rs,.int .i64 s.rb,.slice a s.dn c] 116);go_enter Tryz.func66,Tryz.ntmps66;by_cases h:left - (s.name.size:Int)<0
 ·go_wp2;go_ret;exact⟨⟨-1,rfl,by omega,by omega,by omega⟩,aA⟩
 ·go_wp2_with fail;refine(zFZ _ s.dn lo hi _ _ _ _ (H1.out.zRX aA) (by omega) (by omega)).mono ?_;rintro e w1 ⟨⟨r,rfl,cA,gA,fA⟩,dA⟩;have bA:=zA aA dA;have Hr:=zB cA;clear cA dA aA;by_cases h2:r<0
  ·go_wp2;go_ret;exact⟨⟨-1,rfl,by omega,by omega,by omega⟩,bA⟩
  ·go_wp2;go_ret;refine⟨⟨_,rfl,fun _=>?_,by omega,by omega⟩,bA⟩;have:=Hr.out (by omega);unfold zE2;omega
theorem zM2(v:Value)(lo hi:Nat)(s:zl)(left:Int)(w:World)(h1:zU w lo hi v s.dn s.ds s.db)(m1:s.name.size<=maxLen)(m2:s.set.size<=maxLen)(eA:0<=left)(iA:left<=1048576) :
  Calls Tryz.prog 67 #[yd v s,.int .i64 left] w fun e w'=>zDM (zD7 s) left e/\Below w.heap.size w w':=by
 unfold yd;have H1:=zB h1;obtain⟨-,a,c,rfl,-⟩:=id h1;clear h1;unfold maxLen at m1 m2;have aA:=zC w (.cells #[.int .i64 s.id,.string s.name,.string s.set,.int .i64 s.zRh,.int .i64 s.time,.int .i64 s.rs,.int .i64 s.rb,.slice a s.dn c] 119);go_enter Tryz.func67,Tryz.ntmps67;by_cases h:left - (s.name.size:Int)<0
 ·go_wp2;go_ret;exact⟨⟨-1,rfl,by omega,by omega,by omega⟩,aA⟩
 ·by_cases h':left - (s.name.size:Int) - (s.set.size:Int)<0
  ·go_wp2;go_ret;exact⟨⟨-1,rfl,by omega,by omega,by omega⟩,aA⟩
  ·go_wp2_with fail;refine(zFZ _ s.dn lo hi _ _ _ _ (H1.out.zRX aA) (by omega) (by omega)).mono ?_;rintro e w1 ⟨⟨r,rfl,cA,gA,fA⟩,dA⟩;have bA:=zA aA dA;have Hr:=zB cA;clear cA dA aA;by_cases h2:r<0
   ·go_wp2;go_ret;exact⟨⟨-1,rfl,by omega,by omega,by omega⟩,bA⟩
   ·go_wp2;go_ret;refine⟨⟨_,rfl,fun _=>?_,by omega,by omega⟩,bA⟩;have:=Hr.out (by omega);unfold zD7;omega
structure yu (bs o n:Nat) (w w':World):Prop where
 zRf:zF (fun b=>b=bs) w w'
 kept:∀x v,(x<o\/o+n<=x)->zW w bs x v->zW w' bs x v
theorem yu.refl(bs o n:Nat)(w:World):yu bs o n w w:=⟨zF.refl _ _,fun _ _ _ h=>h⟩
theorem yu.set{bs o n:Nat}{w w':World}(h:yu bs o n w w')(x:Nat)(u:Value)(h1:o<=x)(h2:x<o+n):yu bs o n w (w'.setCell ⟨bs,x,none⟩ u):=
 ⟨h.zRf.setCell (p:=⟨bs,x,none⟩) rfl u,fun y v hy hc=>(h.kept y v hy hc).zRY u (Or.inr (by omega))⟩
theorem yu.zRX{bs o n:Nat}{w w' w2:World}(h:yu bs o n w w')(t:Below w'.heap.size w' w2):yu bs o n w w2:=
 ⟨h.zRf.trans (zF.zRa t),fun y v hy hc=>(h.kept y v hy hc).zRX t⟩
theorem zPH{w w1 w2:World}{bs off n k:Nat}{kb:Nat->Nat}{kv:Nat->Value}{f:Nat->qD}{s:qD}(h:∀j,j<n->zAH w bs (off+j*6) (kb j) (kv j) (f j))(bA:zBO kb n f)(hk:k<n)
  (r:yu bs (off+k*6) 6 w w1) (t:zF (fun b=>0<(f k).dn/\b=kb k) w1 w2) (c0:zW w1 bs (off+k*6) (.string s.name)) (c1:zW w1 bs ((off+k*6)+1) (.int .i64 s.origin)) (c2:zW w1 bs ((off+k*6)+2) (.int .i64 s.zRh)) (c3:zW w1 bs ((off+k*6)+3) (.int .i64 s.rs)) (c4:zW w1 bs ((off+k*6)+4) (.int .i64 s.rb)) (c5:zW w1 bs (off+k*6+5) (kv k)) (cA:s.dn=(f k).dn) (hp:zm w2 (kb k) (kv k) s.dn s.ds s.db) (hs:s.name.size<=maxLen) :
  ∀j,j<n->zAH w2 bs (off+j*6) (kb j) (kv j) (if j=k then s else f j):=by
 intro j hj;have nb:¬(0<(f k).dn/\bs=kb k):=fun hx=>(h k hk).zRk hx.1 hx.2.symm
 by_cases e:j=k
 ·subst e;rw[if_pos rfl];exact⟨c0.zRf t nb,c1.zRf t nb,c2.zRf t nb,c3.zRf t nb,c4.zRf t nb,c5.zRf t nb,hp,hs,by rw[cA];exact(h j hj).zRk⟩
 ·rw[if_neg e];have aA:=h j hj;refine⟨(r.kept _ _ (by omega) aA.c0).zRf t nb,(r.kept _ _ (by omega) aA.c1).zRf t nb,(r.kept _ _ (by omega) aA.c2).zRf t nb,(r.kept _ _ (by omega) aA.c3).zRf t nb,(r.kept _ _ (by omega) aA.c4).zRf t nb,(r.kept _ _ (by omega) aA.c5).zRf t nb,?_,aA.zRn,aA.zRk⟩;exact(aA.zRl.zRf r.zRf (fun h0 hx=>aA.zRk h0 hx)).zRf t (fun h0 hx=>bA j k hj hk e h0 hx.1 hx.2)
theorem zN9{w w1 w2:World}{bs off n k:Nat}{kb:Nat->Nat}{kv:Nat->Value}{f:Nat->zl}{s:zl}(h:∀j,j<n->zAK w bs (off+j*8) (kb j) (kv j) (f j))(bA:zBA kb n f)(hk:k<n)
  (r:yu bs (off+k*8) 8 w w1) (t:zF (fun b=>0<(f k).dn/\b=kb k) w1 w2) (c0:zW w1 bs (off+k*8) (.int .i64 s.id)) (c1:zW w1 bs ((off+k*8)+1) (.string s.name)) (c2:zW w1 bs ((off+k*8)+2) (.string s.set)) (c3:zW w1 bs ((off+k*8)+3) (.int .i64 s.zRh)) (c4:zW w1 bs ((off+k*8)+4) (.int .i64 s.time)) (c5:zW w1 bs ((off+k*8)+5) (.int .i64 s.rs)) (c6:zW w1 bs ((off+k*8)+6) (.int .i64 s.rb)) (c7:zW w1 bs (off+k*8+7) (kv k)) (cA:s.dn=(f k).dn) (hp:zm w2 (kb k) (kv k) s.dn s.ds s.db) (hs:s.name.size<=maxLen/\s.set.size<=maxLen) :
  ∀j,j<n->zAK w2 bs (off+j*8) (kb j) (kv j) (if j=k then s else f j):=by
 intro j hj;have nb:¬(0<(f k).dn/\bs=kb k):=fun hx=>(h k hk).zRk hx.1 hx.2.symm
 by_cases e:j=k
 ·subst e;rw[if_pos rfl];exact⟨c0.zRf t nb,c1.zRf t nb,c2.zRf t nb,c3.zRf t nb,c4.zRf t nb,c5.zRf t nb,c6.zRf t nb,c7.zRf t nb,hp,hs,by rw[cA];exact(h j hj).zRk⟩
 ·rw[if_neg e];have aA:=h j hj;refine⟨(r.kept _ _ (by omega) aA.c0).zRf t nb,(r.kept _ _ (by omega) aA.c1).zRf t nb,(r.kept _ _ (by omega) aA.c2).zRf t nb,(r.kept _ _ (by omega) aA.c3).zRf t nb,(r.kept _ _ (by omega) aA.c4).zRf t nb,(r.kept _ _ (by omega) aA.c5).zRf t nb,(r.kept _ _ (by omega) aA.c6).zRf t nb,(r.kept _ _ (by omega) aA.c7).zRf t nb,?_,aA.zRn,aA.zRk⟩;exact(aA.zRl.zRf r.zRf (fun h0 hx=>aA.zRk h0 hx)).zRf t (fun h0 hx=>bA j k hj hk e h0 hx.1 hx.2)
end Go.Proofs.YtmgeglgboadfiaaGreatDoor

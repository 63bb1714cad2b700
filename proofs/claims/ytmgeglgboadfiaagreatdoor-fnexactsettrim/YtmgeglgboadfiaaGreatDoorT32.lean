/- What is young is held, what is old is answered: impl.letGo. -/
import Derived.Test.YtmgeglgboadfiaaGreatDoorT31
set_option linter.unusedVariables false
set_option maxRecDepth 20000
set_option maxHeartbeats 4000000
namespace Go.Proofs.YtmgeglgboadfiaaGreatDoor
open Go.RowKit
theorem zNi(C lo hi n:Nat)(P:Nat->Prop)(z0 z1 z2 z3 u8 v:Value)(tm nx id m t:Int)(p:zJ)(f g:Nat->Int)(w:World)(hv:zR w lo hi v n f g)(eA:qx n f g)(ht:zB3 t)(hH:yY p(qd f g t n))(hC:yq w C z0 z1(.int .i64 tm)(.int .i64 nx) z2 z3(.int .i64 id)(.int .i64 m) u8)(hP:qZ w P z0 z1 p)(tA:∀k,P k->C<k/\k<w.heap.size)(hm:0<=m)(gB:m<=900000) :
  Calls Tryz.prog 94 #[v,.int .i64 t,.func(.func 96) #[.pointer(some ⟨C,0,none⟩)] #[]] w fun e w'=>∃vo y0 y1,e = .returned vo/\zw w' w.heap.size vo(zBg f g t n)/\yq w' C y0 y1(.int .i64 tm)(.int .i64 nx) z2 z3(.int .i64 id)(.int .i64(m+((qd f g t n).length:Int))) u8/\qZ w'(fun j=>P j\/(w.heap.size<=j/\j<w'.heap.size)) y0 y1(zx p(qd f g t n))/\zF(fun j=>j=C) w w':=by
 have fB:=hC.1.lt;have iA:(qd f g t n).length<=200:=by have:=zCM f g t n;have:=eA.1;omega
 have HS:=zB(show Calls Tryz.prog 151 #[v,.int .i64 t] w fun e w'=>∃vy vo,e = .returned(.agg #[vy,vo])/\zC4(qd f g t n)(zBg f g t n) w w' vy vo by
  refine(zAz v n lo hi f g t w hv).mono ?_;rintro e w1 ⟨vy,vo,l,l',rfl,hy,ho,hr⟩;rw [hy.1 ⟨eA,ht⟩,ho.1 ⟨eA,ht⟩] at hr;exact⟨vy,vo,rfl,hr⟩)
 have HC:=zB hC;have HP:=zB hP;have HH:=zB hH;obtain⟨-,av,cv,rfl,-,-⟩:=(show zR w lo hi v n f g from hv);clear hv eA ht hC hP hH;generalize qd f g t n=l at HS HH iA ⊢;generalize zBg f g t n=l' at HS ⊢;go_enter Tryz.func94,Tryz.ntmps94;go_wp2_with fail;refine HS.out.mono ?_;clear HS;rintro e w1 ⟨vy,vo,rfl,hr1,hr2,-,hb1⟩;obtain⟨ay,cy,rfl,-⟩:=zW hr1;obtain⟨ao,co,rfl,-⟩:=zW hr2;obtain⟨bo,bA,hbo⟩:=hr1.own(by unfold maxLen;omega);have fA:=zC w1(.cells #[.slice ay l.length cy,.slice ao l'.length co] 201);have HX:=zB(zc.zRL w1(.slice ay l.length cy)(.slice ao l'.length co) 201);have gA:=zA hb1 fA;have nA:=zB(HC.out.zRJ gA);have oA:=zB(HP.out.zRJ gA);have jA:=zB(zw.zRJ hr2 fA);have pA:=zB(bA.zRJ fA);have rA:=zB hbo;have dB:=hb1.size;have bB:(w1.alloc(.cells #[.slice ay l.length cy,.slice ao l'.length co] 201)).heap.size=w1.heap.size+1:=World.size_alloc _ _;obtain⟨⟨x0,-⟩,⟨x1,-⟩⟩:=HX.out;clear hr1 hr2 bA hbo HC HP;go_wp2_with fail;clear x0 x1;generalize w1.alloc(.cells #[.slice ay l.length cy,.slice ao l'.length co] 201)=w2 at fA HX gA nA oA jA pA bB ⊢
 go_loopw [16](fun i wr=>∃(k:Nat)(y0 y1:Value),k<=l.length/\i = .int .i64 k/\yq wr C y0 y1(.int .i64 tm)(.int .i64 nx) z2 z3(.int .i64 id)(.int .i64(m+(k:Int))) u8/\qZ wr(fun j=>P j\/(w.heap.size<=j/\j<wr.heap.size)) y0 y1(zx p(l.take k))/\zF(fun j=>j=C) w2 wr)(fun i _=>l.length - (intOf i).toNat)
 case atStart=>exact⟨0,_,_,Nat.zero_le _,rfl,by simpa using nA.out,oA.out.mono(fun j h=>Or.inl h),zF.refl _ _⟩
 case round=>
  obtain⟨k,y0,y1,hk,rfl,hCk,hPk,hTk⟩:=hrel;have lA:=zB hCk;have kA:=zB hPk;have cA:=zB hTk;have cB:=hTk.size;have hX:=HX.out.zRR hTk(fun h=>by omega);obtain⟨⟨x0,-⟩,⟨x1,-⟩⟩:=hX;clear hCk hPk hTk;by_cases dA:k<l.length
  ·have aB:(k:Int)<(l.length:Int):=(by omega);have bA:=pA.out.zRR cA.out(fun h0 e=>by
    obtain⟨_,h,_⟩:=rA.out h0;omega)
   obtain⟨_,a,c,e1,_,hx⟩:=bA;obtain⟨off,rfl,hcell⟩:=hx(by omega);simp only [Value.slice.injEq,true_and] at e1;obtain⟨rfl,rfl⟩:=e1;obtain⟨⟨q0,-⟩,⟨q1,-⟩⟩:=hcell k dA;have hn:=HH.out.next dA;have e0:l[k]=(zf l k,zh l k):=by
    unfold zf zh;rw [List.getD_eq_getElem?_getD,List.getElem?_eq_getElem dA];rfl
   rw [e0] at hn;have HN:=zB hn;clear hn e0 hcell hx;have aA:=zC wr(.cells #[.int .i64(zf l k),.int .i64(zh l k)] 61);obtain⟨⟨r0,-⟩,⟨r1,-⟩⟩:=zc.zRL wr(.int .i64(zf l k))(.int .i64(zh l k)) 61;go_wp2_with fail;have eB:=aA.size;refine(zMr C 0 wr.heap.size y0 y1 z2 z3 u8 tm nx id(m+(k:Int))(zx p(l.take k))(zx p(l.take(k+1)))(zf l k,zh l k) _(lA.out.zRJ aA)(((kA.out.at(lo:=0)(hi:=wr.heap.size)(fun j h=>⟨Nat.zero_le _,by
    rcases h with h | h
    ·have:=tA j h;omega
    ·omega⟩))).zRJ aA)(by have:=zDy HN.out.2;omega) HN.out.1(by omega)(by omega)).mono ?_
   rintro e w4 ⟨⟨ve,rfl⟩,t0,t1,hC4,hP4,hT4⟩;have sA:=zB hC4;have vA:=zB hP4;have mA:=zB hT4;clear r0 r1 q0 q1 x0 x1 hC4 hP4 hT4;go_wp2_with fail;go_roundw
   case rel=>
    have iB:=mA.out.size;refine⟨k+1,t0,t1,by omega,by go_num,?_,vA.out.isIn(fun j h1 h2=>Or.inr ⟨by omega,h2⟩),cA.out.trans((zF.zRM aA).trans mA.out)⟩;have e:m+((k+1:Nat):Int)=m+(k:Int)+1:=(by omega);rw [e];exact sA.out
   case measure=>simp [intOf];omega
  ·obtain rfl:k=l.length:=(by omega);go_wp2_with fail;rw [List.take_length] at kA;go_ret;refine⟨_,y0,y1,rfl,?_,lA.out,kA.out,((zF.zRM gA).trans cA.out)⟩;exact jA.out.zRR(row:=some C) ⟨cA.out.os,cA.out.tape,cA.out.output,cA.out.size,fun k hk hn=>cA.out.block k hk(fun e=>hn(by rw [e]))⟩(fun q hq e=>by
    injection e with e;have:=zw.lt jA.out hq;omega)
open Go.Extern.Stop Go.Stop Go.Extern
theorem zGr(p:Nat->Addr)(c:Int)(n:Nat)(v:Value)(hn:(n=7/\c=0/\v = .nilIface)\/(n<7/\c=zBO n/\v=qP(p n)))(w:World)(h:zEt w p):Calls Tryz.prog 93 #[.int .i64 c] w fun e w'=>e = .returned v/\Below w.heap.size w w':=by
 have HE:=zd h;have HN:=zd hn;have iA:n<=7:=by omega
 have dA:=zd(show ∀k,k<n->zBO k≠c from fun k hk=>by
  rcases hn with⟨_,rfl,_⟩ | ⟨h7,rfl,_⟩
  ·exact zPl k
  ·exact zQL(by omega) h7(by omega))
 clear h hn;have ha:=zC w(.cells(zOX p) 199);have HR:=zd(zFo.zRL p w);go_enter Tryz.func93,Tryz.ntmps93;go_wp2_with fail;refine(zFx p _ HE.out).mono ?_;rintro e wa ⟨rfl,rfl⟩;go_wp2
 go_loopw [7](fun i' wr=>∃k:Nat,k<=n/\i' = .int .i64 k/\zFo wr w.heap.size p/\Below w.heap.size w wr)(fun i _=>7 - (intOf i).toNat)
 case atStart=>exact⟨0,Nat.zero_le _,rfl,HR.out,ha⟩
 case round=>
  obtain⟨k,hk,rfl,hR,hb⟩:=hrel;by_cases fA:k<7
  ·have bA:(k:Int)<7:=(by omega);obtain⟨q0,q1⟩:=hR k fA;have eA:=zd hR;clear hR;have hn:=zC wr(.cells #[qP(p k),.int .i64(zBO k)] 199);have aA:=zA hb hn;have cA:=zd(eA.out.zRJ hn);have z0:(wr.alloc(.cells #[qP(p k),.int .i64(zBO k)] 199)).cell? ⟨wr.heap.size,0,none⟩=some(qP(p k)):=(zI(heap_alloc_new _ _) rfl).1;have z1:(wr.alloc(.cells #[qP(p k),.int .i64(zBO k)] 199)).cell? ⟨wr.heap.size,1,none⟩=some(.int .i64(zBO k)):=(zI(heap_alloc_new _ _) rfl).1;by_cases he:k=n
   ·subst he;obtain⟨hc,hv⟩:=(HN.out.resolve_left(fun h=>by omega)).2;subst hc hv;go_wp2;go_ret;exact⟨rfl,aA⟩
   ·have gA:(zBO k == c)=false:=(by simpa using dA.out k(by omega));go_wp2;go_roundw
    case rel=>exact⟨k+1,by omega,by go_num,cA.out,aA⟩
    case measure=>simp [intOf];omega
  ·obtain rfl:k=7:=(by omega);obtain rfl:n=7:=(by omega);have hv:=(HN.out.resolve_right(fun h=>by omega)).2.2;subst hv;go_wp2;go_ret;exact⟨rfl,hb⟩
theorem zJ7(g:Nat)(lb:Array Value)(eg:Enters Tryz.prog g)(P:Nat->Prop)(v:Value)(n lo hi:Nat)(f:Nat->qC)(w:World)(h:yZ w lo hi v n f)(hn:n<=1000)
  (hP:∀i,i<n->∀a c w',Below w.heap.size w w'->zR w' lo hi(.slice a(f i).dn c)(f i).dn(f i).ds(f i).db->Calls Tryz.prog g(#[.agg #[.string(f i).name,.int .i64(f i).origin,.int .i64(f i).zRT,.int .i64(f i).rs,.int .i64(f i).rb,.slice a(f i).dn c]] ++ lb) w' fun e dA=>zG(P i) e/\Below w'.heap.size w' dA) :
  Calls Tryz.prog 103 #[v,.func(.func g) #[] lb] w fun e w'=>((∃i:Nat,i<n/\P i/\(∀j,j<i->¬P j)/\e = .returned(.int .i64(i:Int)))\/((∀j,j<n->¬P j)/\e = .returned(.int .i64(-1))))/\Below w.heap.size w w':=by
 have Hp:=zB h;obtain⟨-,a,c,rfl,-,-⟩:=h;have HP:=zB hP;clear hP;have e0:∀(args:Array Value)(w:World),(callFunc g args).run Tryz.prog w = .ok(.enter g args) w:=eg;clear eg;go_enter Tryz.func103,Tryz.ntmps103;go_wp2
 go_loopw [8](fun i wr=>∃k:Nat,k<=n/\i = .int .i64 k/\(∀j,j<k->¬P j)/\Below w.heap.size w wr)(fun i _=>n - (intOf i).toNat)
 case atStart=>exact⟨0,Nat.zero_le _,rfl,fun j hj=>absurd hj(Nat.not_lt_zero _),Below.refl _ _⟩
 case round=>
  obtain⟨k,hk,rfl,hall,hb⟩:=hrel;have aA:=zB hall;clear hall;by_cases bA:k<n
  ·have eA:(k:Int)<(n:Int):=(by omega);obtain⟨b,off,vd,rfl,hs⟩:=(Hp.out.zRJ hb).cells bA;obtain⟨-,ad,cd,rfl,-,-⟩:=id hs.zRX;have Hs:=zB hs.zRX;obtain⟨q0,q1,q2,q3,q4,q5,-,-⟩:=hs;go_wp2_with fail;clear q0 q1 q2 q3 q4 q5;refine(HP.out k bA ad cd wr hb Hs.out).mono ?_;rintro e w1 ⟨⟨t,rfl,ht⟩,hb1⟩;have cA:=zA hb hb1;clear hb1 Hs;by_cases hf:P k
   ·obtain rfl:t=true:=ht.2 hf;have HF:=zB hf;clear ht hf;go_wp2;go_ret;exact⟨Or.inl ⟨k,bA,HF.out,aA.out,rfl⟩,cA⟩
   ·obtain rfl:t=false:=zQ ht hf;have HF:=zB hf;clear ht hf;go_wp2;go_roundw
    case rel=>
     refine⟨k+1,by omega,by go_num,fun j hj=>?_,cA⟩;by_cases e:j=k
     ·subst e;exact HF.out
     ·exact aA.out j(by omega)
    case measure=>simp [intOf];omega
  ·obtain rfl:k=n:=(by omega);go_wp2;go_ret;exact⟨Or.inr ⟨aA.out,rfl⟩,hb⟩
theorem zMd(s:qC)(a:Option Addr)(c B:Nat)(name:ByteArray)(w:World)(h0:w.cell? ⟨B,0,none⟩=some(.string name)) :
  Calls Tryz.prog 104 #[.agg #[.string s.name,.int .i64 s.origin,.int .i64 s.zRT,.int .i64 s.rs,.int .i64 s.rb,.slice a s.dn c],.pointer(some ⟨B,0,none⟩)] w fun e w'=>zG(s.name=name) e/\Below w.heap.size w w':=by
 have ha:=zC w(.cells #[.string s.name,.int .i64 s.origin,.int .i64 s.zRT,.int .i64 s.rs,.int .i64 s.rb,.slice a s.dn c] 67);have k0:=(ha.cell(zD h0)).trans h0;clear h0;obtain⟨⟨x0,-⟩,⟨x1,-⟩,⟨x2,-⟩,⟨x3,-⟩,⟨x4,-⟩,⟨x5,-⟩⟩:=zi.zRL w(.string s.name)(.int .i64 s.origin)(.int .i64 s.zRT)(.int .i64 s.rs)(.int .i64 s.rb)(.slice a s.dn c) 67;by_cases e1:s.name=name
 ·skip;have a1:=zCc e1;have H:=zB e1;clear e1;go_enter Tryz.func104,Tryz.ntmps104;go_wp2;go_ret;exact⟨zG.yes H.out,ha⟩
 ·skip;have a1:=zEM e1;have H:=zB e1;clear e1;go_enter Tryz.func104,Tryz.ntmps104;go_wp2;go_ret;exact⟨zG.no H.out,ha⟩
theorem zPx{n k:Nat}{f:Nat->qC}{name:ByteArray}{e:Ending}(hn:(f k).name=name)(hf:∀j,j<k->(f j).name≠name)(hk:k<n)
  (hr:(∃i:Nat,i<n/\(f i).name=name/\(∀j,j<i->¬(f j).name=name)/\e = .returned(.int .i64(i:Int)))\/((∀j,j<n->¬(f j).name=name)/\e = .returned(.int .i64(-1)))):e = .returned(.int .i64(k:Int)):=by
 rcases hr with⟨i,hi,h1,h2,rfl⟩ | ⟨h1,_⟩
 ·obtain rfl:i=k:=by
   rcases Nat.lt_trichotomy i k with h | h | h
   ·exact absurd h1(hf i h)
   ·exact h
   ·exact absurd hn(h2 k h)
  rfl
 ·exact absurd hn(h1 k hk)
theorem zJK(C lo hi n k c2:Nat)(a2:Option Addr)(f:Nat->qC)(name:ByteArray)(w:World)(hc:w.cell? ⟨C,4,none⟩=some(.slice a2 n c2))(hS:yZ w lo hi(.slice a2 n c2) n f)(hn:n<=8)(hk:k<n)(bA:(f k).name=name)(aA:∀j,j<k->(f j).name≠name) :
  Calls Tryz.prog 37 #[.pointer(some ⟨C,0,none⟩),.string name] w fun e w'=>(∃b off,a2=some ⟨b,off,none⟩/\e = .returned(.pointer(some ⟨b,off+k*6,none⟩)))/\Below w.heap.size w w':=by
 have Hp:=zB hS;have Hn:=zB bA;have Hf:=zB aA;obtain⟨b,off,vd,rfl,-⟩:=hS.cells hk;clear hS bA aA;have ha:=zC w(.cells #[.string name] 9);have c0:(w.alloc(.cells #[.string name] 9)).cell? ⟨w.heap.size,0,none⟩=some(.string name):=World.cell?_alloc_at _ _ _ _ rfl;have dA:=(ha.cell(zD hc)).trans hc;have C0:=zB c0;have jA:(k:Int)<(n:Int):=by omega
 clear c0 hc;go_enter Tryz.func37,Tryz.ntmps37;go_wp2_with fail;generalize w.alloc(.cells #[.string name] 9)=W1 at ha dA C0 ⊢;have IX:=zB(show ∀w',Below W1.heap.size W1 w'->Calls Tryz.prog 103 #[.slice(some ⟨b,off,none⟩) n c2,.func(.func 104) #[] #[.pointer(some ⟨w.heap.size,0,none⟩)]] w' fun e eA=>e = .returned(.int .i64(k:Int))/\Below w'.heap.size w' eA from fun w' fA=>by
  refine(zJ7 104 #[.pointer(some ⟨w.heap.size,0,none⟩)](enters_of Tryz.func104(by kernel_rfl) rfl)(fun i=>(f i).name=name) _ n lo hi f w'((Hp.out.zRJ ha).zRJ fA)(by omega)(fun i hi' a c eA gA hp=>zMd(f i) a c _ name eA(((zA fA gA).cell(zD C0.out)).trans C0.out))).mono ?_;rintro e w2 ⟨hr,hb2⟩;exact⟨zPx Hn.out Hf.out hk hr,hb2⟩)
 go_region_held3(fun w'=>w'.cell? ⟨C,4,none⟩=some(.slice(some ⟨b,off,none⟩) n c2))(go_keep)
  (first | (go_at_call 103;refine(IX.out _(Below.refl _ _).drew).mono ?_;rintro e w2 ⟨rfl,hb2⟩;have cA:=zK hb2;have iA:=(cA.cell(zD dA)).trans dA))
 go_wp2;go_ret;exact⟨⟨b,off,rfl,rfl⟩,zA ha cA⟩
theorem yv{P:Program}{w w1:World}{bA:Array Oper}{o:Oper}{a:Act}{K:Act->World->Prop}{Q:Exit->Act->World->Prop}{E:Prop}(cA:o.guard=none)(s x:Operand)(t:TypeId)
  (ho:o.op = .call {callee:=.builtin .append,args:=#[s,x],argTypes:=#[t,t]})(vs vx v':Value)(hs:a.eval s=vs)(hx:a.eval x=vx)(aA:(Builtin.append_ #[t,t] o.type #[vs,vx]).run P w = .ok v' w1)
  (h:K(a.put o.dst v') w1):if Region.wanted o(yielded bA a.tmps)=true then Oper.wp P o a w K Q else E:=by
 have hw:Region.wanted o(yielded bA a.tmps)=true:=by simp [Region.wanted,cA]
 rw [if_pos hw];unfold Oper.wp;simp [execOp,ho,resolve,invoke,builtin,hs,hx,aA,Result.andThen];exact h
theorem yN.nth{w:World}{bs n:Nat}{kb:Nat->Nat}{kv:Nat->Value}{v:Value}{f:Nat->qC}(h:yN w bs kb kv v n f){k:Nat}(hk:k<n):∃off c,v = .slice(some ⟨bs,off,none⟩) n c/\zAE w bs(off+k*6)(kb k)(kv k)(f k):=by
 obtain⟨_,a,c,hv,_,hx⟩:=h;obtain⟨off,ha,h⟩:=hx(by omega);exact⟨off,c,by rw [hv,ha],h k hk⟩
theorem zLy(v:Value)(s:zm)(w:World):(Instr.field 99(.agg #[.int .i64 s.id,.string s.name,.string s.set,.int .i64 s.zRT,.int .i64 s.time,.int .i64 s.rs,.int .i64 s.rb,v]) 4).run Tryz.prog w = .ok(.int .i64 s.time) w:=by kernel_rfl
theorem zLq(C lo hi:Nat)(z0 z1 z2 z3 u6 u7 u8:Value)(W:zH)(x:Int)(w:World)(h:zl w lo hi z0 z1 z2 z3 W)(hC:yq w C z0 z1(.int .i64 W.time)(.int .i64 W.next) z2 z3 u6 u7 u8)(hn:W.pn<=20)(cA:zNT W.pn W.zRP)(hD:zCF W)(hx:(Lit.int .i64 x).wf=true) :
  Calls Tryz.prog 95 #[.pointer(some ⟨C,0,none⟩),.int .i64 x] w fun e w'=>∃a c,e = .returned(yg(.slice a(zN W x).dn c)(zN W x))/\Below w.heap.size w w':=by
 have Hp:=zB h;obtain⟨l0,lc0,l1,lc1,l2,lc2,l3,lc3,rfl,rfl,rfl,rfl⟩:=h.form;have HD:=zB hD;have dA:=zB cA;have Hx:=zB hx;have ha:=zC w(.cells #[.int .i64 0,.string ⟨#[]⟩,.string ⟨#[]⟩,.int .i64 0,.int .i64 0,.int .i64 0,.int .i64 0,.slice none 0 0] 99);obtain⟨⟨x0,-⟩,⟨x1,-⟩,⟨x2,-⟩,⟨x3,-⟩,⟨x4,-⟩,⟨x5,-⟩,-⟩:=hC.zRJ ha;have HR:=zB(zCK.zRL w(.int .i64 0)(.string ⟨#[]⟩)(.string ⟨#[]⟩)(.int .i64 0)(.int .i64 0)(.int .i64 0)(.int .i64 0)(.slice none 0 0) 99);clear h hD cA hx hC;obtain⟨S,hS⟩:∃S,S=zN W x:=⟨_,rfl⟩;rw [<-hS];unfold yg;have HS:=zB hS;clear hS;go_enter Tryz.func95,Tryz.ntmps95;go_wp2_with fail;clear x0 x1 x2 x3 x4 x5;generalize w.alloc(.cells #[.int .i64 0,.string ⟨#[]⟩,.string ⟨#[]⟩,.int .i64 0,.int .i64 0,.int .i64 0,.int .i64 0,.slice none 0 0] 99)=W1 at ha HR ⊢;refine(zG4 _ _ _ _ lo hi W W1(Hp.out.zRJ ha) hn dA.out).mono ?_;rintro e w2 ⟨A,rfl,hA,hb2⟩;have HA:=zB hA;clear hA;go_wp2_with fail;refine(zBi lo hi W A x w2 HA.out HD.out Hx.out hn).mono ?_;rw [<-HS.out];unfold yg;rintro e w3 ⟨a,c,rfl,hpd,hb3⟩;have hb:=zA(zA ha hb2) hb3;have bA:=zB((HR.out.zRJ hb2).zRJ hb3);clear hpd;obtain⟨⟨⟨r0,g0⟩,⟨r1,g1⟩,⟨r2,g2⟩,⟨r3,g3⟩⟩,⟨r4,g4⟩,⟨r5,g5⟩,⟨r6,g6⟩,⟨r7,g7⟩⟩:=bA.out;go_wp2_with fail;have aA:=bA.out.put(.int .i64 S.id)(.string S.name)(.string S.set)(.int .i64 S.zRT)(.int .i64 S.time)(.int .i64 S.rs)(.int .i64 S.rb)(.slice a S.dn c);have hT:=zF.put8 w3 w.heap.size(.int .i64 S.id)(.string S.name)(.string S.set)(.int .i64 S.zRT)(.int .i64 S.time)(.int .i64 S.rs)(.int .i64 S.rb)(.slice a S.dn c);clear r0 g0 r1 g1 r2 g2 r3 g3 r4 g4 r5 g5 r6 g6 r7 g7;refine bodyPost_ret(v:=.agg #[.int .i64 S.id,.string S.name,.string S.set,.int .i64 S.zRT,.int .i64 S.time,.int .i64 S.rs,.int .i64 S.rb,.slice a S.dn c])(by simp [results,Tryz.results95,go_sem,aA.1.1.1,aA.1.2.1.1,aA.1.2.2.1.1,aA.1.2.2.2.1,aA.2.1.1,aA.2.2.1.1,aA.2.2.2.1.1,aA.2.2.2.2.1]) rfl ⟨a,c,rfl,?_⟩
 ·exact hb.trans(hT.zRJ(B:=w.heap.size) hb.size(fun k e=>by omega))
theorem zM6{W:zH}(h:zBL W)(x:Int):zB3(zN W x).time:=by
 by_cases hx:∃k,yA W x k
 ·obtain⟨k,hk⟩:=hx;rw [yB hk];have h1:=(h.2.2.2.2.2 k hk.1).1;have h2:=h.1;unfold zBu at h2;exact⟨by have:=h1.2.2.1;omega,by have:=h1.2.2.2.1;omega⟩
 ·have e:zN W x=yP:=(by unfold zN;rw [dif_neg hx]);rw [e];exact⟨by decide,by decide⟩
end Go.Proofs.YtmgeglgboadfiaaGreatDoor

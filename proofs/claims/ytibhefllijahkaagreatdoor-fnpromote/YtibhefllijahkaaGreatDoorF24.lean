/- A part of the proof. -/
import Derived.Test.YtibhefllijahkaaGreatDoorF23
set_option linter.unusedVariables false
set_option maxRecDepth 20000
set_option maxHeartbeats 4000000
namespace Go.Proofs.YtibhefllijahkaaGreatDoor
open Go.RowKit
def GO(W:A5)(name:ByteArray)(l:List AL):Prop:=∀i,i<l.length->∀k,k<W.pn->¬((W.A1 k).set=name/\(W.A1 k).name=(l.getD i Ap).name)
theorem zDQ(F v1 G v3:Value)(lo hi:Nat)(W:A5)(B:Nat)(name:ByteArray)(w:World)(L:List AL)(h:BR w lo hi F v1 G v3 W)(hh:hi<=w.heap.size)(U:C6 W)(eA:E7 W)(bA:(Lit.int .i64 (Am W name).origin).wf=true)(dA:name.size<=maxLen)(hL:L=CL W (AC W (Am W name).origin).set (Am W name).origin)(hc:w.cell? ⟨B,0,none⟩=some (.string name)) :
 Calls Tryz.prog 52 #[BS F v1 G v3 W,.pointer (some ⟨B,0,none⟩)] w fun e w'=>AG (GO W name L) e/\Below w.heap.size w w':=by
 have iC:=U.A1.1;have lB:L.length<=20:=by rw[hL];exact RJ U _ _
 have O:=A4 (show ∀i,i<L.length->(L.getD i Ap).name.size<=maxLen/\(L.getD i Ap).set.size<=maxLen from by rw[hL];exact Yw h U _ _);obtain⟨_,P,R,rfl,kC,_⟩:=id h.A1;have Hp:=A4 h;have ha:=A9 w (.cells #[F,v1,.int .i64 W.time,.int .i64 W.next,G,.slice P W.pn R] 30);have K:=A4 (show ∀w':World,Below w.heap.size w w'->Calls Tryz.prog 53 #[BS F v1 G (.slice P W.pn R) W,.string name] w' fun e s=>∃a c,e = .returned (.slice a L.length c)/\DR s 0 s.heap.size (.slice a L.length c) L.length (fun i=>L.getD i Ap)/\Below w'.heap.size w' s from fun w' r=>by
  have hz:=r.size;refine(ZZ F v1 G (.slice P W.pn R) lo hi W name w' L (h.A0 r) (by omega) U eA bA dA hL).mono ?_;rintro e s ⟨a,c,kv,base,rfl,hr,hd,m,-⟩;exact⟨a,c,rfl,hr.at hd (by omega) m (by omega) O.out,m⟩)
 clear h U eA bA dA hL O;have E:=(ha.cell (AZ hc)).trans hc;have HB:=A4 (Aj.new w (F) (v1) (.int .i64 W.time) (.int .i64 W.next) (G) (.slice P W.pn R) 30);have q:=A4 E;obtain⟨x0,x1,x2,x3,x4,x5⟩:=HB.out.c;clear hc;go_enter Tryz.func52,Tryz.ntmps52;go_wp2_with fail;go_step3;go_wp2_with fail;go_step3;go_wp2_with fail;clear x0 x1 x2 x3 x4 x5;generalize w.alloc (.cells #[F,v1,.int .i64 W.time,.int .i64 W.next,G,.slice P W.pn R] 30)=W0 at ha E HB q ⊢;refine(K.out W0 ha).mono ?_;rintro e w2 ⟨a2,c2,rfl,cA,m⟩;have jA:=A4 cA;have T:=A7 ha m;have lA:=A4 (HB.out.A0 m);have J:=A4 ((m.cell (AZ q.out)).trans q.out);clear cA K E HB q;go_wp2_with fail
 go_loopw [4,13] (fun s4 sA wr=>∃i:Nat,i<=L.length/\s4 = .bool true/\sA = .int .i64 i/\(∀j,j<i->∀k,k<W.pn->¬((W.A1 k).set=name/\(W.A1 k).name=(L.getD j Ap).name))/\Below w2.heap.size w2 wr) (fun _ i _=>L.length - (intOf i).toNat)
 case atStart=>exact⟨0,Nat.zero_le _,rfl,rfl,fun j H=>absurd H (Nat.not_lt_zero _),Below.refl _ _⟩
 case round=>
  obtain⟨i,mC,rfl,rfl,aA,r⟩:=hrel;have M:=A4 aA;clear aA;by_cases Y:i<L.length;rotate_left
  ·obtain rfl:i=L.length:=(by omega);go_wp2;rw[Exit.noGoto_ret];go_ret;exact⟨AG.yes M.out,A7 T r⟩
  have mB:(i:Int)<(L.length:Int):=(by omega);obtain⟨b,off,vd,rfl,d⟩:=(jA.out.A0 r).cells Y;obtain⟨-,ad,cd,rfl,-,-⟩:=id d.dead;obtain⟨A,hA⟩:∃A,A=L.getD i Ap:=⟨_,rfl⟩;rw[<-hA]at d;have I:=A4 hA;have q0:=d.c0;have q1:=d.c1;have q2:=d.c2;have q3:=d.c3;have q4:=d.c4;have q5:=d.c5;have q6:=d.c6;have q7:=d.c7;clear d;have p:=A9 wr (.cells #[.int .i64 A.id,.string A.name,.string A.set,.int .i64 A.A6,.int .i64 A.time,.int .i64 A.rs,.int .i64 A.rb,.slice ad A.dn cd] 41);have HV:=A4 (Bu.new wr (.int .i64 A.id) (.string A.name) (.string A.set) (.int .i64 A.A6) (.int .i64 A.time) (.int .i64 A.rs) (.int .i64 A.rb) (.slice ad A.dn cd) 41);have N:=A4 ((lA.out.A0 r).A0 p);have t:=A4 ((A7 r p).cell (AZ J.out) |>.trans J.out);have z:=A7 (A7 T r) p;have V:=A7 r p;obtain⟨x0,x1,x2,x3,x4,x5⟩:=N.out.c;clear hA;go_wp2_with fail;clear x0 x1 x2 x3 x4 x5 q0 q1 q2 q3 q4 q5 q6 q7;generalize wr.alloc (.cells #[.int .i64 A.id,.string A.name,.string A.set,.int .i64 A.A6,.int .i64 A.time,.int .i64 A.rs,.int .i64 A.rb,.slice ad A.dn cd] 41)=w3 at p HV N t z V ⊢
  go_loopw [4,20] (fun s4 tA wq=>∃k:Nat,k<=W.pn/\s4 = .bool true/\tA = .int .i64 k/\(∀j,j<k->¬((W.A1 j).set=name/\(W.A1 j).name=A.name))/\Below w3.heap.size w3 wq) (fun _ k _=>W.pn - (intOf k).toNat)
  case atStart=>exact⟨0,Nat.zero_le _,rfl,rfl,fun j H=>absurd H (Nat.not_lt_zero _),Below.refl _ _⟩
  case round=>
   obtain⟨k,nC,rfl,rfl,Z,D⟩:=hrel;have u:=A4 Z;clear Z;by_cases X:k<W.pn;rotate_left
   ·obtain rfl:k=W.pn:=(by omega);go_wp2;go_roundw
    case rel=>
     refine⟨i+1,by omega,rfl,by go_num,fun j H k hk=>?_,A7 V D⟩;by_cases e:j=i
     ·rw[e,<-I.out];exact u.out k hk
     ·exact M.out j (by omega) k hk
    case measure=>simp[intOf];omega
   have kB:(k:Int)<(W.pn:Int):=(by omega);obtain⟨b4,nB,pC,rfl,d⟩:=(Hp.out.A1.A0 (A7 z D)).cells X;obtain⟨-,Q,S,rfl,-,-⟩:=id d.dead;obtain⟨g,C⟩:∃g,g=W.A1 k:=⟨_,rfl⟩;rw[<-C]at d;have y:=A4 C;have q0:=d.c0;have q1:=d.c1;have q2:=d.c2;have q3:=d.c3;have q4:=d.c4;have q5:=d.c5;have q6:=d.c6;have q7:=d.c7;clear d C;have pA:=A9 wr (.cells #[.int .i64 g.id,.string g.name,.string g.set,.int .i64 g.A6,.int .i64 g.time,.int .i64 g.rs,.int .i64 g.rb,.slice Q g.dn S] 41);have kA:=A4 (Bu.new wr (.int .i64 g.id) (.string g.name) (.string g.set) (.int .i64 g.A6) (.int .i64 g.time) (.int .i64 g.rs) (.int .i64 g.rb) (.slice Q g.dn S) 41);have l:=A7 D pA;obtain⟨⟨-,⟨m1,-⟩,-,-⟩,-⟩:=HV.out.A0 l;obtain⟨⟨-,⟨n1,-⟩,⟨n2,-⟩,-⟩,-⟩:=kA.out;have jC:=(l.cell (AZ t.out)).trans t.out;by_cases n:g.set=name
   ·have e1:=Lb n;have v:=A4 n;clear n;by_cases o:g.name=A.name
    ·have e2:=Lb o;have x:=A4 o;clear o;go_wp2;rw[Exit.noGoto_ret];go_ret;exact⟨AG.no (fun h=>h i Y k X (by rw[<-y.out,<-I.out];exact⟨v.out,x.out⟩)),A7 z l⟩
    ·have e2:=KY o;have x:=A4 o;clear o;go_wp2;go_roundw
     case rel=>
      refine⟨k+1,by omega,rfl,by go_num,fun j H=>?_,l⟩;by_cases e:j=k
      ·rw[e,<-y.out];exact fun h=>x.out h.2
      ·exact u.out j (by omega)
     case measure=>simp[intOf];omega
   ·have e1:=KY n;have v:=A4 n;clear n;go_wp2;go_roundw
    case rel=>
     refine⟨k+1,by omega,rfl,by go_num,fun j H=>?_,l⟩;by_cases e:j=k
     ·rw[e,<-y.out];exact fun h=>v.out h.1
     ·exact u.out j (by omega)
    case measure=>simp[intOf];omega
theorem zDN(p:Nat->Addr)(b:ByteArray)(w:World)(l:Cr w p) :
 Calls Tryz.prog 21 #[.string b] w fun e w'=>∃k:Nat,e = .returned (.agg #[.func (.func 52) #[] #[.pointer (some ⟨k,0,none⟩)],AY (p 3)])/\w'.cell? ⟨k,0,none⟩=some (.string b)/\Below w.heap.size w w':=by
 have d:=A9 w (.cells #[.string b] 9);have j:=A9 (w.alloc (.cells #[.string b] 9)) (.cells #[.nilFunc,.nilIface] 57);have m:=A7 (d) j;have c0:(w.alloc (.cells #[.string b] 9)).cell? ⟨w.heap.size,0,none⟩=some (.string b):=World.cell?_alloc_at _ _ _ _ rfl;have q:((w.alloc (.cells #[.string b] 9)).alloc (.cells #[.nilFunc,.nilIface] 57)).cell? ⟨2,0,none⟩=some (AY (p 3)):=(l.A0 m).cell 3 (by omega);have g:=A9 (w.alloc (.cells #[.string b] 9)) (.cells #[.func (.func 52) #[] #[.pointer (some ⟨w.heap.size,0,none⟩)],AY (p 3)] 57);have i:=A7 (d) g;have h:=A4 ((g.cell (AZ c0)).trans c0);clear c0;go_enter Tryz.func21,Tryz.ntmps21;have n:=fun (o:World) (a:Addr)=>run_store Tryz.prog o a (.func (.func 52) #[] #[.pointer (some ⟨w.heap.size,0,none⟩)]) .plain rfl
 go_wp2_with fail;have c:=Ad.new (w.alloc (.cells #[.string b] 9)) (.func (.func 52) #[] #[.pointer (some ⟨w.heap.size,0,none⟩)]) (AY (p 3)) 57;rw[World.size_alloc]at c;refine bodyPost_ret (v:=.agg #[.func (.func 52) #[] #[.pointer (some ⟨w.heap.size,0,none⟩)],AY (p 3)]) (by simp[results,Tryz.results21,go_sem,c.1.1,c.2.1]) rfl ⟨_,rfl,h.out,i⟩
theorem zBm(s:AL)(a:Option Addr)(c B:Nat)(x:Int)(w:World)(d:w.cell? ⟨B,0,none⟩=some (.int .i64 x)) :
 Calls Tryz.prog 56 #[.agg #[.int .i64 s.id,.string s.name,.string s.set,.int .i64 s.A6,.int .i64 s.time,.int .i64 s.rs,.int .i64 s.rb,.slice a s.dn c],.pointer (some ⟨B,0,none⟩)] w fun e w'=>AG (s.id=x) e/\Below w.heap.size w w':=by
 have g:=A9 w (.cells #[.int .i64 s.id,.string s.name,.string s.set,.int .i64 s.A6,.int .i64 s.time,.int .i64 s.rs,.int .i64 s.rb,.slice a s.dn c] 41);have i:=(g.cell (AZ d)).trans d;clear d;obtain⟨⟨⟨j,-⟩,⟨k,-⟩,⟨l,-⟩,⟨m,-⟩⟩,⟨n,-⟩,⟨o,-⟩,⟨p,-⟩,⟨q,-⟩⟩:=Bu.new w (.int .i64 s.id) (.string s.name) (.string s.set) (.int .i64 s.A6) (.int .i64 s.time) (.int .i64 s.rs) (.int .i64 s.rb) (.slice a s.dn c) 41;by_cases b:s.id=x
 ·have h:(s.id == x)=true:=beq_iff_eq.2 b;have H:=A4 b;clear b;go_enter Tryz.func56,Tryz.ntmps56;go_wp2;go_ret;exact⟨AG.yes H.out,g⟩
 ·have h:(s.id == x)=false:=beq_eq_false_iff_ne.2 b;have H:=A4 b;clear b;go_enter Tryz.func56,Tryz.ntmps56;go_wp2;go_ret;exact⟨AG.no H.out,g⟩
theorem zY(l:List AL)(v:Value)(B:Nat)(x:Int)(lo hi:Nat)(w:World)(h:DR w lo hi v l.length (fun i=>l.getD i Ap))(j:l.length<=1000)(d:w.cell? ⟨B,0,none⟩=some (.int .i64 x)) :
 Calls Tryz.prog 55 #[v,.func (.func 56) #[] #[.pointer (some ⟨B,0,none⟩)]] w fun e w'=>AG (∃i,i<l.length/\(l.getD i Ap).id=x) e/\Below w.heap.size w w':=
 zCG 56 #[.pointer (some ⟨B,0,none⟩)] (enters_of Tryz.func56 (by kernel_rfl) rfl) (fun i=>(l.getD i Ap).id=x) v l.length lo hi (fun i=>l.getD i Ap) w h j (fun i g a c w' b _=>zBm (l.getD i Ap) a c B x w' ((b.cell (AZ d)).trans d))
def setTo(f:Nat->AL)(j:Nat)(name:ByteArray):Nat->AL:=fun i=>if i=j then {f j with set:=name}else f i
variable{w:World}{bs n j:Nat}{kb:Nat->Nat}{kv:Nat->Value}{name:ByteArray}
theorem EI.setTo{off c:Nat}{f:Nat->AL}(h:EI w bs kb kv (.slice (some ⟨bs,off,none⟩) n c) n f)(q:j<n)(k:name.size<=maxLen):EI (w.setCell ⟨bs,off+j*8+2,none⟩ (.string name)) bs kb kv (.slice (some ⟨bs,off,none⟩) n c) n (setTo f j name):=by
 obtain⟨d,a,cap,hv,g,p⟩:=h;cases hv;refine⟨d,_,_,rfl,g,fun hn=>?_⟩;obtain⟨m,e,o⟩:=p hn;cases e;refine⟨off,rfl,fun i hi=>?_⟩;have hs:=o i hi;have l:CI (w.setCell ⟨bs,off+j*8+2,none⟩ (.string name)) (kb i) (kv i) (f i).dn (f i).ds (f i).db:=hs.dead.AH (AI.put w bs _ _) (fun d=>hs.Bi d);by_cases e:i=j
 ·subst e;have b:Go.Proofs.YtibhefllijahkaaGreatDoor.setTo f i name i = {f i with set:=name}:=if_pos rfl;rw[b];exact⟨hs.c0.other _ (Or.inr (by omega)),hs.c1.other _ (Or.inr (by omega)),hs.c2.set _,hs.c3.other _ (Or.inr (by omega)),hs.c4.other _ (Or.inr (by omega)),hs.c5.other _ (Or.inr (by omega)),hs.c6.other _ (Or.inr (by omega)),hs.c7.other _ (Or.inr (by omega)),l,⟨hs.Bo.1,k⟩,hs.Bi⟩
 ·have b:Go.Proofs.YtibhefllijahkaaGreatDoor.setTo f j name i=f i:=if_neg e;rw[b];exact⟨hs.c0.other _ (Or.inr (by omega)),hs.c1.other _ (Or.inr (by omega)),hs.c2.other _ (Or.inr (by omega)),hs.c3.other _ (Or.inr (by omega)),hs.c4.other _ (Or.inr (by omega)),hs.c5.other _ (Or.inr (by omega)),hs.c6.other _ (Or.inr (by omega)),hs.c7.other _ (Or.inr (by omega)),l,hs.Bo,hs.Bi⟩
def orgTo(f:Nat->AM)(j:Nat)(x:Int):Nat->AM:=fun i=>if i=j then {f j with origin:=x}else f i
theorem Oa(f:Nat->AM)(j:Nat)(x:Int)(i:Nat):(orgTo f j x i).dn=(f i).dn/\(orgTo f j x i).ds=(f i).ds/\(orgTo f j x i).db=(f i).db/\(orgTo f j x i).name=(f i).name/\(orgTo f j x i).A6=(f i).A6/\(orgTo f j x i).rs=(f i).rs/\(orgTo f j x i).rb=(f i).rb:=by
 unfold orgTo;by_cases e:i=j
 ·rw[if_pos e,e];exact⟨rfl,rfl,rfl,rfl,rfl,rfl,rfl⟩
 ·rw[if_neg e];exact⟨rfl,rfl,rfl,rfl,rfl,rfl,rfl⟩
variable{f:Nat->AM}
theorem EN.orgTo{x:Int}(k:Nat):EN bs kb n (orgTo f j x) k↔EN bs kb n f k:=by
 unfold EN;constructor
 ·rintro(h | ⟨i,a,b,c⟩)
  ·exact Or.inl h
  ·exact Or.inr ⟨i,a,by rw[<-(Oa f j x i).1];exact b,c⟩
 ·rintro(h | ⟨i,a,b,c⟩)
  ·exact Or.inl h
  ·exact Or.inr ⟨i,a,by rw[(Oa f j x i).1];exact b,c⟩
theorem IE.orgTo(h:IE kb n f)(j:Nat)(x:Int):IE kb n (orgTo f j x):=fun a b g i c d e=>h a b g i c (by rw[<-(Oa f j x a).1];exact d) (by rw[<-(Oa f j x b).1];exact e)
theorem DD.orgTo{off c:Nat}(h:DD w bs kb kv (.slice (some ⟨bs,off,none⟩) n c) n f)(p:j<n)(x:Int):DD (w.setCell ⟨bs,off+j*6+1,none⟩ (.int .i64 x)) bs kb kv (.slice (some ⟨bs,off,none⟩) n c) n (orgTo f j x):=by
 obtain⟨d,a,cap,hv,g,o⟩:=h;cases hv;refine⟨d,_,_,rfl,g,fun hn=>?_⟩;obtain⟨l,e,m⟩:=o hn;cases e;refine⟨off,rfl,fun i hi=>?_⟩;have hs:=m i hi;have k:CI (w.setCell ⟨bs,off+j*6+1,none⟩ (.int .i64 x)) (kb i) (kv i) (f i).dn (f i).ds (f i).db:=hs.dead.AH (AI.put w bs _ _) (fun d=>hs.Bi d);by_cases e:i=j
 ·subst e;have b:Go.Proofs.YtibhefllijahkaaGreatDoor.orgTo f i x i = {f i with origin:=x}:=if_pos rfl;rw[b];exact⟨hs.c0.other _ (Or.inr (by omega)),hs.c1.set _,hs.c2.other _ (Or.inr (by omega)),hs.c3.other _ (Or.inr (by omega)),hs.c4.other _ (Or.inr (by omega)),hs.c5.other _ (Or.inr (by omega)),k,hs.Bo,hs.Bi⟩
 ·have b:Go.Proofs.YtibhefllijahkaaGreatDoor.orgTo f j x i=f i:=if_neg e;rw[b];exact⟨hs.c0.other _ (Or.inr (by omega)),hs.c1.other _ (Or.inr (by omega)),hs.c2.other _ (Or.inr (by omega)),hs.c3.other _ (Or.inr (by omega)),hs.c4.other _ (Or.inr (by omega)),hs.c5.other _ (Or.inr (by omega)),k,hs.Bo,hs.Bi⟩
def Gz(l:List AL)(x:Int):Prop:=∃i,i<l.length/\(l.getD i Ap).id=x
open Classical in
noncomputable def Db(W:A5)(name:ByteArray)(l:List AL)(m:Nat):Nat->AL:=fun j=>if j<m/\Gz l (W.A1 j).id then {W.A1 j with set:=name}else W.A1 j
theorem zBE(W:A5)(name:ByteArray)(l:List AL):Db W name l 0=W.A1:=by
 funext j;unfold Db;rw[if_neg (fun h=>absurd h.1 (Nat.not_lt_zero _))]
variable{m:Nat}
theorem XJ(W:A5)(name:ByteArray)(l:List AL)(h:m<=j):Db W name l m j=W.A1 j:=by
 unfold Db;rw[if_neg (fun a=>by have:=a.1;omega)]
variable{W:A5}{l:List AL}
theorem zy(name:ByteArray)(h:Gz l (W.A1 m).id):Db W name l (m+1)=setTo (Db W name l m) m name:=by
 funext j;unfold setTo;by_cases e:j=m
 ·rw[if_pos e,XJ W name l (Nat.le_refl m),e];unfold Db;rw[if_pos ⟨Nat.lt_succ_self m,h⟩]
 ·rw[if_neg e];unfold Db;by_cases a:j<m/\Gz l (W.A1 j).id
  ·rw[if_pos a,if_pos ⟨by have:=a.1;omega,a.2⟩]
  ·rw[if_neg a,if_neg (fun b=>a ⟨by have:=b.1;omega,b.2⟩)]
theorem zDV(name:ByteArray)(h:¬Gz l (W.A1 m).id):Db W name l (m+1)=Db W name l m:=by
 funext j;unfold Db;by_cases e:j=m
 ·rw[if_neg (fun a=>h (e▸a.2)),if_neg (fun a=>h (e▸a.2))]
 ·by_cases b:j<m/\Gz l (W.A1 j).id
  ·rw[if_pos b,if_pos ⟨by have:=b.1;omega,b.2⟩]
  ·rw[if_neg b,if_neg (fun a=>b ⟨by have:=a.1;omega,a.2⟩)]
noncomputable def Gu(W:A5)(name:ByteArray)(k k2:Nat)(l:List AL):A5:={W with A3:=orgTo (orgTo W.A3 k (W.A3 k2).origin) k2 (l.getD 0 Ap).id,A1:=Db W name l W.pn}
noncomputable def Dt(W:A5)(name:ByteArray):List AL:=CL W (AC W (Am W name).origin).set (Am W name).origin
theorem Pg(h:Cm W)(a:(Am W name).origin≠0):Ba W (Am W name).origin:=by
 by_cases c:∃k,Bl W name k
 ·obtain⟨k,b⟩:=c;rw[Kv b]at a ⊢;exact(h.2.2.2.2.1 k b.1).2.2.2 a
 ·have e:Am W name=Js:=(by unfold Am;rw[dif_neg c]);rw[e]at a;exact absurd rfl a
theorem qR(h:CF W)(name:ByteArray):(Lit.int .i64 (Am W name).origin).wf=true:=by
 by_cases a:(Am W name).origin=0
 ·rw[a];rfl
 ·obtain⟨k,b,e⟩:=Pg ((GD W).1 h).AX a;rw[<-e];exact h.AX.idsWf k b
variable{k:Nat}
theorem zIe(h:Cm W)(a:k<W.pn):(W.A1 k).id≠0:=by
 have:=((h.2.2.2.2.2 k a).1).1;omega
theorem Yl(h:CF W)(d:(Am W name).origin≠0):0<(Dt W name).length/\(Dt W name).getD 0 Ap=AC W (Am W name).origin/\(AC W (Am W name).origin).id=(Am W name).origin/\∃g,Bl W (AC W (Am W name).origin).set g:=by
 have c:=((GD W).1 h).AX;obtain⟨j,b⟩:=(Pg c d).no;have e:=CM b;have hn:=Ma h.AX (st:=(AC W (Am W name).origin).set) (x:=(Am W name).origin) (by
  rintro(a | a)
  ·rw[e]at a;exact zIe c b.1 a
  ·exact a rfl)
 refine⟨?_,?_,by rw[e];exact b.2.1,?_⟩
 ·unfold Dt;rw[hn];exact Nat.succ_pos _
 ·unfold Dt;rw[hn];rfl
 ·rw[e];exact Kz ((c.2.2.2.2.2 j b.1).1).2.2.2.2.2
theorem zBD(h:CF W)(d:(Am W name).origin≠0)(l:GO W name (Dt W name)){k2:Nat}(m:Bl W name k)(b:Bl W (AC W (Am W name).origin).set k2):k≠k2:=fun e=>by
 subst e;obtain⟨g,i,-,-⟩:=Yl h d;obtain⟨j,a⟩:=(Pg ((GD W).1 h).AX d).no;refine l 0 g j a.1 ⟨?_,?_⟩
 ·have c:=b.2.1;rw[m.2.1,CM a]at c;exact c.symm
 ·rw[i,CM a]
def zBA(W:A5)(name:ByteArray)(w:World)(e:Ending)(w':World):Prop:=∃r o,Et W (∃i,i<1/\8000<((fun (_:Nat)=>name) i).size) (∃i,i<0/\¬BK ((fun _=>⟨#[]⟩) i)) 3 (fun i=>match i with | 0=>B3 W name | 1=>(Am W name).origin≠0 | _=>GO W name (Dt W name)) (fun i=>match i with | 0=>2 | 1=>5 | _=>3) r/\(r=none->∃k k2,Bl W name k/\Bl W (AC W (Am W name).origin).set k2/\o=⟨Gu W name k k2 (Dt W name),(Am W name).origin,0,0⟩)/\Iw (F6 r o) w e w'
theorem zEJ{a b:Int}(h:¬a≠b):a=b:=by omega
theorem zBh(i v1 j k:Value)(lo hi:Nat)(W:A5)(B:Nat)(name:ByteArray)(w:World)(h:BR w lo hi i v1 j k W)(z:C6 W)(t:name.size<=maxLen)(C:w.cell? ⟨B,0,none⟩=some (.string name)) :
 Calls Tryz.prog 51 #[BS i v1 j k W,.pointer (some ⟨B,0,none⟩)] w fun e w'=>AG ((Am W name).origin≠0) e/\Below w.heap.size w w':=by
 have G:=A4 h;have I:=A4 z;have J:=A4 t;have H:=z.A3.1;clear h z t;obtain⟨g,l⟩:∃g,g=Am W name:=⟨_,rfl⟩;have r:=A4 (show ∀(v w':World) (vd:Nat->Value),FM w' W (v.heap.size+1) W.sn vd->MJ v lo hi W.sn W.A3 vd->∃a c,(Instr.lookup 86 (.map (some (v.heap.size+1))) (.string name) false).run Tryz.prog w' = .ok (Dh (.slice a g.dn c) g) w' from fun v w' vd o n=>by
  obtain⟨a,c,A,-⟩:=Ov I.out.setsDist n name;rw[l];exact⟨a,c,Nr o J.out A⟩)
 rw[<-l];clear l;have p:=A9 w (.cells #[i,v1,.int .i64 W.time,.int .i64 W.next,j,k] 30);have s:=(p.cell (AZ C)).trans C;have u:=A4 (Aj.new w (i) (v1) (.int .i64 W.time) (.int .i64 W.next) (j) (k) 30);have d:=A4 s;obtain⟨L,M,N,O,P,Q⟩:=u.out.c;go_enter Tryz.func51,Tryz.ntmps51;go_wp2_with fail;generalize w.alloc (.cells #[i,v1,.int .i64 W.time,.int .i64 W.next,j,k] 30)=W0 at p s u d L M N O P Q ⊢;clear C;by_cases q:g.origin≠0
 ·have x:=A4 q;have e0:(g.origin != 0)=true:=(by exact bne_iff_ne.2 q);clear q;go_region_held3 (fun w'=>w'.cell? ⟨w.heap.size,0,none⟩=some (i)/\w'.cell? ⟨w.heap.size,1,none⟩=some (v1)/\w'.cell? ⟨w.heap.size,2,none⟩=some (.int .i64 W.time)/\w'.cell? ⟨w.heap.size,3,none⟩=some (.int .i64 W.next)/\w'.cell? ⟨w.heap.size,4,none⟩=some (j)/\w'.cell? ⟨w.heap.size,5,none⟩=some (k)/\w'.cell? ⟨B,0,none⟩=some (.string name)) (go_keep)
   (first
    | (go_at_call 46;refine(K9 i v1 j k lo hi W _ ((G.out.A0 p).A0 (Below.refl _ _).drew) H).mono ?_;rintro e K ⟨vd,rfl,o,n,m⟩;have b:=Cp m;obtain⟨y,c3,F⟩:=r.out W0 _ _ o n;have E:=fun w=>Rl (.slice y g.dn c3) g w;obtain⟨R,S,T,U,V,X⟩:=(u.out.A0 b).c;have D:=(b.cell (AZ d.out)).trans d.out;clear o n))
  go_wp2;go_ret;exact⟨AG.yes x.out,A7 p b⟩
 ·have x:=A4 q;have e0:(g.origin != 0)=false:=(by rw[zEJ q];rfl);clear q;go_region_held3 (fun w'=>w'.cell? ⟨w.heap.size,0,none⟩=some (i)/\w'.cell? ⟨w.heap.size,1,none⟩=some (v1)/\w'.cell? ⟨w.heap.size,2,none⟩=some (.int .i64 W.time)/\w'.cell? ⟨w.heap.size,3,none⟩=some (.int .i64 W.next)/\w'.cell? ⟨w.heap.size,4,none⟩=some (j)/\w'.cell? ⟨w.heap.size,5,none⟩=some (k)/\w'.cell? ⟨B,0,none⟩=some (.string name)) (go_keep)
   (first
    | (go_at_call 46;refine(K9 i v1 j k lo hi W _ ((G.out.A0 p).A0 (Below.refl _ _).drew) H).mono ?_;rintro e K ⟨vd,rfl,o,n,m⟩;have b:=Cp m;obtain⟨y,c3,F⟩:=r.out W0 _ _ o n;have E:=fun w=>Rl (.slice y g.dn c3) g w;obtain⟨R,S,T,U,V,X⟩:=(u.out.A0 b).c;have D:=(b.cell (AZ d.out)).trans d.out;clear o n))
  go_wp2;go_ret;exact⟨AG.no x.out,A7 p b⟩
theorem zAc(p:Nat->Addr)(b:ByteArray)(w:World)(l:Cr w p) :
 Calls Tryz.prog 20 #[.string b] w fun e w'=>∃k:Nat,e = .returned (.agg #[.func (.func 51) #[] #[.pointer (some ⟨k,0,none⟩)],AY (p 5)])/\w'.cell? ⟨k,0,none⟩=some (.string b)/\Below w.heap.size w w':=by
 have d:=A9 w (.cells #[.string b] 9);have j:=A9 (w.alloc (.cells #[.string b] 9)) (.cells #[.nilFunc,.nilIface] 57);have m:=A7 (d) j;have c0:(w.alloc (.cells #[.string b] 9)).cell? ⟨w.heap.size,0,none⟩=some (.string b):=World.cell?_alloc_at _ _ _ _ rfl;have q:((w.alloc (.cells #[.string b] 9)).alloc (.cells #[.nilFunc,.nilIface] 57)).cell? ⟨1,0,none⟩=some (AY (p 5)):=(l.A0 m).cell 5 (by omega);have g:=A9 (w.alloc (.cells #[.string b] 9)) (.cells #[.func (.func 51) #[] #[.pointer (some ⟨w.heap.size,0,none⟩)],AY (p 5)] 57);have i:=A7 (d) g;have h:=A4 ((g.cell (AZ c0)).trans c0);clear c0;go_enter Tryz.func20,Tryz.ntmps20;have n:=fun (o:World) (a:Addr)=>run_store Tryz.prog o a (.func (.func 51) #[] #[.pointer (some ⟨w.heap.size,0,none⟩)]) .plain rfl
 go_wp2_with fail;have c:=Ad.new (w.alloc (.cells #[.string b] 9)) (.func (.func 51) #[] #[.pointer (some ⟨w.heap.size,0,none⟩)]) (AY (p 5)) 57;rw[World.size_alloc]at c;refine bodyPost_ret (v:=.agg #[.func (.func 51) #[] #[.pointer (some ⟨w.heap.size,0,none⟩)],AY (p 5)]) (by simp[results,Tryz.results20,go_sem,c.1.1,c.2.1]) rfl ⟨_,rfl,h.out,i⟩
theorem ZX(p:Nat->Addr)(A v1 D E:Value)(lo hi:Nat)(W:A5)(name:ByteArray)(o:BV)(w:World)(hE:Cr w p)(h:BR w lo hi A v1 D E W)(vA:E7 W)(b1:Az W.pool<=1048576)(b2:W.sn<=1048576)(b3:W.pn<=1048576)(b4:Je W)(s:name.size<=maxLen)(bE:hi<=w.heap.size)
 (rA:∀J C w' z0 z1 z2 z3,w'.cell? ⟨J,0,none⟩=some (.string name)->J<C->CF W->¬(∃i,i<1/\8000<((fun (_:Nat)=>name) i).size)->¬(∃i,i<0/\¬BK ((fun _=>⟨#[]⟩) i))->(∀j,j<3->(fun i=>match i with | 0=>B3 W name | 1=>(Am W name).origin≠0 | _=>GO W name (Dt W name)) j)->C<w'.heap.size->Below w.heap.size w w'->DC w' (C+1) w'.heap.size z0 z1 z2 z3 W->Bp w' C z0 z1 (.int .i64 W.time) (.int .i64 W.next) z2 z3 (.int .i64 0) (.int .i64 0) .nilIface->Calls Tryz.prog 22 #[.pointer (some ⟨C,0,none⟩),.pointer (some ⟨J,0,none⟩)] w' (JU p o C w')) :
 Calls Tryz.prog 5 #[BS A v1 D E W,.string name] w fun e w'=>∃r,Et W (∃i,i<1/\8000<((fun (_:Nat)=>name) i).size) (∃i,i<0/\¬BK ((fun _=>⟨#[]⟩) i)) 3 (fun i=>match i with | 0=>B3 W name | 1=>(Am W name).origin≠0 | _=>GO W name (Dt W name)) (fun i=>match i with | 0=>2 | 1=>5 | _=>3) r/\Iw (F6 r o) w e w':=by
 have Hp:=AP h;have HE:=AP hE;have pB:=AP rA;have mA:=AP vA;have H:=AP s;clear h hE rA vA;have nA:=A9 w (.cells #[A,v1,.int .i64 W.time,.int .i64 W.next,D,E] 30);have cA:=A9 (w.alloc (.cells #[A,v1,.int .i64 W.time,.int .i64 W.next,D,E] 30)) (.cells #[.string name] 9);have Q:=A9 ((w.alloc (.cells #[A,v1,.int .i64 W.time,.int .i64 W.next,D,E] 30)).alloc (.cells #[.string name] 9)) (.cells #[.slice none 0 0,.slice none 0 0,.int .i64 0,.int .i64 0,.slice none 0 0,.slice none 0 0,.int .i64 0,.int .i64 0,.int .i64 0] 34);have hb:=A7 (A7 (nA) cA) Q;have HX:=AP (((Aj.new w (A) (v1) (.int .i64 W.time) (.int .i64 W.next) (D) (E) 30).A0 cA).A0 Q);have c0:((w.alloc (.cells #[A,v1,.int .i64 W.time,.int .i64 W.next,D,E] 30)).alloc (.cells #[.string name] 9)).cell? ⟨(w.alloc (.cells #[A,v1,.int .i64 W.time,.int .i64 W.next,D,E] 30)).heap.size,0,none⟩=some (.string name):=World.cell?_alloc_at _ _ _ _ rfl;rw[World.size_alloc]at c0;replace c0:=(Q.cell (AZ c0)).trans c0;have jA:=AP c0;clear c0;have hr:=Bp.new ((w.alloc (.cells #[A,v1,.int .i64 W.time,.int .i64 W.next,D,E] 30)).alloc (.cells #[.string name] 9)) (.slice none 0 0) (.slice none 0 0) (.int .i64 0) (.int .i64 0) (.slice none 0 0) (.slice none 0 0) (.int .i64 0) (.int .i64 0) (.int .i64 0) 34;rw[World.size_alloc,World.size_alloc]at hr;have HR:=AP hr;clear hr;have hz:(((w.alloc (.cells #[A,v1,.int .i64 W.time,.int .i64 W.next,D,E] 30)).alloc (.cells #[.string name] 9)).alloc (.cells #[.slice none 0 0,.slice none 0 0,.int .i64 0,.int .i64 0,.slice none 0 0,.slice none 0 0,.int .i64 0,.int .i64 0,.int .i64 0] 34)).heap.size=w.heap.size+3:=by rw[World.size_alloc,World.size_alloc,World.size_alloc]
 go_enter Tryz.func5,Tryz.ntmps5;go_upto_region 1 with fail;generalize (((w.alloc (.cells #[A,v1,.int .i64 W.time,.int .i64 W.next,D,E] 30)).alloc (.cells #[.string name] 9)).alloc (.cells #[.slice none 0 0,.slice none 0 0,.int .i64 0,.int .i64 0,.slice none 0 0,.slice none 0 0,.int .i64 0,.int .i64 0,.int .i64 0] 34))=W1 at hb HX HR hz jA ⊢;clear nA cA Q;obtain⟨x0,x1,x2,x3,x4,x5⟩:=HX.out.c;have k0:=jA.out;have b:=AP (show ∀w',Below (w.heap.size+1+1) W1 w'->(fun w'=>w'.cell? ⟨w.heap.size,0,none⟩=some (A)/\w'.cell? ⟨w.heap.size,1,none⟩=some (v1)/\w'.cell? ⟨w.heap.size,2,none⟩=some (.int .i64 W.time)/\w'.cell? ⟨w.heap.size,3,none⟩=some (.int .i64 W.next)/\w'.cell? ⟨w.heap.size,4,none⟩=some (D)/\w'.cell? ⟨w.heap.size,5,none⟩=some (E)/\w'.cell? ⟨w.heap.size+1,0,none⟩=some (.string name)/\Below (w.heap.size+1+1) W1 w') w' from fun w' d=>⟨(d.cell (p:=⟨w.heap.size,0,none⟩) (by show w.heap.size<_;omega)).trans x0,(d.cell (p:=⟨w.heap.size,1,none⟩) (by show w.heap.size<_;omega)).trans x1,(d.cell (p:=⟨w.heap.size,2,none⟩) (by show w.heap.size<_;omega)).trans x2,(d.cell (p:=⟨w.heap.size,3,none⟩) (by show w.heap.size<_;omega)).trans x3,(d.cell (p:=⟨w.heap.size,4,none⟩) (by show w.heap.size<_;omega)).trans x4,(d.cell (p:=⟨w.heap.size,5,none⟩) (by show w.heap.size<_;omega)).trans x5,(d.cell (p:=⟨w.heap.size+1,0,none⟩) (by show w.heap.size+1<_;omega)).trans k0,d⟩);have u:w.heap.size+1+1<=W1.heap.size:=by omega
 clear x0 x1 x2 x3 x4 x5 k0;refine wp_region_held_drew (S:=(fun w'=>w'.cell? ⟨w.heap.size,0,none⟩=some (A)/\w'.cell? ⟨w.heap.size,1,none⟩=some (v1)/\w'.cell? ⟨w.heap.size,2,none⟩=some (.int .i64 W.time)/\w'.cell? ⟨w.heap.size,3,none⟩=some (.int .i64 W.next)/\w'.cell? ⟨w.heap.size,4,none⟩=some (D)/\w'.cell? ⟨w.heap.size,5,none⟩=some (E)/\w'.cell? ⟨w.heap.size+1,0,none⟩=some (.string name)/\Below (w.heap.size+1+1) W1 w')) (by kernel_rfl) (b.out _ ((Below.refl _ _).drew.mono u)) (fun hHeld=>?_);have bC:Below W1.heap.size W1 W1.drew:=(Below.refl _ _).drew;refine tk 0 (h:=?_);refine tk 2 (h:=?_);refine tk 4 (h:=?_);refine tk 6 (h:=?_);refine tk 9 (h:=?_);refine tk 11 (h:=?_);refine XG [1,3,5,7,8] (fun i=>if i=8 then [3,5,7] else []) (fun i=>i+5) (fun i v w'=>(i=1->E8 w' v 1 (fun (_:Nat)=>name))/\(i=3->QAt w' p 49 2 [.string name] v)/\(i=5->QAt w' p 51 5 [.string name] v)/\(i=7->QAt w' p 52 3 [.string name] v)/\(i=8->Hu w' p 3 (fun i=>match i with | 0=>49 | 1=>51 | _=>52) (fun i=>match i with | 0=>2 | 1=>5 | _=>3) (fun i=>match i with | 0=>[.string name] | 1=>[.string name] | _=>[.string name]) v)) 3 (G:=fun w'=>Below W1.heap.size W1 w') (by kernel_rfl) (by decide) (by decide) (by decide) ?_ (fun _ _ h t=>A7 h t) (by assumption) bC ?_ ?_
 ·intro i v w' pE hf t;exact⟨fun e=>(hf.1 e).A0 t,fun e=>(hf.2.1 e).A0 t,fun e=>(hf.2.2.1 e).A0 t,fun e=>(hf.2.2.2.1 e).A0 t,fun e=>(hf.2.2.2.2 e).A0 t⟩
 ·intro i hi x O hS F hD K hK;simp only[List.mem_cons,List.not_mem_nil,or_false]at hi;rcases hi with rfl | rfl | rfl | rfl | rfl
  ·refine wpOp_step (FP rfl) (fun K' q=>?_);simp only[BJ,Act.put,Nat.reduceAdd,s1,s2,s3];have N:=A9 O (.cells #[.string name] 9);go_simp;refine q _ _ (hK.out _ _ _ ?_ (b.out _ ((A7 F N).mono u)) ⟨fun _=>Qz H.out rfl,fun e=>absurd e (by decide),fun e=>absurd e (by decide),fun e=>absurd e (by decide),fun e=>absurd e (by decide)⟩ N);simp only[BJ,Act.put,Nat.reduceAdd,s1,s2,s3]
  ·refine wpOp_step (FP rfl) (fun K' q=>?_);simp only[BJ,Act.put,Nat.reduceAdd,s1,s2,s3];go_simp;go_at_call 19;refine(zBs p name O (HE.out.A0 (A7 hb F))).mono ?_;rintro e w3 ⟨J,rfl,a,l⟩;refine q _ _ (hK.out _ _ w3 ?_ (b.out _ ((A7 F l).mono u)) ⟨fun e=>absurd e (by decide),fun _=>⟨_,rfl,Cw.one a⟩,fun e=>absurd e (by decide),fun e=>absurd e (by decide),fun e=>absurd e (by decide)⟩ l);simp only[BJ,Act.put,Nat.reduceAdd,s1,s2,s3]
  ·refine wpOp_step (FP rfl) (fun K' q=>?_);simp only[BJ,Act.put,Nat.reduceAdd,s1,s2,s3];go_simp;go_at_call 20;refine(zAc p name O (HE.out.A0 (A7 hb F))).mono ?_;rintro e w3 ⟨J,rfl,a,l⟩;refine q _ _ (hK.out _ _ w3 ?_ (b.out _ ((A7 F l).mono u)) ⟨fun e=>absurd e (by decide),fun e=>absurd e (by decide),fun _=>⟨_,rfl,Cw.one a⟩,fun e=>absurd e (by decide),fun e=>absurd e (by decide)⟩ l);simp only[BJ,Act.put,Nat.reduceAdd,s1,s2,s3]
  ·refine wpOp_step (FP rfl) (fun K' q=>?_);simp only[BJ,Act.put,Nat.reduceAdd,s1,s2,s3];go_simp;go_at_call 21;refine(zDN p name O (HE.out.A0 (A7 hb F))).mono ?_;rintro e w3 ⟨J,rfl,a,l⟩;refine q _ _ (hK.out _ _ w3 ?_ (b.out _ ((A7 F l).mono u)) ⟨fun e=>absurd e (by decide),fun e=>absurd e (by decide),fun e=>absurd e (by decide),fun _=>⟨_,rfl,Cw.one a⟩,fun e=>absurd e (by decide)⟩ l);simp only[BJ,Act.put,Nat.reduceAdd,s1,s2,s3]
  ·refine wpOp_step (FP rfl) (fun K' q=>?_);simp only[BJ,Act.put,Nat.reduceAdd,s1,s2,s3];obtain⟨aB,e0,dA⟩:=(hD 3 (by decide)).2.1 rfl;obtain⟨bB,e1,eA⟩:=(hD 5 (by decide)).2.2.1 rfl;obtain⟨cB,e2,fA⟩:=(hD 7 (by decide)).2.2.2.1 rfl;simp only[e0,e1,e2];have N:=A9 O (.cells #[.func (.func 49) #[] aB,AY (p 2),.func (.func 51) #[] bB,AY (p 5),.func (.func 52) #[] cB,AY (p 3)] 57);have hA:Hu (O.alloc (.cells #[.func (.func 49) #[] aB,AY (p 2),.func (.func 51) #[] bB,AY (p 5),.func (.func 52) #[] cB,AY (p 3)] 57)) p 3 (fun i=>match i with | 0=>49 | 1=>51 | _=>52) (fun i=>match i with | 0=>2 | 1=>5 | _=>3) (fun i=>match i with | 0=>[.string name] | 1=>[.string name] | _=>[.string name]) (.slice (some ⟨O.heap.size,0,none⟩) 3 3):=zIL (g:=(fun i=>match i with | 0=>49 | 1=>51 | _=>52)) (ei:=(fun i=>match i with | 0=>2 | 1=>5 | _=>3)) (caps:=(fun i=>match i with | 0=>[.string name] | 1=>[.string name] | _=>[.string name])) dA eA fA;go_simp;refine q _ _ (hK.out _ _ _ ?_ (b.out _ ((A7 F N).mono u)) ⟨fun e=>absurd e (by decide),fun e=>absurd e (by decide),fun e=>absurd e (by decide),fun e=>absurd e (by decide),fun _=>hA⟩ N);simp only[BJ,Act.put,Nat.reduceAdd,s1,s2,s3,e0,e1,e2]
 ·intro x O hS F hF;have P:=(hF 1 (by decide)).1 rfl;obtain⟨-,ta,tc,et,-,-⟩:=id P;have hN:E8 O (.slice none 0 0) 0 (fun _=>⟨#[]⟩):=⟨by omega,_,_,rfl,fun i hi=>absurd hi (Nat.not_lt_zero _),fun h=>absurd h (Nat.lt_irrefl _)⟩;obtain⟨lb,hA,Y⟩:=(hF 8 (by decide)).2.2.2.2 rfl;obtain⟨-,qa,qc,eq,-⟩:=id hA;simp only[BJ,D8,if_true,Act.put,Nat.reduceAdd,s1,s2,s3,et,eq];rw[et]at P;rw[eq]at hA;have d:=A7 hb F;have sB:=AP P;have rB:=AP hN;have oB:=AP hA;have L:=AP Y;clear P hN hA Y hF;refine tk 10 (h:=?_);refine rd [12] (rc (fun K hK=>?_) .nil);go_simp;go_at_call 24;refine(qO p _ _ _ 22 #[.pointer (some ⟨w.heap.size+1,0,none⟩)] 1 0 3 (fun (_:Nat)=>name) (fun _=>⟨#[]⟩) (fun i=>match i with | 0=>49 | 1=>51 | _=>52) lb (fun i=>match i with | 0=>2 | 1=>5 | _=>3) (fun i=>match i with | 0=>B3 W name | 1=>(Am W name).origin≠0 | _=>GO W name (Dt W name)) o _ _ _ _ lo hi W O (HE.out.A0 d) (Hp.out.A0 d) mA.out b1 b2 b3 b4 sB.out rB.out oB.out ?_ ?_ (enters_of Tryz.func22 (by kernel_rfl) rfl) ?_ ?_).mono ?_
  ·intro i hi;rcases(by omega:i=0\/i=1\/i=2)with rfl | rfl | rfl
   all_goals decide
  ·intro i hi;rcases(by omega:i=0\/i=1\/i=2)with rfl | rfl | rfl
   ·exact enters_of Tryz.func49 (by kernel_rfl) rfl
   ·exact enters_of Tryz.func51 (by kernel_rfl) rfl
   ·exact enters_of Tryz.func52 (by kernel_rfl) rfl
  ·intro i cE w' y hI aE;have hW:=(Hp.out.A0 d).A0 y;have h8:=hI.AX.A3.1;have tD:=hI.AX.A1.1;rcases(by omega:i=0\/i=1\/i=2)with rfl | rfl | rfl
   ·obtain⟨J,M,a⟩:=(L.out 0 (by decide)).is1;replace a:=(y.cell (AZ a)).trans a;rw[M];exact zCl A v1 D E lo hi W J name w' hW h8 s a
   ·obtain⟨J,M,a⟩:=(L.out 1 (by decide)).is1;replace a:=(y.cell (AZ a)).trans a;rw[M];exact zBh A v1 D E lo hi W J name w' hW hI.AX s a
   ·obtain⟨J,M,a⟩:=(L.out 2 (by decide)).is1;replace a:=(y.cell (AZ a)).trans a;rw[M];exact zDQ A v1 D E lo hi W J name w' (Dt W name) hW (by have:=d.size;have:=y.size;omega) hI.AX mA.out (qR hI name) s rfl a
  ·intro C w' z0 z1 z2 z3 hC y vB hI hl fC hq z oA;exact pB.out (w.heap.size+1) C w' z0 z1 z2 z3 ((y.cell (AZ hS.2.2.2.2.2.2.1)).trans hS.2.2.2.2.2.2.1) (by have:=F.size;omega) hI hl fC hq vB (A7 d y) z oA
  rintro e w3 ⟨r,Z,z0,z1,z2,z3,rfl,z,l⟩;obtain⟨n0,R,n1,T,n2,U,n3,V,rfl,rfl,rfl,rfl⟩:=z.C5;have I:=A7 F l;have kA:=AP (HR.out.A0 I);have X:=AP z;have lA:=AP Z;clear z Z;generalize tA:F6 r o=oo at X ⊢;have tB:=AP tA;clear tA
  (try go_wp2_with fail)
  refine hK.out _ _ (b.out _ (I.mono u)) ?_;clear hK K hHeld;intro hHeld
  try simp only[Act.put,s1,s2,s3]
  refine rd [13] (rc (fun K hK=>?_) .nil);obtain⟨⟨r0,g0⟩,⟨r1,g1⟩,⟨r2,g2⟩,⟨r3,g3⟩,⟨r4,g4⟩,⟨r5,g5⟩,⟨r6,g6⟩,⟨r7,g7⟩,⟨r8,g8⟩⟩:=kA.out;go_simp
  (try go_wp2_with fail)
  have P:=AI.put9 w3 (w.heap.size+1+1) (.slice n0 oo.world.pool.n R) (.slice n1 oo.world.pool.hn T) (.int .i64 oo.world.time) (.int .i64 oo.world.next) (.slice n2 oo.world.sn U) (.slice n3 oo.world.pn V) (.int .i64 oo.id) (.int .i64 oo.many) (.int .i64 oo.code);have eC:Below (w.heap.size+1+1) W1 (((((((((w3.setCell ⟨w.heap.size+1+1,0,none⟩ (.slice n0 oo.world.pool.n R)).setCell ⟨w.heap.size+1+1,1,none⟩ (.slice n1 oo.world.pool.hn T)).setCell ⟨w.heap.size+1+1,2,none⟩ (.int .i64 oo.world.time)).setCell ⟨w.heap.size+1+1,3,none⟩ (.int .i64 oo.world.next)).setCell ⟨w.heap.size+1+1,4,none⟩ (.slice n2 oo.world.sn U)).setCell ⟨w.heap.size+1+1,5,none⟩ (.slice n3 oo.world.pn V)).setCell ⟨w.heap.size+1+1,6,none⟩ (.int .i64 oo.id)).setCell ⟨w.heap.size+1+1,7,none⟩ (.int .i64 oo.many)).setCell ⟨w.heap.size+1+1,8,none⟩ (.int .i64 oo.code)):=(I.mono u).trans (P.A0 (B:=w.heap.size+1+1) (by have:=I.size;omega) (fun k e=>by omega));refine hK.out _ _ (b.out _ eC) ?_;clear hK K hHeld r0 r1 r2 r3 r4 r5 r6 r7 r8 g0 g1 g2 g3 g4 g5 g6 g7 g8;intro hHeld
  try simp only[Act.put,s1,s2,s3]
  refine wpAnyH_done (by kernel_rfl) ?_ _;go_wp2_with fail;have m:=kA.out.put (.slice n0 oo.world.pool.n R) (.slice n1 oo.world.pool.hn T) (.int .i64 oo.world.time) (.int .i64 oo.world.next) (.slice n2 oo.world.sn U) (.slice n3 oo.world.pn V) (.int .i64 oo.id) (.int .i64 oo.many) (.int .i64 oo.code);have pA:=A7 hb I;have jC:=P.size;have gE:=I.size;refine bodyPost_ret (v:=.agg #[.slice n0 oo.world.pool.n R,.slice n1 oo.world.pool.hn T,.int .i64 oo.world.time,.int .i64 oo.world.next,.slice n2 oo.world.sn U,.slice n3 oo.world.pn V,.int .i64 oo.id,.int .i64 oo.many,.int .i64 oo.code]) (by simp[results,Tryz.results5,go_sem,m.1.1,m.2.1.1,m.2.2.1.1,m.2.2.2.1.1,m.2.2.2.2.1.1,m.2.2.2.2.2.1.1,m.2.2.2.2.2.2.1.1,m.2.2.2.2.2.2.2.1.1,m.2.2.2.2.2.2.2.2.1]) rfl ⟨r,lA.out,?_⟩;rw[tB.out];refine⟨_,_,_,_,rfl,?_,?_⟩
  ·exact(X.out.AH P (fun k e=>by have:=F.size;omega)).wide (by have:=F.size;omega) jC
  ·exact pA.trans (P.A0 (B:=w.heap.size) pA.size (fun k e=>by omega))
theorem EI.nth{v:Value}{f:Nat->AL}(h:EI w bs kb kv v n f)(b:k<n):∃off c,v = .slice (some ⟨bs,off,none⟩) n c/\GY w bs (off+k*8) (kb k) (kv k) (f k):=by
 obtain⟨_,a,c,hv,_,d⟩:=h;obtain⟨off,rfl,hs⟩:=d (by omega);exact⟨off,c,hv,hs k b⟩
theorem Qr(W:A5)(name:ByteArray)(l:List AL)(m j:Nat):(Db W name l m j).dn=(W.A1 j).dn:=by
 unfold Db;by_cases a:j<m/\Gz l (W.A1 j).id
 ·rw[if_pos a]
 ·rw[if_neg a]
theorem UH(h:Io bs kb n (Db W name l m) k):Io bs kb n W.A1 k:=by
 rcases h with h | ⟨i,a,b,c⟩
 ·exact Or.inl h
 ·exact Or.inr ⟨i,a,by rw[<-Qr W name l m i];exact b,c⟩
theorem zBl(h:Mj kb n W.A1)(name:ByteArray)(l:List AL)(m:Nat):Mj kb n (Db W name l m):=fun a b g i c d e=>h a b g i c (by rw[<-Qr W name l m a];exact d) (by rw[<-Qr W name l m b];exact e)
end Go.Proofs.YtibhefllijahkaaGreatDoor

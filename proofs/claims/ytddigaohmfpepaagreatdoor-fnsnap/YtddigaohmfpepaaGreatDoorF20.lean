/- A part of the proof. -/
import Derived.Test.YtddigaohmfpepaaGreatDoorF19
import Derived.Test.YtddigaohmfpepaaGreatDoorF15
set_option linter.unusedVariables false
set_option maxRecDepth 20000
set_option maxHeartbeats 4000000
namespace Go.Proofs.YtddigaohmfpepaaGreatDoor
noncomputable section
open Go.RowKit
set_option linter.unusedSimpArgs false
set_option maxRecDepth 20000
set_option maxHeartbeats 3200000
theorem zBl(x:Int):0<=IntKind.u64.wrap x:=by
 simp[IntKind.wrap,IntKind.bits,IntKind.signed];omega
theorem I0{x:Int}(h:-1000000000000000000<=x)(a:x<=1000000000000000000):IntKind.i64.wrap x=x:=by
 simp[IntKind.wrap,IntKind.bits,IntKind.signed];omega
theorem GO(s:B5){m:Int}(h:1<m)(c:m<=1000000000000000000):0<=nV s m/\nV s m<m:=by
 unfold nV;rw[if_neg (by omega)];have a:=Int.tmod_nonneg m (zBl ((if s.pos<s.bn then s.bf s.pos else 0)+MU (L5 s.mix) 20));have b:=Int.tmod_lt_of_pos (IntKind.u64.wrap ((if s.pos<s.bn then s.bf s.pos else 0)+MU (L5 s.mix) 20)) (show 0<m by omega);rw[I0 (by omega) (by omega)];exact⟨a,b⟩
theorem JH(s:B5){m:Int}(a:m<=1000000000000000000):0<=nV s m/\(nV s m<m\/nV s m=0):=by
 by_cases h:1<m
 ·exact⟨(GO s h a).1,.inl (GO s h a).2⟩
 ·have:nV s m=0:=if_pos (by omega);omega
attribute [-go_sem] CA
attribute [local go_sem] N0 My Mz NK NA NB Mt Mx Mw Mv Mu Kg
def yr:AL:=AY (fun q:B5×Int=>(true,srV q.1) :: [iT q.2]) (fun q=>BE q.1/\q.2<=1000000000000000000) (fun q=>(true,srV (nS q.1 q.2)) :: bR (nV q.1 q.2=0))
theorem Ec(s:B5)(m:Int):yr ((true,srV s) :: [iT m])=some (BE s/\m<=1000000000000000000,(true,srV (nS s m)) :: bR (nV s m=0)):=Ag (fun l=>(GK (nth l 0),AS (nth l 1 0))) (fun _=>rfl) (s,m)
theorem PE:DK Tryz.prog 51 yr:=by
 refine Ev Al (GOk.ptr II (AE Tryz.func49 rfl rfl) GOk.nil) Ak Tryz.func51 rfl Tryz.ntmps51 Tryz.results51 5 ?_;rintro⟨s,m⟩ hs;obtain⟨hs,a⟩:BE s/\m<=1000000000000000000:=hs;refine⟨by simp,?_⟩;simp[go_sem,Dk,hs,a,Ch]
def yn:AL:=AY (fun q:Int×Int=>[iT q.1,iT q.2]) (fun _=>True) (fun q=>[iT (max q.1 q.2)])
theorem zGy(a b:Int):yn [iT a,iT b]=some (True,[iT (max a b)]):=Ag (fun l=>(AS (nth l 0 0),AS (nth l 1 0))) (fun _=>rfl) (a,b)
theorem zJ:An Tryz.prog 96 yn:=by
 refine B6 Al GOk.nil Ak Tryz.func96 rfl Tryz.ntmps96 Tryz.results96 5 ?_;rintro⟨a,b⟩ -;refine⟨by simp,?_⟩;simp[go_sem];omega
abbrev sT'(d:ByteArray):Bool×List Tr:=(false,[.v (.string d)])
def qf:List Int:=[0,1,-1,2,1000,1001,2147483648,2147483647,-2147483648,4611686018427387904,9223372036854775807,-9223372036854775808,1000000,1000001]
def LG(s:B5):Int:=qf.getD (nV s 14).toNat 0
def qp:AL:=AY (fun s:B5=>[(true,srV s)]) (fun s=>BE s) (fun s=>[(true,srV (nS s 14)),iT (LG s)])
theorem Ln(s:B5):qp [(true,srV s)]=some (BE s,[(true,srV (nS s 14)),iT (LG s)]):=Ag (fun l=>GK (nth l 0)) (fun _=>rfl) s
theorem Tg:DK Tryz.prog 107 qp:=by
 refine Ev (A:=fun _=>[]) Al (GOk.ptr II (AE Tryz.func49 rfl rfl) GOk.nil) Ak Tryz.func107 rfl Tryz.ntmps107 Tryz.results107 3 ?_;rintro s hs;replace hs:BE s:=hs;have hv:=GO s (m:=14) (by omega) (by omega);refine⟨by simp,?_⟩;rcases(show nV s 14=0\/nV s 14=1\/nV s 14=2\/nV s 14=3\/nV s 14=4\/nV s 14=5\/nV s 14=6\/nV s 14=7\/nV s 14=8\/nV s 14=9\/nV s 14=10\/nV s 14=11\/nV s 14=12\/nV s 14=13 by omega)with h | h | h | h | h | h | h | h | h | h | h | h | h | h<;>simp[go_sem,Dk,hs,h,LG,qf,Ch]
def FT(s:B5):B5:=if nV s 20=0 then nS (nS (nS s 20) 14) 4 else nS (nS s 20) 7
def IG(s:B5):Int:=if nV s 20=0 then [-1,63,64,LG (nS s 20)].getD (nV (nS (nS s 20) 14) 4).toNat 0 else [0,1,2,7,8,9,63].getD (nV (nS s 20) 7).toNat 0
theorem Px{s:B5}(h:BE s):BE (FT s):=by
 unfold FT;split
 ·exact C3 (C3 (C3 h _) _) _
 ·exact C3 (C3 h _) _
def yp:AL:=AY (fun s:B5=>[(true,srV s)]) (fun s=>BE s) (fun s=>[(true,srV (FT s)),iT (IG s)])
theorem zGz(s:B5):yp [(true,srV s)]=some (BE s,[(true,srV (FT s)),iT (IG s)]):=Ag (fun l=>GK (nth l 0)) (fun _=>rfl) s
theorem zAP:DK Tryz.prog 98 yp:=by
 refine Ev (A:=fun _=>[]) Al (GOk.ptr II (AE Tryz.func49 rfl rfl) (GOk.ptr PE (AE Tryz.func51 rfl rfl) (GOk.ptr Tg (AE Tryz.func107 rfl rfl) GOk.nil))) Ak Tryz.func98 rfl Tryz.ntmps98 Tryz.results98 3 ?_;rintro s hs;replace hs:BE s:=hs;have a:=C3 hs 20;have c:=C3 a 14;refine⟨by simp,?_⟩;by_cases b:nV s 20=0
 ·have hv:=GO (nS (nS s 20) 14) (m:=4) (by omega) (by omega);rcases(show nV (nS (nS s 20) 14) 4=0\/nV (nS (nS s 20) 14) 4=1\/nV (nS (nS s 20) 14) 4=2\/nV (nS (nS s 20) 14) 4=3 by omega)with h | h | h | h<;>simp[go_sem,Dk,Ec,Ln,hs,a,c,b,h,FT,IG,Ch]
 ·have hv:=GO (nS s 20) (m:=7) (by omega) (by omega);rcases(show nV (nS s 20) 7=0\/nV (nS s 20) 7=1\/nV (nS s 20) 7=2\/nV (nS s 20) 7=3\/nV (nS s 20) 7=4\/nV (nS s 20) 7=5\/nV (nS s 20) 7=6 by omega)with h | h | h | h | h | h | h<;>simp[go_sem,Dk,Ec,Ln,hs,a,c,b,h,FT,IG,Ch]
def K5:AL:=AY (fun q:B5×Nat×(Nat->Nat->Tr)=>(true,srV q.1) :: [(false,[.s .b 1 q.2.1 q.2.2])]) (fun q=>BE q.1/\(0<q.2.1/\q.2.1<=1000000)/\∀i,i<q.2.1->∃t,q.2.2 i 0 = .v (.string t)) (fun q=>[(true,srV (nS q.1 q.2.1)),sT' (CO (q.2.2 (nV q.1 q.2.1).toNat 0))])
theorem zFG(s:B5)(n:Nat)(F:Nat->Nat->Tr):K5 ((true,srV s) :: [(false,[.s .b 1 n F])])=some (BE s/\(0<n/\n<=1000000)/\∀i,i<n->∃t,F i 0 = .v (.string t),[(true,srV (nS s n)),sT' (CO (F (nV s n).toNat 0))]):=Ag (fun l=>(GK (nth l 0),DN (nth l 1 0),Bp (nth l 1 0))) (fun _=>rfl) (s,n,F)
theorem PY:DK Tryz.prog 18 K5:=by
 refine Ev Al (GOk.ptr II (AE Tryz.func49 rfl rfl) GOk.nil) Ak Tryz.func18 rfl Tryz.ntmps18 Tryz.results18 5 ?_;rintro⟨s,n,F⟩ hs;obtain⟨hs,⟨hn,a⟩,hF⟩:BE s/\(0<n/\n<=1000000)/\∀i,i<n->∃t,F i 0 = .v (.string t):=hs;have hv:=JH s (m:=n) (by omega);obtain⟨t,b⟩:=hF (nV s n).toNat (by omega);refine⟨by simp,?_⟩;simp[go_sem,Dk,hs,b,Ch,CO];omega
set_option maxRecDepth 20000
set_option maxHeartbeats 3200000
theorem zIk{a b:Int}:CA .quo .i64 a .i64 b=some (b≠0,.int .i64 (IntKind.i64.wrap (a.tdiv b))):=rfl
def Em(l:List ByteArray):Nat->Nat->Tr:=fun p q=>(l.map fun t=>Tr.v (.string t))[p+q]?.getD (.v (.bool false))
variable{i:Nat}
theorem UE{l:List ByteArray}(h:i<l.length):Em l i 0 = .v (.string (l.getD i ⟨#[]⟩)):=by
 unfold Em;simp[h]
variable{fl:Fl}{n:Nat}
theorem R3(l:List ByteArray):(Tr.s fl 1 n (Em l)).CY = .s .b 1 n (Em l):=by
 show Tr.s .b 1 n (fun p q=>(Em l p q).CY)=_;congr 1;funext p q;unfold Em;rw[List.getElem?_map];cases l[p+q]?<;>rfl
variable{a b c:ByteArray}
theorem Pq:(Tr.s fl 1 3 fun p q=>([.v (.string a),.v (.string b),.v (.string c)]:List Tr)[p+q]?.getD (.v (.bool false))).CY = .s .b 1 3 (Em [a,b,c]):=R3 [a,b,c]
variable{d:ByteArray}
theorem Pr{e:ByteArray}:(Tr.s fl 1 5 fun p q=>([.v (.string a),.v (.string b),.v (.string c),.v (.string d),.v (.string e)]:List Tr)[p+q]?.getD (.v (.bool false))).CY = .s .b 1 5 (Em [a,b,c,d,e]):=R3 [a,b,c,d,e]
theorem RO(s:B5)(l:List ByteArray)(h:0<l.length/\l.length<=1000000):K5 ((true,srV s) :: [(false,[.s .b 1 l.length (Em l)])])=some (BE s,[(true,srV (nS s l.length)),sT' (l.getD (nV s l.length).toNat ⟨#[]⟩)]):=by
 have hv:=JH s (m:=l.length) (by omega);rw[zFG,UE (by omega)];have e:(BE s/\(0<l.length/\l.length<=1000000)/\∀i,i<l.length->∃t,Em l i 0 = .v (.string t))=BE s:=by
  refine propext ⟨fun h=>h.1,fun hs=>⟨hs,h,fun i hi=>⟨_,UE hi⟩⟩⟩
 rw[e];rfl
theorem zDd(s:B5)(a b c:ByteArray):K5 ((true,srV s) :: [(false,[.s .b 1 3 (Em [a,b,c])])])=some (BE s,[(true,srV (nS s 3)),sT' ([a,b,c].getD (nV s 3).toNat ⟨#[]⟩)]):=RO s [a,b,c] ⟨by simp,by simp⟩
theorem zDf(s:B5)(a b c d e:ByteArray):K5 ((true,srV s) :: [(false,[.s .b 1 5 (Em [a,b,c,d,e])])])=some (BE s,[(true,srV (nS s 5)),sT' ([a,b,c,d,e].getD (nV s 5).toNat ⟨#[]⟩)]):=RO s [a,b,c,d,e] ⟨by simp,by simp⟩
attribute [go_sem] CA
attribute [local go_sem] Pq Pr
attribute [-go_sem] CA
attribute [local go_sem] zIk
def S7:List ByteArray:=[⟨#[97]⟩,⟨#[97]⟩,⟨#[98]⟩,⟨#[99]⟩,⟨#[100]⟩]
def Ia(s:B5):ByteArray:=S7.getD (nV s 5).toNat ⟨#[]⟩
def Zy:AL:=AY (fun s:B5=>[(true,srV s)]) (fun s=>BE s) (fun s=>[(true,srV (nS s 5)),sT' (Ia s)])
theorem VO(s:B5):Zy [(true,srV s)]=some (BE s,[(true,srV (nS s 5)),sT' (Ia s)]):=Ag (fun l=>GK (nth l 0)) (fun _=>rfl) s
theorem YH:DK Tryz.prog 17 Zy:=by
 refine Ev (A:=fun _=>[]) Al (GOk.ptr PY (AE Tryz.func18 rfl rfl) GOk.nil) Ak Tryz.func17 rfl Tryz.ntmps17 Tryz.results17 3 ?_;rintro s hs;replace hs:BE s:=hs;refine⟨by simp,?_⟩;simp[go_sem,zDf,hs,Ia,S7,Ch]
def Ry(a b:Int):Nat->Nat->Tr:=Ae (Ae (fun _ q=>Tr.v ([Value.int IntKind.u8 0][q]?.getD (Value.bool false))) 0 0 [.v (.int .u8 (IntKind.u8.wrap a))]) 15 0 [.v (.int .u8 (IntKind.u8.wrap (IntKind.i64.wrap (97+b))))]
theorem zEd(a b:Int)(p:Nat):∃x,Ry a b p 0 = .v (.int .u8 x):=by
 unfold Ry Ae;by_cases c:p=15
 ·exact⟨IntKind.u8.wrap (IntKind.i64.wrap (97+b)),by simp[c]⟩
 ·by_cases d:p=0
  ·exact⟨IntKind.u8.wrap a,by simp[d]⟩
  ·exact⟨0,by simp[c,d]⟩
def N2(s:B5):B5:=nS (nS s 256) 3
def Mm(s:B5):ByteArray:=Me 16 (Ry (nV s 256) (nV (nS s 256) 3))
def qm:AL:=AY (fun s:B5=>[(true,srV s)]) (fun s=>BE s) (fun s=>[(true,srV (N2 s)),sT' (Mm s)])
theorem zFB(s:B5):qm [(true,srV s)]=some (BE s,[(true,srV (N2 s)),sT' (Mm s)]):=Ag (fun l=>GK (nth l 0)) (fun _=>rfl) s
theorem zAn:DK Tryz.prog 106 qm:=by
 refine Ev (A:=fun _=>[]) Al (GOk.ptr II (AE Tryz.func49 rfl rfl) GOk.nil) Ak Tryz.func106 rfl Tryz.ntmps106 Tryz.results106 4 ?_;rintro s hs;replace hs:BE s:=hs;have a:=C3 hs 256;refine⟨by simp,?_⟩;simp[go_sem,Dk,hs,a,Ch];exact⟨fun p _=>zEd _ _ p,⟨TrE.refl _,rfl,rfl,rfl⟩,rfl⟩
def Mk(f:Nat->Int):Nat->Int
 | 0=>88172645463325252
 | k+1=>IntKind.u64.wrap (Mc (Mk f k) (IntKind.u64.wrap (f k))*1099511628211)
def JV(n:Nat)(f:Nat->Int):B5:=⟨n,f,0,Mk f (min n 64),min ((n / 20:Nat):Int) 12⟩
def TG:AL:=AY (fun q:Nat×(Nat->Int)=>[(false,[.s .z 1 q.1 (Es q.2)])]) (fun q=>q.1<=2000000) (fun q=>[(true,srV (JV q.1 q.2))])
theorem zB3(n:Nat)(f:Nat->Int):TG [(false,[.s .z 1 n (Es f)])]=some (n<=2000000,[(true,srV (JV n f))]):=Ag (fun l=>(DN (nth l 0 0),fun i=>match Bp (nth l 0 0) i 0 with | .v (.int _ x)=>x | _=>0)) (fun _=>rfl) (n,f)
theorem zCH:NI Tryz.prog 15 TG:=by
 refine zDO Al GOk.nil Ak Tryz.func15 rfl Tryz.ntmps15 Tryz.results15 5 ?_;rintro⟨n,f⟩ hn;replace hn:n<=2000000:=hn;refine⟨by simp,?_⟩;simp[go_sem];refine BF (fun k:Nat=>⟨[(4,true,.i k),(3,true,.m false [.p 7 0]),(0,true,.m false [.s .z 1 n (Es f)])],[(7,.var [.s .z 1 n (Es f),.v i0,.v (.int .u64 (Mk f k)),.v i0])]⟩) (fun k=>n - k) (fun k=>k<=n/\k<=64) 0 (by simp[go_sem,Mk]) (by simp) ?_;rintro k ⟨e,c⟩;simp[go_sem,Ar (show k<=1000000000 by omega)];refine⟨fun a d=>⟨a,by kernel_rfl,k+1,by omega,by omega,rfl,rfl⟩,fun h=>?_⟩;have b:min n 64=k:=by omega
 rw[I0 (x:=(n:Int) / 20) (by omega) (by omega)];refine⟨fun a=>⟨⟨TrE.refl _,Ch⟩,rfl,by rw[<-b];rfl,?_⟩,fun a=>⟨⟨TrE.refl _,Ch⟩,rfl,by rw[<-b];rfl,?_⟩⟩
 ·show(12:Int)=min ((n / 20:Nat):Int) 12;omega
 ·show(n:Int) / 20=min ((n / 20:Nat):Int) 12;omega
theorem Vm{f:Nat->Int}(h:n<=2000000)(a:∀i,i<n->0<=f i/\f i<256):BE (JV n f):=⟨h,Nat.zero_le _,a,by show 0<=min ((n / 20:Nat):Int) 12/\min ((n / 20:Nat):Int) 12<=12;omega⟩
structure Iu (c:Nat) (s:Ab):Prop where
 dn:s.dn<=450+c
 name:s.name.size<=8000
 A8:0<=s.A8/\s.A8<=1000000
structure KV (c:Nat) (s:Aa):Prop where
 dn:s.dn<=450+c
 name:s.name.size<=8000
 set:s.set.size<=8000
 A8:0<=s.A8/\s.A8<=1000000
 id:0<=s.id/\s.id<=1000000
structure BK (c:Nat) (W:A6):Prop where
 pool:Ap W.pool<=19000+c
 sn:W.sn<=9
 pn:W.pn<=21
 next:0<=W.next/\W.next<=900001
 A2:∀i,i<W.sn->Iu c (W.A2 i)
 A3:∀i,i<W.pn->KV c (W.A3 i)
variable{c:Nat}
theorem G8{e:Int}:BK c (BP e).world:=⟨by show Ap (Cs 0)<=_;exact Nat.zero_le _,Nat.zero_le _,Nat.zero_le _,by show(0:Int)<=0/\(0:Int)<=900001;omega,fun i hi=>absurd hi (Nat.not_lt_zero _),fun i hi=>absurd hi (Nat.not_lt_zero _)⟩
structure IL (W:A6):Prop where
 pool:Ap W.pool<=10000
 sn:W.sn<=8
 pn:W.pn<=20
 next:1<=W.next/\W.next<=900000
 A2:∀i,i<W.sn->(W.A2 i).dn<=200/\(W.A2 i).name.size<=20/\0<=(W.A2 i).A8/\(W.A2 i).A8<=900000
 A3:∀i,i<W.pn->(W.A3 i).dn<=200/\(W.A3 i).name.size<=20/\(W.A3 i).set.size<=20/\(0<=(W.A3 i).A8/\(W.A3 i).A8<=900000)/\1<=(W.A3 i).id/\(W.A3 i).id<=900000
variable{W:A6}
theorem Gt(h:B4 W):IL W:=by
 obtain⟨o,l,m,n,d,f⟩:=h.Aq;have a:=h.Aq.ER;have c:=L8 h;have g:∀x,x=0\/CK W x->0<=x/\x<=900000:=fun x b=>by
  rcases b with rfl | b
  · omega
  · have:=b.range a;omega
 refine⟨Kz h.right,m,n,l,fun i hi=>⟨c.1 i hi,(d i hi).1.2.1,g _ (a.A2 i hi)⟩,fun i hi=>⟨c.2 i hi,(f i hi).1.2.2.2.2.1.2.1,?_,g _ (a.A8 i hi),by have:=a.ids i hi;omega⟩⟩;obtain⟨j,k,e⟩:=(f i hi).1.2.2.2.2.2;rw[<-e];exact(d j k).1.2.1
theorem IL.set(h:IL W)(hi:i<W.sn):Iu 0 (W.A2 i):=by
 obtain⟨b,c,a,d⟩:=h.A2 i hi;exact⟨by omega,by omega,a,by omega⟩
theorem IL.snap(h:IL W)(hi:i<W.pn):KV 0 (W.A3 i):=by
 obtain⟨a,b,c,d,e⟩:=h.A3 i hi;exact⟨by omega,by omega,by omega,by omega,by omega⟩
theorem BK.up(h:BK 0 W):BK c W:=⟨Nat.le_trans h.pool (by omega),h.sn,h.pn,h.next,fun i hi=>⟨Nat.le_trans (h.A2 i hi).dn (by omega),(h.A2 i hi).name,(h.A2 i hi).A8⟩,fun i hi=>⟨Nat.le_trans (h.A3 i hi).dn (by omega),(h.A3 i hi).name,(h.A3 i hi).set,(h.A3 i hi).A8,(h.A3 i hi).id⟩⟩
theorem MJ(p:A7)(l:List (Int×Int)):Ap (BJ p l)=Ap p+l.length:=by
 obtain⟨a,b,c⟩:=EQ l p;unfold Ap;rw[a,b,c];omega
theorem QF{f:Nat->AH}{j:Nat}:∀{n:Nat},j<n->Ce (f j)<=DC f n
 | n+1,h=>by
   have e:DC f (n+1)=DC f n+Ce (f n):=rfl;by_cases a:j=n
   · rw[e,a];omega
   · have:=QF (f:=f) (j:=j) (n:=n) (by omega)
     omega
theorem BK.CG(h:BK c W)(e:c<=10):Bt W:=by
 have g:=h.pool;have a:W.pool.n<=Ap W.pool:=(by unfold Ap;omega);have b:W.pool.hn<=Ap W.pool:=Nat.le_add_left ..;have d:DC W.pool.s W.pool.n<=Ap W.pool:=(by unfold Ap;omega);have hs:=h.sn;have hn:=h.pn;refine⟨⟨by omega,by omega,by omega,by omega,fun i hi=>?_,fun i hi=>?_⟩,fun i hi=>?_⟩
 · have:=(h.A2 i hi).dn;omega
 · have:=(h.A3 i hi).dn;omega
 · have:=QF (f:=W.pool.s) hi
   have:(W.pool.s i).kn<=Ce (W.pool.s i):=Nat.le_add_right ..;omega
theorem Ya{f g:Nat->AH}:∀{n:Nat},(∀i,i<n->Ce (f i)<=Ce (g i))->DC f n<=DC g n
 | 0,_=>Nat.le_refl _
 | n+1,h=>Nat.add_le_add (Ya fun i hi=>h i (by omega)) (h n (by omega))
theorem zEJ(p:A7):Ap (IP p)<=Ap p:=by
 by_cases h:AZ p/\AZ (Gn p)
 · rw[UG h.1 h.2]
   have:DC (Gn p).s p.n<=DC p.s p.n:=Ya fun i hi=>by
    show Ce ((Dx p p.hn).s i)<=_;unfold Dx;dsimp only;split
    · exact Nat.zero_le _
    · exact Nat.le_refl _
   show p.n+DC (Gn p).s p.n+0<=p.n+DC p.s p.n+p.hn;omega
 · rw[PU h];exact Nat.le_refl _
theorem zGX(W:A6)(x:ByteArray):EN W x<=W.sn:=by
 by_cases h:∃k,k<W.sn/\¬Cd (W.A2 k).name x/\∀j,j<k->Cd (W.A2 j).name x
 · obtain⟨k,a,b,c⟩:=h
   rw[V6 a b c];omega
 · unfold EN
   rw[dif_neg h];exact Nat.le_refl _
theorem UZ(L:IL W){x:ByteArray}(b:x.size<=8000){o p rs rb:Int}(a:0<=p/\p<=1000000):BK 0 (JZ W (EN W x) (F7 x o p rs rb)):=by
 have hs:=L.sn;refine⟨by have:=L.pool;show Ap W.pool<=_;omega,by show W.sn+1<=9;omega,by have:=L.pn;show W.pn<=_;omega,by have:=L.next;show 0<=W.next/\W.next<=_;omega,fun i hi=>?_,fun i hi=>L.snap hi⟩;replace hi:i<W.sn+1:=hi;show Iu 0 (ins W.A2 (EN W x) (F7 x o p rs rb) i);have c:EN W x<=W.sn:=zGX W x;rcases Nat.lt_trichotomy i (EN W x)with e | e | e
 · rw[Zn e];exact L.set (by omega)
 · rw[e,Zl];exact⟨Nat.zero_le _,b,a⟩
 · rw[Zm e];exact L.set (by omega)
theorem Rd(W:A6)(x:ByteArray):BK 0 (GX W x).world:=by
 unfold GX
 repeat' split
 all_goals first
  | exact G8
  | exact UZ (Gt (by rename_i h _;exact h.1)) (by omega) (by omega)
theorem YA(W:A6)(id:Int)(x:ByteArray):BK 0 (Kh W id x).world:=by
 unfold Kh
 repeat' split
 all_goals first
  | exact G8
  | (rename_i a hR hH _
     have:=hH.range hR.1.Aq.ER;exact UZ (Gt hR.1) (by omega) (by omega))
theorem MP(W:A6)(x a:ByteArray):BK 0 (Ef W x a).world:=by
 unfold Ef
 repeat' split
 all_goals first
  | exact G8
  | skip
 rename_i c hR hH _ h20
 have L:=Gt hR.1;have f:=L.pn;have hn:=L.next;have hs:=L.sn;refine⟨by have:=L.pool;show Ap W.pool<=_;omega,by show W.sn<=9;omega,by show W.pn+1<=21;omega,by show 0<=W.next+1/\W.next+1<=_;omega,fun i hi=>?_,fun i hi=>?_⟩
 · replace hi:i<W.sn:=hi
   show Iu 0 (if i=Ay W x then {W.A2 (Ay W x)with A8:=W.next,dn:=0}else W.A2 i);split
   · rename_i e
     have g:=L.set hi;rw[<-e];exact⟨Nat.zero_le _,g.name,by show 0<=W.next/\W.next<=_;omega⟩
   · exact L.set hi
 · replace hi:i<W.pn+1:=hi
   show KV 0 (if i=W.pn then Ed W (Ay W x) a x else W.A3 i);split
   · have d:=Ib hH
     have b:=Cn.2 hH;have g:=L.set (i:=Ay W x) (by show(BO W.sn fun k=>(W.A2 k).name=x).toNat<W.sn;omega);exact⟨g.dn,by show a.size<=8000;omega,by show x.size<=8000;omega,g.A8,by show 0<=W.next/\W.next<=_;omega⟩
   · exact L.snap (by omega)
theorem Xu(W:A6)(k:Nat)(t:Int):(KT W k t).length<=73:=Nat.le_trans (GB ..) (Dh ..)
theorem zk(W:A6)(x:ByteArray):BK 0 (IR W x).world:=by
 unfold IR Mg
 repeat' split
 all_goals first
  | exact G8
  | skip
 rename_i a hR hH hK
 have L:=Gt hR;have b:=Xu W (Ay W x) (W.A3 (GH W (W.A2 (Ay W x)).A8)).time;refine⟨?_,by have:=L.sn;show W.sn<=9;omega,by have:=L.pn;show W.pn<=21;omega,by have:=L.next;show 0<=W.next/\W.next<=_;omega,fun i hi=>?_,fun i hi=>L.snap hi⟩
 · show Ap (BJ W.pool _)<=_
   rw[MJ];have:=L.pool;omega
 · replace hi:i<W.sn:=hi
   show Iu 0 (if i=Ay W x then {W.A2 (Ay W x)with rs:=_,rb:=_,dn:=0}else W.A2 i);split
   · rename_i e
     have g:=L.set hi;rw[<-e];exact⟨Nat.zero_le _,g.name,g.A8⟩
   · exact L.set hi
theorem zj(W:A6)(x:ByteArray):BK 0 (IY W x).world:=by
 unfold IY
 repeat' split
 all_goals first
  | exact G8
  | skip
 rename_i a hR hH hK
 have L:=Gt hR;have b:=Xu W (Ay W x) (AI W (W.A2 (Ay W x)).A8).time;refine⟨?_,by have:=L.sn;show W.sn - 1<=9;omega,by have:=L.pn;show W.pn<=21;omega,by have:=L.next;show 0<=W.next/\W.next<=_;omega,fun i hi=>?_,fun i hi=>L.snap hi⟩
 · show Ap (BJ W.pool _)<=_
   rw[MJ];have:=L.pool;omega
 · replace hi:i<W.sn - 1:=hi
   show Iu 0 (if i<Ay W x then W.A2 i else W.A2 (i+1));split
   · exact L.set (by omega)
   · exact L.set (by omega)
theorem zEn(W:A6)(x:ByteArray):BK 0 (IH W x).world:=by
 unfold IH MY
 repeat' split
 all_goals first
  | exact G8
  | skip
 rename_i a hR hH _ _
 have L:=Gt hR;refine⟨by have:=L.pool;show Ap W.pool<=_;omega,by have:=L.sn;show W.sn<=9;omega,by have:=L.pn;show W.pn<=21;omega,by have:=L.next;show 0<=W.next/\W.next<=_;omega,fun i hi=>?_,fun i hi=>?_⟩
 · replace hi:i<W.sn:=hi
   have g:=L.set hi;unfold MZ;dsimp only;split
   · rename_i e;rw[<-e];exact⟨g.dn,g.name,g.A8⟩
   · split
     · rename_i e;rw[<-e];exact⟨g.dn,g.name,g.A8⟩
     · exact g
 · replace hi:i<W.pn:=hi
   have g:=L.snap hi;unfold MZ FR;dsimp only;split
   · exact⟨g.dn,g.name,by show x.size<=8000;omega,g.A8,g.id⟩
   · exact g
variable{k:Nat}
theorem Ua(L:IL W){t:D9}(a:Ap t.pool<=Ap W.pool+40)(b:t.old.length<=3):BK 0 (Dc W k t).world:=by
 unfold Dc;split;rotate_left
 · exact G8
 have d:(DZ W k t).length<=t.old.length:=GB ..;have c:(L3 W k t).length<=t.old.length:=M8 ..;refine⟨?_,by have:=L.sn;show W.sn<=9;omega,by have:=L.pn;show W.pn<=21;omega,by have:=L.next;show 0<=W.next/\W.next<=_;omega,fun i hi=>?_,fun i hi=>L.snap hi⟩
 · show Ap (BJ t.pool _)<=_
   rw[MJ];have:=L.pool;omega
 · replace hi:i<W.sn:=hi
   show Iu 0 (if i=k then Fd W k t else W.A2 i);split
   · rename_i e
     subst e;have g:=L.set hi;have g':=(L.A2 i hi).1;refine⟨?_,g.name,g.A8⟩;show(CV W i t).length<=_;unfold CV;rw[List.length_append,OZ];omega
   · exact L.set hi
theorem RI(W:A6)(x:ByteArray)(AM:Int)(d:ByteArray):BK 0 (Eb W x AM d).world:=by
 unfold Eb
 repeat' split
 all_goals first
  | exact G8
  | (rename_i a hR hH
     exact Ua (Gt hR) (Of ..).1 (Of ..).2)
theorem zm(W:A6)(x:ByteArray)(AM:Int):BK 0 (IQ W x AM).world:=by
 unfold IQ
 repeat' split
 all_goals first
  | exact G8
  | (rename_i a hR hH
     exact Ua (Gt hR) (RW ..).1 (RW ..).2)
theorem zEo(L:IL W){x:Int}(d:k<W.pn):BK 0 (sdK W x k).world:=by
 have gk:=L.snap d;have l:=(L.A3 k d).1;have a:∀{f:Nat->Aa},(∀i,i<W.pn->KV 0 (f i))->∀i,i<W.pn - 1->KV 0 (del f k i):=fun {f} c i hi=>by
  unfold del;split
  · exact c i (by omega)
  · exact c (i+1) (by omega)
 have e:∀(n:Nat) (f h:Nat->Int),(sdD W (W.A3 k) n f h).length<=200+n:=fun n f h=>by
  unfold sdD;rw[List.length_append,OZ];have:(sdO W (W.A3 k) n f h).length<=n:=M8 ..;omega
 have hs:=L.sn;have o:=L.pn;have hn:=L.next;have p:=L.pool;unfold sdK;split
 · rename_i h
   have hi:=h.choose_spec.1;generalize h.choose=i at hi ⊢;have g:=L.set hi;have g':=(L.A2 i hi).1;have m:(GD W k i).length<=(W.A2 i).dn:=GB ..;refine⟨by show Ap (BJ W.pool _)<=_;rw[MJ];omega,by show W.sn<=9;omega,by show W.pn - 1<=21;omega,by show 0<=W.next/\W.next<=_;omega,fun j b=>?_,a fun j b=>L.snap b⟩;show Iu 0 (if j=i then Md W (W.A3 k) (W.A2 i)else W.A2 j);split
   · exact⟨Nat.le_trans (e ..) (by omega),g.name,gk.A8⟩
   · exact L.set b
 split
 · rename_i h
   have hi:=h.choose_spec.1;generalize h.choose=i at hi ⊢;have g:=L.snap hi;have g':=(L.A3 i hi).1;have m:(IF W k i).length<=(W.A3 i).dn:=GB ..;refine⟨by show Ap (BJ W.pool _)<=_;rw[MJ];omega,by show W.sn<=9;omega,by show W.pn - 1<=21;omega,by show 0<=W.next/\W.next<=_;omega,fun j b=>L.set b,a fun j b=>?_⟩;show KV 0 (if j=i then N6 W (W.A3 k) (W.A3 i)else W.A3 j);split
   · exact⟨Nat.le_trans (e ..) (by omega),g.name,g.set,gk.A8,g.id⟩
   · exact L.snap b
 · exact⟨by show Ap W.pool<=_;omega,by show W.sn<=9;omega,by show W.pn - 1<=21;omega,by show 0<=W.next/\W.next<=_;omega,fun j b=>L.set b,a fun j b=>L.snap b⟩
theorem zGC(W:A6)(x:Int):BK 0 (sdE W x).world:=by
 unfold sdE
 repeat' split
 all_goals first
  | exact G8
  | skip
 rename_i a hH h1
 refine zEo (Gt a) ?_;have c:=KE hH;have b:=Gp.2 hH;show(BO W.pn fun k=>(W.A3 k).id=x).toNat<W.pn;omega
theorem zl(h:BK c W):BK c {W with pool:=IP W.pool}:=⟨Nat.le_trans (zEJ _) h.pool,h.sn,h.pn,h.next,h.A2,h.A3⟩
abbrev tT:List (Bool×List Tr):=[(false,[.v (.bool true)])]
abbrev byT(n:Nat)(f:Nat->Int):Bool×List Tr:=(false,[.s .z 1 n (Es f)])
def NM(n:Nat)(f:Nat->Int):Prop:=n<=2000000/\∀i,i<n->0<=f i/\f i<256
variable{w:World}
theorem RT{P:Program}{f:Nat}{ι : Type}{A:ι->List (Bool×List Tr)}{C:ι->Prop}{R:ι->List (Bool×List Tr)}
 (h:∀x,C x->∀(g0:Nat->Bs) (ys:List Value),(∀b,∃r,g0 b = .fz r)->AR (FL w g0) (A x) ys->Calls P f ys.toArray w fun e w'=>∃v g,e = .returned v/\Kp w g0 w' g/\JE w' g (R x) v):Fg P f (AY A C R) w:=by
 intro l c rs a i g0 ys k j;unfold AY at a;split at a
 ·rename_i d
  cases a;exact h d.choose i g0 ys k (by rw[d.choose_spec];exact j)
 ·cases a
def SG(w:World)(g:Nat->Bs):Nat->Bs:=fun b=>if b<w.heap.size then g b else .fz none
variable{w':World}{g:Nat->Bs}
theorem Um(e:∀b,∃r,g b = .fz r)(h:Below w.heap.size w w'):Kp w g w' (SG w g):=
 ⟨h.os,h.tape,h.output,h.size,fun b r a c=>⟨h.block b c,by unfold SG;rw[if_pos c];exact a⟩,fun b o f a=>by obtain⟨r,d⟩:=e b;rw[d]at a;cases a⟩
theorem zF1:IK w' (SG w g) w.heap.size:=fun b h _=>if_neg (by omega)
theorem BK.wf(h:BK c W):G4 W:=fun i hi=>by
 have a:0<=(AA W i).A8/\(AA W i).A8<=1000000:=by
  by_cases hs:i<W.pn
  ·rw[CH hs];exact(h.A3 i hs).A8
  ·obtain⟨k,rfl⟩:∃k,i=W.pn+k:=⟨i - W.pn,by omega⟩;rw[C4];exact(h.A2 k (by unfold memN at hi;omega)).A8
 show(decide (IntKind.min .i64<=_) && decide (_<=IntKind.max .i64))=true;simp[IntKind.min,IntKind.max,IntKind.signed,IntKind.bits];omega
theorem BK.bounds(h:BK c W)(e:c<=10):Ap W.pool<=1048576/\W.sn<=1048576/\W.pn<=1048576/\JX W:=by
 have a:=h.pool;have b:=h.sn;have d:=h.pn;exact⟨by omega,by omega,by omega,fun i hi=>by have:=(h.A2 i hi).dn;omega,fun i hi=>by have:=(h.A3 i hi).dn;omega⟩
theorem BK.slot(h:BK c W)(g:c<=10)(hi:i<W.pool.n):(W.pool.s i).kn<=maxLen/\(W.pool.s i).data.size<=maxLen:=by
 have a:=h.pool;have b:=QF (f:=W.pool.s) hi;have d:DC W.pool.s W.pool.n<=Ap W.pool:=by unfold Ap;omega
 have e:Ce (W.pool.s i)=(W.pool.s i).kn+(W.pool.s i).data.size:=rfl;unfold maxLen;omega
theorem BK.at(h:BK c W)(a:c<=10){u0 u1 u4 u5:Value}(d:Sh w g (.s .b 3 W.pool.n (Aw .b W.pool.s)) u0)(e:Sh w g (.s .b 1 W.pool.hn (BH W.pool.h)) u1)(f:Sh w g (.s .b 6 W.sn (setsE .b W.A2)) u4)(j:Sh w g (.s .b 8 W.pn (snapsE .b W.A3)) u5):C7 w 0 w.heap.size u0 u1 u4 u5 W:=by
 have b:=h.bounds a;have l:W.pool.n<=Ap W.pool:=by unfold Ap;omega
 have m:W.pool.hn<=Ap W.pool:=Nat.le_add_left ..;have k:1048576<=maxLen:=by decide
 exact⟨⟨zEU d (by omega) (fun i hi=>h.slot a hi),zGe e (by omega)⟩,zGf f (by omega) (fun i hi=>by have g:=h.A2 i hi;have:=g.dn;have:=g.name;exact⟨by omega,by omega⟩),zEV j (by omega) (fun i hi=>by have g:=h.A3 i hi;have:=g.dn;have:=g.name;have:=g.set;exact⟨by omega,by omega,by omega⟩)⟩
variable{h:Nat->Int}
theorem zAk:(Tr.s .z 1 n (BH h)).kept:=⟨by simp,fun _ _ _ _=>trivial⟩
theorem RJ{f:Nat->Int}:(Tr.s .z 2 n (ptrsT f h)).kept:=⟨by simp,fun p q _ _=>by unfold ptrsT;split<;>trivial⟩
theorem zBR{s:Nat->AH}:(Tr.s .z 3 n (Aw .z s)).kept:=⟨by simp,fun i j _ a=>by
 match j,a with
 | 0,_ | 2,_=>trivial
 | 1,_=>exact RJ⟩
theorem zAl{s:Nat->Ab}:(Tr.s .z 6 n (setsE .z s)).kept:=⟨by simp,fun i j _ a=>by
 match j,a with
 | 0,_ | 1,_ | 2,_ | 3,_ | 4,_=>trivial
 | 5,_=>exact RJ⟩
theorem zBS{s:Nat->Aa}:(Tr.s .z 8 n (snapsE .z s)).kept:=⟨by simp,fun i j _ a=>by
 match j,a with
 | 0,_ | 1,_ | 2,_ | 3,_ | 4,_ | 5,_ | 6,_=>trivial
 | 7,_=>exact RJ⟩
variable{α β:Type}
theorem zHf{R:α->β->Prop}{x0 x1 x2 x3 x4 x5:α}{ys:List β}(h:AR R [x0,x1,x2,x3,x4,x5] ys):∃c d e f a b,ys = [c,d,e,f,a,b]/\R x0 c/\R x1 d/\R x2 e/\R x3 f/\R x4 a/\R x5 b:=by
 cases h with
 | cons a0 h=>cases h with
  | cons a1 h=>cases h with
   | cons a2 h=>cases h with
    | cons a3 h=>
     obtain⟨a,b,rfl,g,i⟩:=G6 h;exact⟨_,_,_,_,a,b,rfl,a0,a1,a2,a3,g,i⟩
theorem QI{cs:List Value}(n:c<=10)(m:BK c W)(h:AR (Sh w g) (woT W).2 cs):∃a v1 b d,cs = [a,v1,.int .i64 W.time,.int .i64 W.next,b,d]/\C7 w 0 w.heap.size a v1 b d W:=by
 obtain⟨o,p,s,t,q,r,rfl,e,f,i,j,k,l⟩:=zHf h;exact⟨o,p,q,r,by rw[i.1,j.1],m.at n e f k l⟩
abbrev wuZ(o:Bm):Bool×List Tr:=(true,[.s .z 3 o.world.pool.n (Aw .z o.world.pool.s),.s .z 1 o.world.pool.hn (BH o.world.pool.h),.v (.int .i64 o.world.time),.v (.int .i64 o.world.next),.s .z 6 o.world.sn (setsE .z o.world.A2),.s .z 8 o.world.pn (snapsE .z o.world.A3),.v (.int .i64 o.id),.v (.int .i64 o.many),.v (.int .i64 o.code)])
abbrev wuL(o:Bm):Bool×List Tr:=(true,[.s .b 3 o.world.pool.n (Aw .b o.world.pool.s),.s .b 1 o.world.pool.hn (BH o.world.pool.h),.v (.int .i64 o.world.time),.v (.int .i64 o.world.next),.s .b 6 o.world.sn (setsE .b o.world.A2),.s .b 8 o.world.pn (snapsE .b o.world.A3),.v (.int .i64 o.id),.v (.int .i64 o.many),.v (.int .i64 o.code)])
def qe(f:Nat->Tr):Bm:=⟨C2 f,AS (f 6),AS (f 7),AS (f 8)⟩
variable{o:Bm}{g0:Nat->Bs}
theorem qK(f:∀b,∃r,g0 b = .fz r){e:Ending}(h:Iv o w e w'):∃v g,e = .returned v/\Kp w g0 w' g/\JE w' g [wuZ o] v:=by
 obtain⟨i,v1,j,k,rfl,d,c⟩:=h;have hs:=d.at;have a:=zF1 (w:=w) (w':=w') (g:=g0);refine⟨_,_,rfl,Um f c,_,⟨_,[],_,rfl,rfl,?_,rfl⟩,rfl⟩;exact⟨_,_,rfl,⟨zFg a hs.pool.1,zBR⟩,_,_,rfl,⟨zHA a hs.pool.2,zAk⟩,_,_,rfl,⟨rfl,rfl⟩,_,_,rfl,⟨rfl,rfl⟩,_,_,rfl,⟨zHB a hs.A2,zAl⟩,_,_,rfl,⟨zFh a hs.A3,zBS⟩,_,_,rfl,⟨rfl,rfl⟩,_,_,rfl,⟨rfl,rfl⟩,_,_,rfl,⟨rfl,rfl⟩,rfl⟩
variable{r:Option Nat}
theorem Sn{a b:Prop}{m:Nat}{Q:Nat->Prop}{ei:Nat->Nat}(o:Bm)(h:FN W a b m Q ei r) :
 (a/\Ez r o=BP 2)\/(¬a/\(¬B4 W\/b)/\Ez r o=BP 1)\/(¬a/\B4 W/\¬b/\∃i,i<m/\¬Q i/\(∀j,j<i->Q j)/\Ez r o=BP (Ca (ei i)))\/(¬a/\B4 W/\¬b/\(∀j,j<m->Q j)/\r=none/\Ez r o=o):=by
 unfold FN at h;rw[Qy]at h;rcases h with⟨h,rfl⟩ | ⟨c,d,rfl⟩ | ⟨c,d,e,i,f,g,k,rfl⟩ | ⟨c,d,e,f,rfl⟩
 ·exact .inl ⟨h,rfl⟩
 ·exact .inr (.inl ⟨c,d,rfl⟩)
 ·exact .inr (.inr (.inl ⟨c,d,e,i,f,g,k,rfl⟩))
 ·exact .inr (.inr (.inr ⟨c,d,e,f,rfl,rfl⟩))
variable{x:ByteArray}
theorem PX(h:Gs W x k):Ay W x=k:=by
 show(BO W.sn fun k=>(W.A2 k).name=x).toNat=k;rw[I2 (P:=fun k=>(W.A2 k).name=x) h.1 h.2.1 h.2.2,Int.toNat_natCast]
theorem SW(h:Gs W x k):BL W x:=⟨k,h.1,h.2.1⟩
theorem YO{R:α->β->Prop}{x0 x1 x2:α}{ys:List β}(h:AR R [x0,x1,x2] ys):∃c a b,ys = [c,a,b]/\R x0 c/\R x1 a/\R x2 b:=by
 cases h with
 | cons a0 h=>
  obtain⟨a,b,rfl,d,e⟩:=G6 h;exact⟨_,a,b,rfl,a0,d,e⟩
theorem zU{R:α->β->Prop}{x0 x1 x2 x3:α}{ys:List β}(h:AR R [x0,x1,x2,x3] ys):∃d a b c,ys = [d,a,b,c]/\R x0 d/\R x1 a/\R x2 b/\R x3 c:=by
 cases h with
 | cons a0 h=>
  obtain⟨a,b,c,rfl,e,f,g⟩:=YO h;exact⟨_,a,b,c,rfl,a0,e,f,g⟩
theorem wf_i64{x:Int}(h:-1000000000000000000<=x)(a:x<=1000000000000000000):(Lit.int .i64 x).wf=true:=by
 show(decide (IntKind.min .i64<=_) && decide (_<=IntKind.max .i64))=true;simp[IntKind.min,IntKind.max,IntKind.signed,IntKind.bits];omega
theorem zEN{y:Value}(j:c<=10)(i:BK c W)(h:FL w g (woT W) y):∃b v1 d e,y=Cc b v1 d e W/\C7 w 0 w.heap.size b v1 d e W:=by
 obtain⟨o,rfl,a⟩:=h;obtain⟨k,l,m,n,rfl,f⟩:=QI j i a;exact⟨k,l,m,n,rfl,f⟩
theorem zFo{p:Prop}{e:Ending}(d:∀b,∃r,g0 b = .fz r)(h:AJ p e)(c:Below w.heap.size w w'):∃v g,e = .returned v/\Kp w g0 w' g/\JE w' g (bR p) v:=by
 obtain⟨b,rfl,a⟩:=h;refine⟨_,_,rfl,Um d c,_,⟨_,[],_,rfl,rfl,⟨_,_,rfl,⟨?_,rfl⟩,rfl⟩,rfl⟩,rfl⟩;by_cases h:p
 ·rw[FQ.2 h,a.2 h]
 ·rw[P8.2 h,Bool.eq_false_iff.2 fun e=>h (a.1 e)]
def yy:AL:=AY (fun W:A6=>[woT W]) (fun W=>BK 1 W) (fun W=>bR (B4 W))
theorem TH(W:A6):yy [woT W]=some (BK 1 W,bR (B4 W)):=Ag (fun l=>C2 (nth l 0)) (fun _=>rfl) W
theorem zIY:An Tryz.prog 25 yy:=fun w=>by
 refine RT ?_;rintro W a g0 ys h g;replace a:BK 1 W:=a;obtain⟨y,rfl,c⟩:=Fi g;obtain⟨i,v1,j,k,rfl,d⟩:=zEN (by omega) a c;refine(ZS i v1 j k 0 w.heap.size W w d a.wf).mono ?_;rintro e w' ⟨b,f⟩;rw[Qy]at b;exact zFo h b f
theorem zDL(h:FN W (∃i,i<2/\8000<((fun i=>match i with | 0=>x | _=>a) i).size) (∃i,i<1/\¬BX ((fun i=>match i with  | _=>a) i)) 3 (fun i=>match i with | 0=>BL W x | 1=>¬∃i,i<W.pn/\(W.A3 i).set=x/\(W.A3 i).name=a | _=>Iw W) (fun i=>match i with | 0=>2 | 1=>3 | _=>4) r)
 (q:r=none->∃k,Gs W x k/\o=⟨Co W k a x,W.next,0,0⟩):Ez r o=Ef W x a:=by
 have f:(∃i,i<2/\8000<((fun i=>match i with | 0=>x | _=>a:Nat->ByteArray) i).size)↔8000<x.size\/8000<a.size:=by
  constructor
  ·rintro⟨i,hi,g⟩
   match i,hi with
   | 0,_=>exact .inl g
   | 1,_=>exact .inr g
  ·rintro(g | g)
   ·exact⟨0,by omega,g⟩
   ·exact⟨1,by omega,g⟩
 have hn:(∃i,i<1/\¬BX ((fun i=>match i with | _=>a:Nat->ByteArray) i))↔¬BX a:=⟨fun ⟨_,_,g⟩=>g,fun g=>⟨0,by omega,g⟩⟩;unfold Ef;rcases Sn o h with⟨b,e⟩ | ⟨b,d,e⟩ | ⟨b,d,j,i,hi,c,m,e⟩ | ⟨b,d,j,c,s,e⟩
 ·rw[e,if_pos (f.1 b)]
 ·rw[e,if_neg fun g=>b (f.2 g),if_neg fun g=>d.elim (fun h=>h g.1) fun h=>hn.1 h g.2]
 ·have l:BX a:=Classical.not_not.1 fun g=>j (hn.2 g)
  rw[e,if_neg fun g=>b (f.2 g),if_pos ⟨d,l⟩]
  match i,hi with
  | 0,_=>rw[if_neg (show ¬BL W x from c)];rfl
  | 1,_=>rw[if_pos (show BL W x from m 0 (by omega)),if_pos (show ∃i,i<W.pn/\(W.A3 i).set=x/\(W.A3 i).name=a from Classical.not_not.1 c)];rfl
  | 2,_=>
   have n:¬(W.pn<20/\W.time<900000/\W.next<900000):=c;rw[if_pos (show BL W x from m 0 (by omega)),if_neg (show ¬∃i,i<W.pn/\(W.A3 i).set=x/\(W.A3 i).name=a from m 1 (by omega)),if_pos (by omega)];rfl
 ·obtain⟨k,p,rfl⟩:=q s;have l:BX a:=Classical.not_not.1 fun g=>j (hn.2 g)
  have n:W.pn<20/\W.time<900000/\W.next<900000:=c 2 (by omega);rw[e,if_neg fun g=>b (f.2 g),if_pos ⟨d,l⟩,if_pos (SW p),if_neg (show ¬∃i,i<W.pn/\(W.A3 i).set=x/\(W.A3 i).name=a from c 1 (by omega)),if_neg (by omega),PX p]
def qE:AL:=AY (fun q:A6×ByteArray×ByteArray=>[woT q.1,sT q.2.1,sT q.2.2]) (fun q=>BK 1 q.1/\q.2.1.size<=8000/\q.2.2.size<=8000) (fun q=>[wuZ (Ef q.1 q.2.1 q.2.2)])
theorem Qg(W:A6)(x a:ByteArray):qE [woT W,sT x,sT a]=some (BK 1 W/\x.size<=8000/\a.size<=8000,[wuZ (Ef W x a)]):=Ag (fun l=>(C2 (nth l 0),CO (nth l 1 0),CO (nth l 2 0))) (fun _=>rfl) (W,x,a)
theorem zFU{p:Nat->Addr}(n:D8 w p):Fg Tryz.prog 5 qE w:=by
 refine RT ?_;rintro⟨W,x,a⟩ ⟨b,g,d⟩ g0 ys u t;replace b:BK 1 W:=b;replace g:x.size<=8000:=g;replace d:a.size<=8000:=d;obtain⟨C,D,E,rfl,⟨B,rfl,f⟩,⟨T,i,q⟩,⟨U,j,s⟩⟩:=YO t;cases i;cases j;have c:=b.bounds (by omega);obtain⟨v,y,z,A,rfl,m⟩:=QI (by omega) b f;rw[q.1,s.1];refine(zD1 p v y z A 0 w.heap.size W x a w n m b.wf c.1 c.2.1 c.2.2.1 c.2.2.2 (Nat.le_trans g (by decide)) (Nat.le_trans d (by decide))).mono ?_;rintro e w' ⟨r,o,k,l,h⟩;rw[zDL k l]at h;exact qK u h
set_option linter.unusedSimpArgs false
set_option maxRecDepth 20000
set_option maxHeartbeats 3200000
attribute [go_sem] CA
attribute [-go_sem] Bd CA
attribute [local go_sem] Pq Pr N0 My Mz NK NA NB Mt Mx Mw Mv Mu Kg
def El(s:B5)(p:A7):B5×Int×Int:=if nV s 8=0\/p.n=0 then(nS (nS (nS s 8) 14) 4,LG (nS s 8),nV (nS (nS s 8) 14) 4)else(nS (nS s 8) p.n,nV (nS s 8) p.n,(p.s (nV (nS s 8) p.n).toNat).birth)
def yD:AL:=AY (fun q:B5×A7=>(true,srV q.1) :: [poT q.2.n q.2.s q.2.hn q.2.h]) (fun q=>BE q.1/\q.2.n<=1000000) (fun q=>[(true,srV (El q.1 q.2).1),pT (El q.1 q.2).2.1 (El q.1 q.2).2.2])
theorem zFH(s:B5)(p:A7):yD ((true,srV s) :: [poT p.n p.s p.hn p.h])=some (BE s/\p.n<=1000000,[(true,srV (El s p).1),pT (El s p).2.1 (El s p).2.2]):=Ag (fun l=>(GK (nth l 0),Cw (nth l 1 0) (nth l 1 1))) (fun _=>rfl) (s,p)
theorem zK:DK Tryz.prog 52 yD:=by
 refine Ev Al (GOk.ptr II (AE Tryz.func49 rfl rfl) (GOk.ptr PE (AE Tryz.func51 rfl rfl) (GOk.ptr Tg (AE Tryz.func107 rfl rfl) GOk.nil))) Ak Tryz.func52 rfl Tryz.ntmps52 Tryz.results52 6 ?_;rintro⟨s,p⟩ hs;obtain⟨hs,d⟩:BE s/\p.n<=1000000:=hs;have a:=C3 hs 8;have c:=C3 a 14;refine⟨by simp,?_⟩;by_cases b:nV s 8=0
 ·simp[go_sem,Dk,Ec,Ln,hs,a,c,b,El,Ch]
 by_cases hn:p.n=0
 ·simp[go_sem,Dk,Ec,Ln,hs,a,c,b,hn,El,Ch]
 have hv:=JH (nS s 8) (m:=p.n) (by omega);simp[go_sem,Dk,Ec,Ln,hs,a,c,b,hn,El,Ch];exact⟨by omega,hv.1,by omega⟩
def stepAt(s:B5)(W:A6)(x:ByteArray)(a:Int):Nat->B5×Bm
 | 0=>(s,GX W x)
 | 1=>(FT s,IQ W x (IG s))
 | 2 | 3 | 4=>(nS s 3,Ef W x ([⟨#[115,49]⟩,⟨#[115,50]⟩,⟨#[115,51]⟩].getD (nV s 3).toNat ⟨#[]⟩))
 | 5=>(s,sdE W a)
 | 6 | 7=>(nS s 3,Kh W a ([⟨#[98]⟩,⟨#[99]⟩,⟨#[100]⟩].getD (nV s 3).toNat ⟨#[]⟩))
 | 8=>(s,IY W x)
 | 9=>(s,IR W x)
 | 10=>(s,IH W x)
 | 11=>(s,⟨{W with pool:=IP W.pool},0,0,0⟩)
 | _=>(N2 (FT s),Eb W x (IG s) (Mm (FT s)))
def Dn(s:B5)(W:A6):B5×Bm:=stepAt (nS (nS (nS s (max 1 W.next)) 5) 16) W (Ia (nS s (max 1 W.next))) (1+nV s (max 1 W.next)) (nV (nS (nS s (max 1 W.next)) 5) 16).toNat
def yL:AL:=AY (fun q:B5×A6=>(true,srV q.1) :: [woT q.2]) (fun q=>BE q.1/\Bt q.2/\q.2.next<=1000000000) (fun q=>[(true,srV (Dn q.1 q.2).1),wuO (Dn q.1 q.2).2])
theorem Uv(s:B5)(W:A6):yL ((true,srV s) :: [woT W])=some (BE s/\Bt W/\W.next<=1000000000,[(true,srV (Dn s W).1),wuO (Dn s W).2]):=Ag (fun l=>(GK (nth l 0),C2 (nth l 1))) (fun _=>rfl) (s,W)
theorem zAw:DK Tryz.prog 50 yL:=by
 refine Ev Al (GOk.cons ID (AE Tryz.func30 rfl rfl) (GOk.cons zBp (AE Tryz.func104 rfl rfl) (GOk.ptr II (AE Tryz.func49 rfl rfl) (GOk.cons X8 (AE Tryz.func47 rfl rfl) (GOk.cons zJ (AE Tryz.func96 rfl rfl) (GOk.ptr YH (AE Tryz.func17 rfl rfl) (GOk.cons zB4 (AE Tryz.func97 rfl rfl) (GOk.ptr zAP (AE Tryz.func98 rfl rfl) (GOk.cons YV (AE Tryz.func7 rfl rfl) (GOk.ptr PY (AE Tryz.func18 rfl rfl) (GOk.cons zD6 (AE Tryz.func99 rfl rfl) (GOk.cons zBo (AE Tryz.func100 rfl rfl) (GOk.cons zCk (AE Tryz.func101 rfl rfl) (GOk.cons zBr (AE Tryz.func102 rfl rfl) (GOk.cons zBI (AE Tryz.func103 rfl rfl) (GOk.cons zBs (AE Tryz.func105 rfl rfl) (GOk.ptr zAn (AE Tryz.func106 rfl rfl) GOk.nil))))))))))))))))) Ak Tryz.func50 rfl Tryz.ntmps50 Tryz.results50 70 ?_;rintro⟨s,W⟩ hs;obtain⟨hs,c,I⟩:BE s/\Bt W/\W.next<=1000000000:=hs;have u:max 1 W.next<=1000000000000000000:=by omega
 have hi:=JH s u;have z:IntKind.i64.wrap (1+nV s (max 1 W.next))=1+nV s (max 1 W.next):=I0 (by omega) (by omega);obtain⟨t,y⟩:∃t,Dn s W=t:=⟨_,rfl⟩;obtain⟨a,g⟩:∃a,1+nV s (max 1 W.next)=a:=⟨_,rfl⟩;rw[g]at z;obtain⟨s1,d⟩:∃s1,nS s (max 1 W.next)=s1:=⟨_,rfl⟩;obtain⟨x,o⟩:∃x,Ia s1=x:=⟨_,rfl⟩;obtain⟨s2,e⟩:∃s2,nS s1 5=s2:=⟨_,rfl⟩;obtain⟨s3,f⟩:∃s3,nS s2 16=s3:=⟨_,rfl⟩;obtain⟨v,hv⟩:∃v:Nat,nV s2 16=v:=⟨_,(Int.toNat_of_nonneg (JH s2 (m:=16) (by omega)).1).symm⟩;have p:BE s1:=d▸C3 hs _;have q:BE s2:=e▸C3 p 5;have r:BE s3:=f▸C3 q 16;have hn:=c.n;have A:=c.hn;have B:(∀i,i<W.pool.n->(W.pool.s i).kn<=1000000)↔True:=⟨fun _=>trivial,fun _=>c.kn⟩;have b:t=stepAt s3 W x a v:=by
  rw[<-y];unfold Dn;rw[d,e,f,o,g,hv];rfl
 have C:v=0->t=(s3,GX W x):=fun h=>by rw[b,h];rfl
 have q1:v=1->t=(FT s3,IQ W x (IG s3)):=fun h=>by rw[b,h];rfl
 have D:v=2\/v=3\/v=4->t=(nS s3 3,Ef W x ([⟨#[115,49]⟩,⟨#[115,50]⟩,⟨#[115,51]⟩].getD (nV s3 3).toNat ⟨#[]⟩)):=fun h=>by rcases h with h | h | h<;>(rw[b,h];rfl)
 have E:v=5->t=(s3,sdE W a):=fun h=>by rw[b,h];rfl
 have F:v=6\/v=7->t=(nS s3 3,Kh W a ([⟨#[98]⟩,⟨#[99]⟩,⟨#[100]⟩].getD (nV s3 3).toNat ⟨#[]⟩)):=fun h=>by rcases h with h | h<;>(rw[b,h];rfl)
 have G:v=8->t=(s3,IY W x):=fun h=>by rw[b,h];rfl
 have H:v=9->t=(s3,IR W x):=fun h=>by rw[b,h];rfl
 have j:v=10->t=(s3,IH W x):=fun h=>by rw[b,h];rfl
 have k:v=11->t=(s3,⟨{W with pool:=IP W.pool},0,0,0⟩):=fun h=>by rw[b,h];rfl
 have l:12<=v->t=(N2 (FT s3),Eb W x (IG s3) (Mm (FT s3))):=fun h=>by
  obtain⟨w,rfl⟩:∃w,v=w+12:=⟨v - 12,by omega⟩;rw[b];rfl
 clear b;refine⟨by simp,?_⟩;show ev _ _ _ _ _ _ (LH _ _ [(true,srV (Dn s W).1),wuO (Dn s W).2]);rw[y];simp[go_sem,zGy,Dk,VO,zGz,zFB,zDd,YL,zEt,zDi,Oh,zDb,zIC,zFC,zFJ,zH0,Dg,zEs,hs,c,p,q,r,d,e,f,o,g,u,z,hv,hn,A,B,Px r]
 repeat' first | refine⟨fun _=>?_,fun _=>?_⟩ | fail
 all_goals first
  | (exfalso;omega)
  | rw[C (by omega)]
  | rw[q1 (by omega)]
  | rw[D (by omega)]
  | rw[E (by omega)]
  | rw[F (by omega)]
  | rw[G (by omega)]
  | rw[H (by omega)]
  | rw[j (by omega)]
  | rw[k (by omega)]
  | rw[l (by omega)]
 all_goals first
  | exact⟨⟨⟨TrE.refl _,Ch⟩,rfl,rfl,rfl⟩,⟨TrE.refl _,Bo⟩,⟨TrE.refl _,Bz⟩,rfl,rfl,⟨TrE.refl _,Cj⟩,⟨TrE.refl _,Ci⟩,rfl,rfl,rfl⟩
  | exact⟨by as_aux_lemma=>kernel_rfl,⟨⟨TrE.refl _,Ch⟩,rfl,rfl,rfl⟩,⟨TrE.refl _,Bo⟩,⟨TrE.refl _,Bz⟩,rfl,rfl,⟨TrE.refl _,Cj⟩,⟨TrE.refl _,Ci⟩,rfl,rfl,rfl⟩
set_option maxRecDepth 20000
set_option maxHeartbeats 3200000
theorem qb{a b:Int}:CA .mul .i64 a .i64 b=some (True,.int .i64 (IntKind.i64.wrap (a*b))):=rfl
theorem qd{a b:Int}:CA .sub .i64 a .i64 b=some (True,.int .i64 (IntKind.i64.wrap (a - b))):=rfl
theorem XT(h:BK c W)(s:B5):BK c (Dn s W).2.world:=by
 unfold Dn;generalize nV (nS (nS s (max 1 W.next)) 5) 16=v;generalize nS (nS (nS s (max 1 W.next)) 5) 16=s3;unfold stepAt;split
 ·exact(Rd ..).up
 ·exact(zm ..).up
 ·exact(MP ..).up
 ·exact(MP ..).up
 ·exact(MP ..).up
 ·exact(zGC ..).up
 ·exact(YA ..).up
 ·exact(YA ..).up
 ·exact(zj ..).up
 ·exact(zk ..).up
 ·exact(zEn ..).up
 ·exact zl h
 ·exact(RI ..).up
variable{s:B5}
theorem Nt(h:BE s)(W:A6):BE (Dn s W).1:=by
 have a:=C3 (C3 (C3 h (max 1 W.next)) 5) 16;unfold Dn;generalize nV (nS (nS s (max 1 W.next)) 5) 16=v;generalize nS (nS (nS s (max 1 W.next)) 5) 16=s3 at a;unfold stepAt;split<;>dsimp only
 all_goals first
  | exact a
  | exact C3 a _
  | exact Px a
  | exact C3 (C3 (Px a) _) _
theorem zFf(x:Int):Bt (nwW x):=by
 unfold nwW;split
 ·refine⟨⟨by show x.toNat<=_;omega,Nat.zero_le _,Nat.zero_le _,Nat.zero_le _,fun i hi=>absurd hi (Nat.not_lt_zero _),fun i hi=>absurd hi (Nat.not_lt_zero _)⟩,fun i hi=>Nat.zero_le _⟩
 ·exact⟨⟨Nat.zero_le _,Nat.zero_le _,Nat.zero_le _,Nat.zero_le _,fun i hi=>absurd hi (Nat.not_lt_zero _),fun i hi=>absurd hi (Nat.not_lt_zero _)⟩,fun i hi=>Nat.zero_le _⟩
def runW:Nat->B5->A6->B5×A6
 | 0,s,W=>(s,W)
 | r+1,s,W=>if (Dn s W).2.code=0 then runW r (Dn s W).1 (Dn s W).2.world else runW r (Dn s W).1 W
theorem PW:∀(r:Nat) {s:B5} {W:A6},BE s->BK 0 W->BE (runW r s W).1/\BK 0 (runW r s W).2
 | 0,s,W,hs,hW=>⟨hs,hW⟩
 | r+1,s,W,hs,hW=>by
  unfold runW;split
  ·exact PW r (Nt hs W) (XT hW s)
  ·exact PW r (Nt hs W) hW
def spoilAt(s:B5)(W:A6):Nat->B5×A6
 | 0=>(nS s 3,{W with time:=[0,900000,900001].getD (nV s 3).toNat 0})
 | 1=>(s,{W with next:=1})
 | 2=>if 0<W.sn then(s,{W with A2:=fun i=>if i=0 then {W.A2 0 with dn:=(Bu (W.A2 0).dn (W.A2 0).ds (W.A2 0).db ++ [(1,1)]).length,ds:=AN (Bu (W.A2 0).dn (W.A2 0).ds (W.A2 0).db ++ [(1,1)]),db:=AP (Bu (W.A2 0).dn (W.A2 0).ds (W.A2 0).db ++ [(1,1)])}else W.A2 i})else(s,W)
 | 3=>if 0<W.pn then(nS s 3,{W with A3:=fun i=>if i=0 then {W.A3 0 with A8:=1+nV s 3}else W.A3 i})else(s,W)
 | 4=>if 0<W.sn then((El s W.pool).1,{W with A2:=fun i=>if i=0 then {W.A2 0 with rs:=(El s W.pool).2.1,rb:=(El s W.pool).2.2}else W.A2 i})else(s,W)
 | _=>(nS s 5,{W with pool:=CQ W.pool (nV s 5)})
def Iq(s:B5)(W:A6):B5×A6:=if nV s 20=0 then spoilAt (nS (nS s 20) 6) W (nV (nS s 20) 6).toNat else(nS s 20,W)
def Eu(s:B5):B5×A6:=
 let q:=runW (nV (nS s 60) (12+2*(nS s 60).size)).toNat (nS (nS s 60) (12+2*(nS s 60).size)) (GX (nwW (20+nV s 60)) ⟨#[97]⟩).world
 Iq q.1 q.2
attribute [go_sem] CA
attribute [go_sem] Bd
attribute [-go_sem] Bd CA
attribute [local go_sem] qb qd
def Zk:AL:=AY (fun s:B5=>[(true,srV s)]) (fun s=>BE s) (fun s=>[(true,srV (Eu s).1),woO (Eu s).2])
theorem zDh(s:B5):Zk [(true,srV s)]=some (BE s,[(true,srV (Eu s).1),woO (Eu s).2]):=Ag (fun l=>GK (nth l 0)) (fun _=>rfl) s
theorem zBX:DK Tryz.prog 16 Zk:=by
 refine Ev (A:=fun _=>[]) Al (GOk.cons zBu (AE Tryz.func48 rfl rfl) (GOk.ptr zAw (AE Tryz.func50 rfl rfl) (GOk.ptr PE (AE Tryz.func51 rfl rfl) (GOk.ptr II (AE Tryz.func49 rfl rfl) (GOk.cons X8 (AE Tryz.func47 rfl rfl) (GOk.ptr zK (AE Tryz.func52 rfl rfl) GOk.nil)))))) Ak Tryz.func16 rfl Tryz.ntmps16 Tryz.results16 88 ?_;rintro s hs;replace hs:BE s:=hs;obtain⟨t,V⟩:∃t,Eu s=t:=⟨_,rfl⟩;obtain⟨s1,J⟩:∃s1,nS s 60=s1:=⟨_,rfl⟩;have N:BE s1:=J▸C3 hs _;have hv:=GO s (m:=60) (by omega) (by omega);have hz:=N.size;have R:IntKind.i64.wrap (20+nV s 60)=20+nV s 60:=I0 (by omega) (by omega);have S:IntKind.i64.wrap (2*s1.size)=2*s1.size:=I0 (by omega) (by omega);have T:IntKind.i64.wrap (12+2*s1.size)=12+2*s1.size:=I0 (by omega) (by omega);have Q:12+2*s1.size<=1000000000000000000:=by omega
 obtain⟨s2,L⟩:∃s2,nS s1 (12+2*s1.size)=s2:=⟨_,rfl⟩;have Y:BE s2:=L▸C3 N _;obtain⟨K,hK⟩:∃K:Nat,nV s1 (12+2*s1.size)=K:=⟨_,(Int.toNat_of_nonneg (JH s1 Q).1).symm⟩;have P:K<40:=by have:=(GO s1 (m:=12+2*s1.size) (by omega) Q).2;omega
 have Z:Bt (nwW (20+nV s 60)):=zFf _;obtain⟨o,M⟩:∃o,GX (nwW (20+nV s 60)) ⟨#[97]⟩=o:=⟨_,rfl⟩;have hg:BK 0 o.world:=M▸Rd _ _;have c:t=Iq (runW K s2 o.world).1 (runW K s2 o.world).2:=by
  rw[<-V];show Iq (runW (nV (nS s 60) (12+2*(nS s 60).size)).toNat (nS (nS s 60) (12+2*(nS s 60).size)) (GX (nwW (20+nV s 60)) ⟨#[97]⟩).world).1 (runW (nV (nS s 60) (12+2*(nS s 60).size)).toNat (nS (nS s 60) (12+2*(nS s 60).size)) (GX (nwW (20+nV s 60)) ⟨#[97]⟩).world).2=_;rw[J,L,hK,M];rfl
 refine⟨by simp,?_⟩;show ev _ _ _ _ _ _ (LH _ _ [(true,srV (Eu s).1),woO (Eu s).2]);rw[V];simp[go_sem,Dk,zEu,YL,hs,N,J,L,R,S,T,Q,hK,Z,M];refine BF (fun q:Nat×B5×A6=>⟨[(4,true,.i q.1),(3,true,.m false [.p 3 0]),(2,true,.m false [.p 2 0]),(0,true,.m false [.p 0 0])],[(0,.var [.s .z 1 q.2.1.bn (Es q.2.1.bf),.v (.int .i64 q.2.1.pos),.v (.int .u64 q.2.1.mix),.v (.int .i64 q.2.1.size)]),(3,.var [.h 61,.h 62,.v (.int .i64 q.2.2.time),.v (.int .i64 q.2.2.next),.h 63,.h 64]),(64,.row 8 q.2.2.pn (snapsE .z q.2.2.A3)),(63,.row 6 q.2.2.sn (setsE .o q.2.2.A2)),(62,.row 1 q.2.2.pool.hn (BH q.2.2.pool.h)),(61,.row 3 q.2.2.pool.n (Aw .z q.2.2.pool.s)),(2,.var [.v n0,.v n0,.v i0,.v i0,.v n0,.v n0])]⟩) (fun q=>q.1) (fun q=>q.1<40/\BE q.2.1/\BK 0 q.2.2/\t=Iq (runW q.1 q.2.1 q.2.2).1 (runW q.1 q.2.1 q.2.2).2) (K,s2,o.world) (by simp[go_sem]) ⟨P,Y,hg,c⟩ ?_;rintro⟨r,s,W⟩ ⟨G,hs,D,c⟩;replace G:r<40:=G;replace hs:BE s:=hs;replace D:BK 0 W:=D;replace c:t=Iq (runW r s W).1 (runW r s W).2:=c;have H:=D.CG (by omega);have hx:=D.next;cases r with
 | succ r=>
  have U:IntKind.i64.wrap (r:Int)=r:=I0 (by omega) (by omega);have C:=c;unfold runW at C;by_cases I:(Dn s W).2.code=0
  ·rw[if_pos I]at C;simp[go_sem,Uv,hs,H,show W.next<=1000000000 by omega,I,U];exact⟨r,(Dn s W).1,(Dn s W).2.world,⟨by omega,Nt hs W,XT D s,C⟩,by omega,rfl,⟨TrE.refl _,rfl,rfl,rfl⟩,⟨rfl,rfl⟩,TrE.refl _,TrE.refl _,TrE.refl _,TrE.refl _⟩
  ·rw[if_neg I]at C;simp[go_sem,Uv,hs,H,show W.next<=1000000000 by omega,I,U];exact⟨r,(Dn s W).1,W,⟨by omega,Nt hs W,D,C⟩,by omega,rfl,⟨TrE.refl _,rfl,rfl,rfl⟩,⟨rfl,rfl⟩,TrE.refl _,TrE.refl _,TrE.refl _,TrE.refl _⟩
 | zero=>
  replace c:t=Iq s W:=c;unfold Iq at c;by_cases d:nV s 20=0;rotate_left
  ·rw[if_neg d]at c;simp[go_sem,Ec,hs,d,c,Ch,Bo,Bz,Cj,Ci]
  rw[if_pos d]at c;obtain⟨a,w⟩:∃a,nS s 20=a:=⟨_,rfl⟩;obtain⟨b,x⟩:∃b,nS a 6=b:=⟨_,rfl⟩;obtain⟨v,k⟩:∃v:Nat,nV a 6=v:=⟨_,(Int.toNat_of_nonneg (JH a (m:=6) (by omega)).1).symm⟩;have y:BE a:=w▸C3 hs _;have B:BE b:=x▸C3 y _;rw[w,x,k]at c;have hn:=H.n;have dA:=GO b (m:=3) (by omega) (by omega);have hw:IntKind.i64.wrap (1+nV b 3)=1+nV b 3:=I0 (by omega) (by omega);have X:v<6:=(by have:=(GO a (m:=6) (by omega) (by omega)).2;omega);have hd:=fun h=>(D.A2 0 h).dn
  rcases(show v=0\/v=1\/v=2\/v=3\/v=4\/v=5 by omega)with e | e | e | e | e | e<;>subst e
  ·have q:t=(nS b 3,{W with time:=[0,900000,900001].getD (nV b 3).toNat 0}):=c;rcases(show nV b 3=0\/nV b 3=1\/nV b 3=2 by omega)with O | O | O<;>simp[go_sem,Ec,Dk,hs,y,B,d,w,x,k,O,q,Ch,Bo,Bz,Cj,Ci]
  ·have q:t=(b,{W with next:=1}):=c;simp[go_sem,Ec,Dk,hs,y,B,d,w,x,k,q,Ch,Bo,Bz,Cj,Ci]
  ·replace c:t=if 0<W.sn then _ else _:=c
   by_cases u:0<W.sn
   ·rw[if_pos u]at c;simp[go_sem,Ec,Dk,hs,y,B,d,w,x,k,u,c,Ch,Bo,Bz,Cj,Ci];have bA:=hd u;refine⟨by omega,by kernel_rfl,⟨.inl rfl,rfl,rfl,fun i j hi E=>?_⟩⟩;by_cases e:i=0
    ·subst e
     match j,E with
     | 0,_ | 1,_ | 2,_ | 3,_ | 4,_=>exact TrE.of_eq (by simp[Ae,setsE])
     | 5,_=>
      have:=OA (n:=(W.A2 0).dn) (m:=(W.A2 0).dn+1) (f:=(W.A2 0).ds) (g:=(W.A2 0).db) (l:=[(1,1)]) (F:=Ai (ptrsT (W.A2 0).ds (W.A2 0).db) (W.A2 0).dn fun p q=>(([.v (.int .i64 1),.v (.int .i64 1)]:List Tr)[p*2+q]?.getD (.v (.bool false))).nt) rfl (fun a b y B=>by
       unfold Ai;split
       ·rfl
       ·have:a - (W.A2 0).dn=0:=(by omega);rw[this]
        match b,B with
        | 0,_ | 1,_=>rfl)
      simpa[Ae,setsE]using this
    ·exact TrE.of_eq (by unfold setsE;simp[Ae,e])
   ·rw[if_neg u]at c;simp[go_sem,Ec,Dk,hs,y,B,d,w,x,k,u,c,Ch,Bo,Bz,Cj,Ci]
  ·replace c:t=if 0<W.pn then _ else _:=c
   by_cases u:0<W.pn
   ·rw[if_pos u]at c;simp[go_sem,Ec,Dk,hs,y,B,d,w,x,k,u,c,hw,Ch,Bo,Bz,Cj,Ci];refine⟨by kernel_rfl,⟨.inl rfl,rfl,rfl,fun i j hi E=>TrE.of_eq ?_⟩⟩;by_cases e:i=0
    ·subst e
     match j,E with
     | 0,_ | 1,_ | 2,_ | 3,_ | 4,_ | 5,_ | 6,_ | 7,_=>simp[Ae,snapsE]
    ·unfold snapsE;simp[Ae,e]
   ·rw[if_neg u]at c;simp[go_sem,Ec,Dk,hs,y,B,d,w,x,k,u,c,Ch,Bo,Bz,Cj,Ci]
  ·replace c:t=if 0<W.sn then _ else _:=c
   by_cases u:0<W.sn
   ·rw[if_pos u]at c;simp[go_sem,Ec,Dk,zFH,hs,y,B,d,w,x,k,u,c,hn,Ch,Bo,Bz,Cj,Ci];refine⟨by kernel_rfl,⟨.inl rfl,rfl,rfl,fun i j hi E=>TrE.of_eq ?_⟩⟩;by_cases e:i=0
    ·subst e
     match j,E with
     | 0,_ | 1,_ | 2,_ | 3,_ | 4,_ | 5,_=>simp[Ae,setsE]
    ·unfold setsE;simp[Ae,e]
   ·rw[if_neg u]at c;simp[go_sem,Ec,Dk,hs,y,B,d,w,x,k,u,c,Ch,Bo,Bz,Cj,Ci]
  ·have q:t=(nS b 5,{W with pool:=CQ W.pool (nV b 5)}):=c;simp[go_sem,Ec,Dk,hs,y,B,d,w,x,k,q,Ch,Bo,Bz,Cj,Ci];have:=H.hn;exact⟨by omega,by kernel_rfl,TrE.refl _,R0⟩
set_option maxRecDepth 20000
set_option maxHeartbeats 3200000
theorem zHE(h:BE s)(p:A7):BE (El s p).1:=by
 unfold El;split
 ·exact C3 (C3 (C3 h 8) 14) 4
 ·exact C3 (C3 h 8) p.n
theorem zA6(hs:BE s)(h:BK 0 W)(v:Nat):BE (spoilAt s W v).1/\BK 1 (spoilAt s W v).2:=by
 have g:BK 1 W:=h.up;unfold spoilAt;split
 ·exact⟨C3 hs 3,⟨g.pool,g.sn,g.pn,g.next,g.A2,g.A3⟩⟩
 ·exact⟨hs,⟨g.pool,g.sn,g.pn,by show(0:Int)<=1/\(1:Int)<=900001;omega,g.A2,g.A3⟩⟩
 ·split
  ·rename_i b
   have a:=h.A2 0 b;refine⟨hs,⟨g.pool,g.sn,g.pn,g.next,fun i hi=>?_,g.A3⟩⟩;dsimp only;split
   ·refine⟨?_,a.name,a.A8⟩;have:=a.dn;simp only[List.length_append,OZ,List.length_cons,List.length_nil];omega
   ·exact g.A2 i hi
  ·exact⟨hs,g⟩
 ·split
  ·rename_i b
   have a:=g.A3 0 b;have hv:=GO s (m:=3) (by omega) (by omega);refine⟨C3 hs 3,⟨g.pool,g.sn,g.pn,g.next,g.A2,fun i hi=>?_⟩⟩;dsimp only;split
   ·exact⟨a.dn,a.name,a.set,by dsimp only;omega,a.id⟩
   ·exact g.A3 i hi
  ·exact⟨hs,g⟩
 ·split
  ·rename_i b
   have a:=g.A2 0 b;refine⟨zHE hs _,⟨g.pool,g.sn,g.pn,g.next,fun i hi=>?_,g.A3⟩⟩;dsimp only;split
   ·exact⟨a.dn,a.name,a.A8⟩
   ·exact g.A2 i hi
  ·exact⟨hs,g⟩
 ·refine⟨C3 hs 5,⟨?_,g.sn,g.pn,g.next,g.A2,g.A3⟩⟩;have:=h.pool;show W.pool.n+DC W.pool.s W.pool.n+(W.pool.hn+1)<=19000+1;unfold Ap at this;omega
theorem UO(hs:BE s):BE (Eu s).1/\BK 1 (Eu s).2:=by
 have h:=PW (nV (nS s 60) (12+2*(nS s 60).size)).toNat (C3 (C3 hs 60) (12+2*(nS s 60).size)) (Rd (nwW (20+nV s 60)) ⟨#[97]⟩);unfold Eu Iq;dsimp only;split
 ·exact zA6 (C3 (C3 h.1 20) 6) h.2 _
 ·exact⟨C3 h.1 20,h.2.up⟩
theorem zBZ(s:B5):(Ia s).size<=8000:=by
 have h:∀i,(S7.getD i ⟨#[]⟩).size<=8000:=fun i=>by
  match i with
  | 0 | 1 | 2 | 3 | 4=>decide
  | i+5=>exact Nat.zero_le _
 exact h _
set_option linter.unusedSimpArgs false
set_option maxRecDepth 20000
set_option maxHeartbeats 3200000
attribute [go_sem] CA
attribute [go_sem] Bd
attribute [-go_sem] Bd
attribute [-go_sem] CA
theorem zGw{c:ByteArray}:(Tr.s fl 1 4 fun p q=>([.v (.string a),.v (.string b),.v (.string c),.v (.string d)]:List Tr)[p+q]?.getD (.v (.bool false))).CY = .s .b 1 4 (Em [a,b,c,d]):=R3 [a,b,c,d]
theorem zDe(s:B5)(a b c d:ByteArray):K5 ((true,srV s) :: [(false,[.s .b 1 4 (Em [a,b,c,d])])])=some (BE s,[(true,srV (nS s 4)),sT' ([a,b,c,d].getD (nV s 4).toNat ⟨#[]⟩)]):=RO s [a,b,c,d] ⟨by simp,by simp⟩
set_option maxRecDepth 20000
set_option maxHeartbeats 3200000
attribute [go_sem] CA
attribute [go_sem] Bd
attribute [-go_sem] Bd
attribute [-go_sem] CA
attribute [local go_sem] Pq zGw Pr N0 My Mz NK NA NB Mt qb qd Mx Mw Mv Mu Kg
def snL:List ByteArray:=[⟨#[115,49]⟩,⟨#[115,50]⟩,⟨#[115,52]⟩,⟨#[83]⟩]
def snV(s:B5):ByteArray:=snL.getD (nV s 4).toNat ⟨#[]⟩
theorem zDJ(s:B5):(snV s).size<=8000:=by
 have h:∀i,(snL.getD i ⟨#[]⟩).size<=8000:=fun i=>by
  match i with
  | 0 | 1 | 2 | 3=>decide
  | i+4=>exact Nat.zero_le _
 exact h _
def Fa(n:Nat)(f:Nat->Int):A6×ByteArray×ByteArray:=((Eu (JV n f)).2,Ia (Eu (JV n f)).1,snV (nS (Eu (JV n f)).1 5))
def T2:AL:=AY (fun q:Nat×(Nat->Int)=>[byT q.1 q.2]) (fun q=>NM q.1 q.2) (fun q=>[woO (Fa q.1 q.2).1,sT' (Fa q.1 q.2).2.1,sT' (Fa q.1 q.2).2.2])
theorem RN(n:Nat)(f:Nat->Int):T2 [byT n f]=some (NM n f,[woO (Fa n f).1,sT' (Fa n f).2.1,sT' (Fa n f).2.2]):=Ag (fun l=>(DN (nth l 0 0),fun i=>match Bp (nth l 0 0) i 0 with | .v (.int _ x)=>x | _=>0)) (fun _=>rfl) (n,f)
theorem zD5:An Tryz.prog 4 T2:=by
 refine B6 Al (GOk.new zCH (AE Tryz.func15 rfl rfl) (GOk.ptr zBX (AE Tryz.func16 rfl rfl) (GOk.ptr YH (AE Tryz.func17 rfl rfl) (GOk.ptr PY (AE Tryz.func18 rfl rfl) GOk.nil)))) Ak Tryz.func4 rfl Tryz.ntmps4 Tryz.results4 8 ?_;rintro⟨n,f⟩ a;replace a:NM n f:=a;have b:=Vm a.1 a.2;have hn:=a.1;obtain⟨q,eq⟩:∃q,Eu (JV n f)=q:=⟨_,rfl⟩;have c:=eq▸UO b;have e:=C3 c.1 5;have d:Fa n f=(q.2,Ia q.1,[⟨#[115,49]⟩,⟨#[115,50]⟩,⟨#[115,52]⟩,⟨#[83]⟩].getD (nV (nS q.1 5) 4).toNat ⟨#[]⟩):=by unfold Fa;rw[eq];rfl
 refine⟨by simp,?_⟩;simp[go_sem,zB3,zDh,VO,zDe,hn,b,c,e,eq,d,Ch,Bo,Bz,Cj,Ci];show _=true;kernel_rfl
set_option maxRecDepth 20000
set_option maxHeartbeats 3200000
attribute [go_sem] CA
attribute [go_sem] Bd
attribute [-go_sem] Bd
abbrev seO(s:Ab):Bool×List Tr:=(true,[.v (.string s.name),.v (.int .i64 s.origin),.v (.int .i64 s.A8),.v (.int .i64 s.rs),.v (.int .i64 s.rb),.s .o 2 s.dn (ptrsT s.ds s.db)])
abbrev snO(s:Aa):Bool×List Tr:=(true,[.v (.int .i64 s.id),.v (.string s.name),.v (.string s.set),.v (.int .i64 s.A8),.v (.int .i64 s.time),.v (.int .i64 s.rs),.v (.int .i64 s.rb),.s .o 2 s.dn (ptrsT s.ds s.db)])
open Classical in
def Cm(W:A6)(x:ByteArray):Ab:=if x.size<=8000/\BL W x/\B4 W then W.A2 (BO W.sn fun k=>(W.A2 k).name=x).toNat else UT
open Classical in
def DH(W:A6)(x:Int):Aa:=if CK W x/\B4 W then W.A3 (BO W.pn fun k=>(W.A3 k).id=x).toNat else DL
def qD:AL:=AY (fun q:A6×ByteArray=>[woT q.1,sT q.2]) (fun q=>SmallW q.1) (fun q=>[seO (Cm q.1 q.2)])
theorem Qf(W:A6)(x:ByteArray):qD [woT W,sT x]=some (SmallW W,[seO (Cm W x)]):=Ag (fun l=>(C2 (nth l 0),CO (nth l 1 0))) (fun _=>rfl) (W,x)
theorem V5:An Tryz.prog 11 qD:=by
 refine B6 Al (GOk.cons IA (AE Tryz.func28 rfl rfl) (GOk.cons FK (AE Tryz.func14 rfl rfl) GOk.nil)) Ak Tryz.func11 rfl Tryz.ntmps11 Tryz.results11 7 ?_;rintro⟨W,x⟩ a;replace a:SmallW W:=a;refine⟨by simp,?_⟩;simp[go_sem,Cb,CE,a,a.sn,E9,Cn,Gy,GR,Kj];refine⟨fun h=>?_,fun l b f=>?_⟩
 ·rw[show Cm W x=UT from if_neg fun e=>h.elim (fun h=>h.elim (fun h=>by have:=e.1;omega) (fun h=>h e.2.1)) (fun h=>h e.2.2)];exact⟨rfl,rfl,rfl,rfl,rfl,rfl⟩
 ·rw[show Cm W x=_ from if_pos ⟨by omega,b,f⟩];obtain⟨k,c,i,j,d⟩ | ⟨-,g⟩:=Hd W.sn fun k=>(W.A2 k).name=x
  ·have m:=a.sd k c;rw[d,Int.toNat_natCast];exact⟨⟨b,by omega⟩,by omega,rfl,rfl,rfl,rfl,rfl,TrE.refl _⟩
  ·have:=Cn.2 b;omega
def TF:AL:=AY (fun q:A6×Int=>[woT q.1,iT q.2]) (fun q=>SmallW q.1) (fun q=>[snO (DH q.1 q.2)])
theorem RQ(W:A6)(x:Int):TF [woT W,iT x]=some (SmallW W,[snO (DH W x)]):=Ag (fun l=>(C2 (nth l 0),AS (nth l 1 0))) (fun _=>rfl) (W,x)
theorem X9:An Tryz.prog 8 TF:=by
 refine B6 Al (GOk.cons J6 (AE Tryz.func31 rfl rfl) (GOk.cons FK (AE Tryz.func14 rfl rfl) GOk.nil)) Ak Tryz.func8 rfl Tryz.ntmps8 Tryz.results8 7 ?_;rintro⟨W,x⟩ a;replace a:SmallW W:=a;refine⟨by simp,?_⟩;simp[go_sem,Ex,CE,a,a.pn,JM,Gp,Gy,GR,Kj];refine⟨fun h=>?_,fun b f=>?_⟩
 ·rw[show DH W x=DL from if_neg fun e=>h.elim (fun h=>h e.1) (fun h=>h e.2)];exact⟨rfl,rfl,rfl,rfl,rfl,rfl,rfl,rfl⟩
 ·rw[show DH W x=_ from if_pos ⟨b,f⟩];obtain⟨k,c,i,j,d⟩ | ⟨-,g⟩:=Hd W.pn fun k=>(W.A3 k).id=x
  ·have l:=a.pd k c;rw[d,Int.toNat_natCast];exact⟨⟨b,by omega⟩,by omega,rfl,rfl,rfl,rfl,rfl,rfl,rfl,TrE.refl _⟩
  ·have:=Gp.2 b;omega
set_option maxRecDepth 20000
set_option maxHeartbeats 3200000
attribute [go_sem] Bd
attribute [-go_sem] Bd
def T5:AL:=AY (fun q:A7×Int×Int×Nat=>[poT q.1.n q.1.s q.1.hn q.1.h,pT q.2.1 q.2.2.1,iT (q.2.2.2:Int)]) (fun q=>As q.1 q.2.1 q.2.2.1/\q.2.2.2<64) (fun q=>[(false,[.v (.string (lwD q.1 q.2.1 q.2.2.1 q.2.2.2))])])
theorem zB1(p:A7)(a b:Int)(k:Nat):T5 [poT p.n p.s p.hn p.h,pT a b,iT (k:Int)]=some (As p a b/\k<64,[(false,[.v (.string (lwD p a b k))])]):=Ag (fun l=>(Cw (nth l 0 0) (nth l 0 1),AS (nth l 1 0),AS (nth l 1 1),(AS (nth l 2 0)).toNat)) (fun _=>rfl) (p,a,b,k)
theorem zIL{p:A7}{a b:Int}(h:B8 p a b):b≠0/\0<=a/\a<p.n:=⟨by have:=h.1;omega,h.2.1,h.2.2.1⟩
theorem zDX:An Tryz.prog 32 T5:=by
 refine B6 Al GOk.nil Ak Tryz.func32 rfl Tryz.ntmps32 Tryz.results32 9 ?_;rintro⟨p,a,b,k⟩ ⟨m,v⟩;replace m:As p a b:=m;replace v:k<64:=v;refine⟨by simp,?_⟩;by_cases j:Nil a b
 ·obtain⟨rfl,rfl⟩:=id j;simp[go_sem,QW j]
 obtain⟨l,n,-⟩:=m.2.resolve_left j;have i:=KR m.1 l;obtain⟨z,A,B⟩:=zIL l.1;have d:(k / 8:Nat)<8:=by omega
 have q1:BV p a b k=(p.s a.toNat).ks (k / 8):=(if_neg j).trans (FE i d);have y:Bj p a b k=(p.s a.toNat).kb (k / 8):=(if_neg j).trans (FD i d);have o:=n.1 (k / 8) d;unfold JN at o;rw[FE i d,FD i d]at o;simp[go_sem,N4 v,Mf,z,A,B,i];rw[show((k:Int) / 8).toNat=k / 8 by omega,show((k:Int) % 8).toNat=k % 8 by omega];refine⟨by omega,fun h=>?_,fun h=>?_⟩
 ·have w:=o.resolve_right fun g=>by have:=g.1.1.1;omega
  exact(QV (by rw[q1,y];exact w)).symm
 obtain⟨r,C⟩:=o.resolve_left fun e=>h e.2
 have c:=KR m.1 r;have f:k % 8<8:=by omega
 have u:=C.1 (k % 8) f;rw[FE c f,FD c f]at u;have hn:¬Nil (BV p a b k) (Bj p a b k):=by rw[q1,y];exact fun e=>h e.2
 have q:BZ p a b k=(p.s ((p.s a.toNat).ks (k / 8)).toNat).ks (k % 8):=(if_neg hn).trans (by rw[q1];exact FE c f);have x:Bh p a b k=(p.s ((p.s a.toNat).ks (k / 8)).toNat).kb (k % 8):=(if_neg hn).trans (by rw[q1];exact FD c f);refine⟨⟨r.1.2.1,r.1.2.2.1⟩,⟨by omega,by rw[c];omega⟩,fun t=>?_,fun t=>?_⟩
 ·have w:=u.resolve_right fun g=>by have:=g.1.1;omega
  exact(if_pos (by rw[q,x];exact w)).symm
 ·have g:=u.resolve_left fun e=>t e.2
  exact⟨⟨g.1.2.1,g.1.2.2.1⟩,((if_neg (by rw[q,x];exact fun e=>t e.2)).trans (by rw[q])).symm⟩
def T6:AL:=AY (fun q:A7×Int×Int×A7×Int×Int×Int=>[poT q.1.n q.1.s q.1.hn q.1.h,pT q.2.1 q.2.2.1,poT q.2.2.2.1.n q.2.2.2.1.s q.2.2.2.1.hn q.2.2.2.1.h,pT q.2.2.2.2.1 q.2.2.2.2.2.1,iT q.2.2.2.2.2.2]) (fun q=>As q.1 q.2.1 q.2.2.1/\As q.2.2.2.1 q.2.2.2.2.1 q.2.2.2.2.2.1/\∀k:Nat,k<64->(k:Int)≠q.2.2.2.2.2.2->lwD q.1 q.2.1 q.2.2.1 k=lwD q.2.2.2.1 q.2.2.2.2.1 q.2.2.2.2.2.1 k) (fun _=>tT)
theorem OT(p:A7)(a b:Int)(q:A7)(c d x:Int):T6 [poT p.n p.s p.hn p.h,pT a b,poT q.n q.s q.hn q.h,pT c d,iT x]=some (As p a b/\As q c d/\∀k:Nat,k<64->(k:Int)≠x->lwD p a b k=lwD q c d k,tT):=Ag (fun l=>(Cw (nth l 0 0) (nth l 0 1),AS (nth l 1 0),AS (nth l 1 1),Cw (nth l 2 0) (nth l 2 1),AS (nth l 3 0),AS (nth l 3 1),AS (nth l 4 0))) (fun _=>rfl) (p,a,b,q,c,d,x)
theorem VM:An Tryz.prog 10 T6:=by
 refine B6 Al (GOk.cons zDX (AE Tryz.func32 rfl rfl) GOk.nil) Ak Tryz.func10 rfl Tryz.ntmps10 Tryz.results10 12 ?_;rintro⟨p,a,b,q,c,d,x⟩ ⟨e,f,g⟩;replace e:As p a b:=e;replace f:As q c d:=f;replace g:∀k:Nat,k<64->(k:Int)≠x->lwD p a b k=lwD q c d k:=g;refine⟨by simp,?_⟩;simp[go_sem];refine BF (fun k:Nat=>⟨[(5,true,.m false [.p 5 0]),(6,true,.m false [.p 6 0]),(7,true,.m false [.p 7 0]),(8,true,.m false [.p 8 0]),(4,true,.i x),(11,true,.i k)],[(8,.var [.v (.int .i64 c),.v (.int .i64 d)]),(7,.var [.s .b 3 q.n (Aw .b q.s),.s .b 1 q.hn (BH q.h)]),(6,.var [.v (.int .i64 a),.v (.int .i64 b)]),(5,.var [.s .b 3 p.n (Aw .b p.s),.s .b 1 p.hn (BH p.h)])]⟩) (fun k=>64 - k) (fun k=>k<=64) 0 (by simp[go_sem]) (by simp) ?_;rintro k l;simp[go_sem,zB1,Ar (show k<=1000000000 by omega),e,f];exact fun o=>⟨fun _=>by omega,by kernel_rfl,fun j=>by rw[g k (by omega) j],fun _=>⟨k+1,by omega,by omega,rfl⟩⟩
structure IV (W V:A6) (x:ByteArray) (y:Int):Prop where
 A2:∀i,i<W.sn->(W.A2 i).name≠x->(Cm V (W.A2 i).name).name=(W.A2 i).name/\∀k,k<64->lwD W.pool (W.A2 i).rs (W.A2 i).rb k=lwD V.pool (Cm V (W.A2 i).name).rs (Cm V (W.A2 i).name).rb k
 A3:∀i,i<W.pn->(W.A3 i).id≠y->(DH V (W.A3 i).id).id=(W.A3 i).id/\∀k,k<64->lwD W.pool (W.A3 i).rs (W.A3 i).rb k=lwD V.pool (DH V (W.A3 i).id).rs (DH V (W.A3 i).id).rb k
variable{V:A6}
theorem Vj(h:B4 V)(x:ByteArray):B3 V.pool (Cm V x).rs (Cm V x).rb:=by
 unfold Cm;split
 ·rename_i g
  obtain⟨k,a,-,-,b⟩ | ⟨a,-⟩:=Hd V.sn fun k=>(V.A2 k).name=x
  ·rw[b];exact(h.A2 k a).1
  ·obtain⟨k,c,d⟩:=g.2.1;exact absurd d (a k c)
 ·exact .inl ⟨rfl,rfl⟩
theorem Xn(h:B4 V)(x:Int):B3 V.pool (DH V x).rs (DH V x).rb:=by
 unfold DH;split
 ·rename_i g
  obtain⟨k,a,-,-,b⟩ | ⟨a,-⟩:=Hd V.pn fun k=>(V.A3 k).id=x
  ·rw[b];exact h.A3 k a
  ·obtain⟨k,c,d⟩:=g.1;exact absurd d (a k c)
 ·exact .inl ⟨rfl,rfl⟩
def T4:AL:=AY (fun q:A6×A6×ByteArray×Int=>[woT q.1,woT q.2.1,sT q.2.2.1,iT q.2.2.2]) (fun q=>(SmallW q.1/\SmallW q.2.1)/\(B4 q.1/\B4 q.2.1)/\IV q.1 q.2.1 q.2.2.1 q.2.2.2) (fun _=>tT)
theorem OS(W V:A6)(x:ByteArray)(y:Int):T4 [woT W,woT V,sT x,iT y]=some ((SmallW W/\SmallW V)/\(B4 W/\B4 V)/\IV W V x y,tT):=Ag (fun l=>(C2 (nth l 0),C2 (nth l 1),CO (nth l 2 0),AS (nth l 3 0))) (fun _=>rfl) (W,V,x,y)
theorem zDW:An Tryz.prog 9 T4:=by
 refine B6 Al (GOk.cons V5 (AE Tryz.func11 rfl rfl) (GOk.cons X9 (AE Tryz.func8 rfl rfl) (GOk.cons VM (AE Tryz.func10 rfl rfl) GOk.nil))) Ak Tryz.func9 rfl Tryz.ntmps9 Tryz.results9 15 ?_;rintro⟨W,V,x,y⟩ ⟨⟨l,g⟩,⟨a,d⟩,hK⟩;replace l:SmallW W:=l;replace g:SmallW V:=g;replace a:B4 W:=a;replace d:B4 V:=d;replace hK:IV W V x y:=hK;have q:W.sn<=8:=a.Aq.2.2.1;have n:W.pn<=20:=a.Aq.2.2.2.1;refine⟨by simp,?_⟩;simp[go_sem];refine BF (fun k:Nat=>⟨[(4,true,.m false [.p 4 0]),(5,true,.m false [.p 5 0]),(2,true,.m false [.v (.string x)]),(3,true,.i y),(9,true,.i k)],[(5,.var ((woL V).map Tr.cv)),(4,.var ((woL W).map Tr.cv))]⟩) (fun k=>W.sn - k) (fun k=>k<=W.sn) 0 (by simp[go_sem]) (by simp) ?_;intro k o;obtain⟨D,c⟩:∃D,Cm V (W.A2 k).name=D:=⟨_,rfl⟩;simp[go_sem,Qf,OT,Ar (show k<=1000000000 by omega),g,c];refine⟨fun b=>?_,fun b=>?_⟩
 ·have f:¬(W.A2 k).name.toList=x.toList->D.name=(W.A2 k).name/\∀j,j<64->lwD W.pool (W.A2 k).rs (W.A2 k).rb j=lwD V.pool D.rs D.rb j:=fun h=>c▸hK.A2 k b fun e=>h (congrArg ByteArray.toList e)
  exact⟨b,fun h _=>⟨⟨a.right,(a.A2 k b).1⟩,⟨d.right,c▸Vj d _⟩,(f h).2⟩,fun h e=>⟨h,e⟩,fun h=>congrArg ByteArray.toList (f h).1,fun _=>⟨k+1,by omega,by omega,rfl⟩⟩
 refine BF (fun k:Nat=>⟨[(4,true,.m false [.p 4 0]),(5,true,.m false [.p 5 0]),(3,true,.i y),(12,true,.i k)],[(5,.var ((woL V).map Tr.cv)),(4,.var ((woL W).map Tr.cv))]⟩) (fun k=>W.pn - k) (fun k=>k<=W.pn) 0 (by simp[go_sem]) (by simp) ?_;intro k o;obtain⟨D,c⟩:∃D,DH V (W.A3 k).id=D:=⟨_,rfl⟩;simp[go_sem,RQ,OT,Ar (show k<=1000000000 by omega),g,c];intro b;have f:¬(W.A3 k).id=y->D.id=(W.A3 k).id/\∀j,j<64->lwD W.pool (W.A3 k).rs (W.A3 k).rb j=lwD V.pool D.rs D.rb j:=fun h=>c▸hK.A3 k b h
 exact⟨b,fun h _=>⟨⟨a.right,a.A3 k b⟩,⟨d.right,c▸Xn d _⟩,(f h).2⟩,fun h e=>⟨h,e⟩,fun h=>(f h).1,fun _=>⟨k+1,by omega,by omega,rfl⟩⟩
theorem zIP(h:B4 V)(hi:i<k)(a:k<V.sn):Cd (V.A2 i).name (V.A2 k).name:=Nm h.Aq hi a
theorem zHL(h:B4 V)(hi:i<k)(a:k<V.pn):(V.A3 i).id<(V.A3 k).id:=ZU h.Aq hi a
theorem Nd(h:B4 V)(hi:i<V.sn):Cm V (V.A2 i).name=V.A2 i:=by
 have hs:=(h.Aq.2.2.2.2.1 i hi).1;unfold Cm;rw[if_pos ⟨by have:=hs.2.1;omega,⟨i,hi,rfl⟩,h⟩,I2 (P:=fun k=>(V.A2 k).name=(V.A2 i).name) hi rfl (fun j a e=>QD (zIP h a hi) e),Int.toNat_natCast]
theorem U3(h:B4 V)(hi:i<V.pn):DH V (V.A3 i).id=V.A3 i:=by
 unfold DH;rw[if_pos ⟨⟨i,hi,rfl⟩,h⟩,I2 (P:=fun k=>(V.A3 k).id=(V.A3 i).id) hi rfl (fun j a e=>by have:=zHL h a hi;omega),Int.toNat_natCast]
set_option linter.unusedSimpArgs false
set_option maxRecDepth 20000
set_option maxHeartbeats 3200000
attribute [go_sem] Bd
attribute [-go_sem] Bd
structure Fs (x y:Bm):Prop where
 code:x.code=y.code
 id:x.id=y.id
 many:x.many=y.many
 no:x.code≠0->x.world.sn=0/\x.world.pool.n=0
 ok:x.code=0->B4 x.world
 good:BK 1 x.world
def yN:AL:=AY (fun q:Bm×Bm=>[wuL q.1,wuL q.2]) (fun q=>Fs q.1 q.2) (fun _=>tT)
theorem Ux(x y:Bm):yN [wuL x,wuL y]=some (Fs x y,tT):=Ag (fun l=>(qe (nth l 0),qe (nth l 1))) (fun _=>rfl) (x,y)
theorem zDY:An Tryz.prog 6 yN:=by
 refine B6 Al (GOk.cons FK (AE Tryz.func14 rfl rfl) (GOk.cons zIY (AE Tryz.func25 rfl rfl) GOk.nil)) Ak Tryz.func6 rfl Tryz.ntmps6 Tryz.results6 6 ?_;rintro⟨x,y⟩ e;replace e:Fs x y:=e;obtain⟨f,g,h,k,l,i⟩:=e;have j:=(i.CG (c:=1) (by omega)).toSmallW;refine⟨by simp,?_⟩;by_cases d:x.code=0
 ·have m:=l d;simp[go_sem,CE,TH,<-f,<-g,<-h,d,m,i,j]
 ·obtain⟨a,b⟩:=k d;simp[go_sem,CE,TH,<-f,<-g,<-h,d,a,b]
theorem SV(h:BL W x):Ay W x<W.sn/\(W.A2 (Ay W x)).name=x:=by
 obtain⟨k,a⟩:=Qr h;rw[PX a];exact⟨a.1,a.2.1⟩
theorem Si{c:Int}(a:c≠0):Fs (BP c) (BP c):=⟨rfl,rfl,rfl,fun _=>⟨rfl,rfl⟩,fun h=>absurd h a,G8 (e:=c)⟩
theorem UH(h:o.code=0)(b:B4 o.world)(a:BK 1 o.world):Fs o o:=⟨rfl,rfl,rfl,fun g=>absurd h g,fun _=>b,a⟩
theorem Ss(f:B4 V){y:Int}
 (g:∀i,i<W.sn->(W.A2 i).name≠x->(∃j,j<V.sn/\(V.A2 j).name=(W.A2 i).name/\(V.A2 j).rs=(W.A2 i).rs/\(V.A2 j).rb=(W.A2 i).rb)/\EU W.pool V.pool (W.A2 i).rs (W.A2 i).rb)
 (h:∀i,i<W.pn->(W.A3 i).id≠y->(∃j,j<V.pn/\(V.A3 j).id=(W.A3 i).id/\(V.A3 j).rs=(W.A3 i).rs/\(V.A3 j).rb=(W.A3 i).rb)/\EU W.pool V.pool (W.A3 i).rs (W.A3 i).rb):IV W V x y:=by
 refine⟨fun i hi hn=>?_,fun i hi hn=>?_⟩
 ·obtain⟨⟨j,d,a,b,c⟩,t⟩:=g i hi hn;rw[<-a,Nd f d];exact⟨rfl,fun k e=>by rw[b,c];exact(t.AM e).symm⟩
 ·obtain⟨⟨j,d,a,b,c⟩,t⟩:=h i hi hn;rw[<-a,U3 f d];exact⟨rfl,fun k e=>by rw[b,c];exact(t.AM e).symm⟩
end
end Go.Proofs.YtddigaohmfpepaaGreatDoor

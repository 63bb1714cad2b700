/- A part of the proof. -/
import Derived.Scope
import Derived.WalkMore
import Derived.Deep.MidRow
import Derived.Test.YtehdoekmnicdiaaGreatDoorF12
set_option linter.unusedVariables false
set_option maxRecDepth 20000
set_option maxHeartbeats 4000000
namespace Go.Proofs.YtehdoekmnicdiaaGreatDoor
noncomputable section
open Go.RowKit
def hop(J:Nat->Act->World->Prop)(Q:Exit->Act->World->Prop):Exit->Act->World->Prop
 | .goto l,a,w=>J l a w
 | e,a,w=>Q e a w
def JU(P:Program)(c:Code)(Q:Exit->Act->World->Prop):Nat->Nat->Act->World->Prop
 | 0,_,_,_=>False
 | n+1,l,a,w=>∃rest,findLabel c l=some rest/\rest.wp P (hop (JU P c Q n) Q) a w
variable{P:Program}{a:Act}{w:World}{Q:Exit->Act->World->Prop}
theorem zCw{c:Code}(n:Nat)(first:c.wp P (hop (JU P c Q n) Q) a w):(Code.scope c).wp P Q a w:=by
 intro b k cs;have key:∀n l rest a w,findLabel c l=some rest->rest.wp P (hop (JU P c Q n) Q) a w->∃e y w',Q e y w'/\Arrives P (lone (b.at a (.code rest :: .inScope c :: k)) cs w) b k cs e y w':=by
  intro n
  induction n with
  | zero=>
   intro l rest a w z v;obtain⟨e,h,i,g,d⟩:=v b (.inScope c :: k) cs;cases e with
   | normal=>exact⟨.normal,h,i,g,Steps.trans d (.one step_inScope)⟩
   | exit id=>exact⟨.exit id,h,i,g,fun r q=>d r (by simp[exitTo,q])⟩
   | goto l'=>exact False.elim g
   | ret=>exact⟨_,h,i,g,d⟩
   | panic ch=>exact⟨_,h,i,g,d⟩
   | outgrown=>exact⟨_,h,i,g,d⟩
  | succ n ih=>
   intro l rest a w z v;obtain⟨e,h,i,g,d⟩:=v b (.inScope c :: k) cs;cases e with
   | normal=>exact⟨.normal,h,i,g,Steps.trans d (.one step_inScope)⟩
   | exit id=>exact⟨.exit id,h,i,g,fun r q=>d r (by simp[exitTo,q])⟩
   | goto l'=>
    obtain⟨f,m,p⟩:=g;obtain⟨t,s,x,o,j⟩:=ih l' f h i m p;have u:gotoIn l' (.inScope c :: k)=some (.code f :: .inScope c :: k):=(by simp[gotoIn,m]);exact⟨t,s,x,o,.of_steps (d _ u) j⟩
   | ret=>exact⟨_,h,i,g,d⟩
   | panic ch=>exact⟨_,h,i,g,d⟩
   | outgrown=>exact⟨_,h,i,g,d⟩
 obtain⟨e,h,i,g,d⟩:=first b (.inScope c :: k) cs
 cases e with
 | normal=>exact⟨.normal,h,i,g,.head step_scope (Steps.trans d (.one step_inScope))⟩
 | exit id=>exact⟨.exit id,h,i,g,fun r q=>.head step_scope (d r (by simp[exitTo,q]))⟩
 | goto l'=>
  match n,g with
  | n+1,g=>
   obtain⟨f,m,p⟩:=g;obtain⟨t,s,x,o,j⟩:=key n l' f h i m p;have u:gotoIn l' (.inScope c :: k)=some (.code f :: .inScope c :: k):=(by simp[gotoIn,m]);exact⟨t,s,x,o,.of_steps (.head step_scope (d _ u)) j⟩
 | ret=>exact⟨_,h,i,g,.of_steps (.one step_scope) d⟩
 | panic ch=>exact⟨_,h,i,g,.of_steps (.one step_scope) d⟩
 | outgrown=>exact⟨_,h,i,g,.of_steps (.one step_scope) d⟩
def LF:Array Value:=#[.int .i64 0,.int .i64 0,.int .i64 0,.int .i64 0,.int .i64 0,.int .i64 0,.int .i64 0,.int .i64 0,.int .i64 0,.int .i64 0,.int .i64 0,.int .i64 0,.int .i64 0,.int .i64 0,.int .i64 0,.int .i64 0,.int .i64 0,.int .i64 0,.int .i64 0,.int .i64 0,.int .i64 0,.int .i64 0,.int .i64 0,.int .i64 0,.int .i64 0,.int .i64 0,.int .i64 0,.int .i64 0,.int .i64 0,.int .i64 0,.int .i64 0,.int .i64 0,.int .i64 0,.int .i64 0,.int .i64 0,.int .i64 0,.int .i64 0,.int .i64 0,.int .i64 0,.int .i64 0,.slice none 0 0]
def Fr(n:Nat):Array Value:=#[.int .i64 ((n:Int) / 8),.int .i64 ((n:Int) % 8),.int .i64 0,.int .i64 0,.int .i64 0,.int .i64 0,.int .i64 0,.int .i64 0,.int .i64 0,.int .i64 0,.int .i64 0,.int .i64 0,.int .i64 0,.int .i64 0,.int .i64 0,.int .i64 0,.int .i64 0,.int .i64 0,.int .i64 0,.int .i64 0,.int .i64 0,.int .i64 0,.int .i64 0,.int .i64 0,.int .i64 0,.int .i64 0,.int .i64 0,.int .i64 0,.int .i64 0,.int .i64 0,.int .i64 0,.int .i64 0,.int .i64 0,.int .i64 0,.int .i64 0,.int .i64 0,.int .i64 0,.int .i64 0,.int .i64 0,.int .i64 0,.slice none 0 0]
theorem Q0:(Tryz.prog.info? 112).map (·.size)=some 41:=by kernel_rfl
theorem zEI(n:Nat):(Tryz.prog.info? 112).map (·.size)=some (Fr n).size:=Q0
theorem zGG(n:Nat):(Fr n).all (·.oneCell')=true:=by simp[Fr,Value.oneCell']
def C9(w:World)(B:Nat)(f:Nat->Value):Prop:=∀i,i<41->AN w B i (f i)
variable{w':World}{B:Nat}{f:Nat->Value}
theorem C9.A0(h:C9 w B f)(t:Below w.heap.size w w'):C9 w' B f:=fun i hi=>(h i hi).A0 t
variable{S:Nat->Prop}
theorem C9.AD(h:C9 w B f)(t:AE S w w')(hs:¬S B):C9 w' B f:=fun i hi=>(h i hi).AD t hs
theorem C9.congr{g:Nat->Value}(h:C9 w B f)(e:∀i,i<41->f i=g i):C9 w B g:=fun i hi=>e i hi▸h i hi
theorem C9.put(h:C9 w B f)(o:Nat)(v:Value):C9 (w.setCell ⟨B,o,none⟩ v) B (fun i=>if i=o then v else f i):=fun i hi=>by
 show AN _ B i (if i=o then v else f i);by_cases e:i=o
 ·subst e;rw[if_pos rfl];exact(h i hi).set v
 ·rw[if_neg e];exact(h i hi).other v (Or.inr (fun h=>e h.symm))
variable{n:Nat}
theorem C9.there(h:C9 w B f){o:Nat}(hn:o+n<=41):w.there B o n:=fun j a=>⟨by rw[(h (o+j) (by omega)).1];rfl,(h (o+j) (by omega)).2⟩
theorem C9.range(h:C9 w B f):w.rangeAt B 0 ((List.range 41).map f):=fun j v hv=>by
 have a:j<41:=by have:=(List.getElem?_eq_some_iff.1 hv).1;simpa using this
 rw[Nat.zero_add,(h j a).1];simpa[a]using hv
theorem C9.puts(h:C9 w B f)(o:Nat)(vs:List Value)(hv:o+vs.length<=41):C9 (w.setCells B o vs) B (fun i=>if o<=i/\i<o+vs.length then vs.getD (i - o) undef else f i):=fun i hi=>by
 refine⟨?_,?_⟩
 ·show _=some (if o<=i/\i<o+vs.length then vs.getD (i - o) undef else f i);by_cases e:o<=i/\i<o+vs.length
  ·rw[if_pos e];have:=World.cell?_setCells_in B vs o w (fun j a=>by rw[(h (o+j) (by omega)).1];rfl) (i - o) (by omega);rw[show o+(i - o)=i by omega]at this;rw[this,List.getD_eq_getElem?_getD,List.getElem?_eq_getElem (by omega),Option.getD_some]
  ·rw[if_neg e,World.cell?_setCells_out B vs o w ⟨B,i,none⟩ (fun _ _=>by show i<o\/o+vs.length<=i;omega)];exact(h i hi).1
 ·rw[World.frozen?_setCells];exact(h i hi).2
def Bt(f:Nat->Value):Array Value:=((List.range 41).map f).toArray
theorem OR(f:Nat->Value):(Bt f).size=41:=by simp[Bt]
theorem Kg(f:Nat->Value):(Tryz.prog.info? 112).map (·.size)=some (Bt f).size:=by rw[OR];exact Q0
theorem qh:(Tryz.prog.underlying 112).map (fun d=>d.isRow)=some true:=by kernel_rfl
def PI(n:Nat)(i:Nat):Value:=if i=0 then .int .i64 ((n:Int) / 8)else if i=1 then .int .i64 ((n:Int) % 8)else if i=40 then .slice none 0 0 else .int .i64 0
theorem zHU(W:World)(n:Nat):C9 (W.alloc (.cells (Fr n) 112)) W.heap.size (PI n):=fun i hi=>by
 refine Au (i:=i) (heap_alloc_new W (.cells (Fr n) 112)) ?_;have:Fr n=Bt (PI n):=by rfl
 rw[this];simp[Bt,hi]
theorem Ut{J J':Nat->Act->World->Prop}(h:∀l a w,J l a w->J' l a w):∀{e:Exit} {a:Act} {w:World},hop J Q e a w->hop J' Q e a w
 | .goto l,a,w,he=>h l a w he
 | .normal,_,_,he=>he
 | .exit _,_,_,he=>he
 | .ret,_,_,he=>he
 | .panic _,_,_,he=>he
 | .outgrown,_,_,he=>he
theorem zC4{c:Code}(R:Nat->Nat->Act->World->Prop)(n:Nat)(zero:∀l a w,¬R 0 l a w)
 (step:∀n l a w,R (n+1) l a w->∃rest,findLabel c l=some (Code.skip.seq rest)/\rest.wp P (hop (R n) Q) a w)
 (first:(∀l a w rest,findLabel c l=some (Code.skip.seq rest)->R (n+1) l a w->rest.wp P (hop (R n) Q) a w)->c.wp P (hop (R n) Q) a w):(Code.scope c).wp P Q a w:=by
 have key:∀n l a w,R n l a w->JU P c Q n l a w:=by
  intro n
  induction n with
  | zero=>intro l a w h;exact absurd h (zero l a w)
  | succ n ih=>
   intro l a w h;obtain⟨rest,f,g⟩:=step n l a w h;exact⟨_,f,Code.wp_mono (fun e a w d=>Ut ih d) (wp_seq (wp_skip g))⟩
 refine zCw n (Code.wp_mono (fun e a w d=>Ut (key n) d) (first ?_));intro l a w rest f j;obtain⟨i,b,g⟩:=step n l a w j;rw[f]at b;simp only[Option.some.injEq,Code.seq.injEq,true_and]at b;rw[b];exact g
def BM(p:A5)(xs xb:Int)(n L:Nat):Int:=if L=0 then xs else if L=1 then BW p xs xb n else BS p xs xb n
def BZ(p:A5)(xs xb:Int)(n L:Nat):Int:=if L=0 then xb else if L=1 then Bf p xs xb n else BY p xs xb n
def plc(n L:Nat):Nat:=if L=0 then n / 8 else n % 8
def Ct(p:A5)(xs xb:Int)(n L j:Nat):Int:=if Nil (BM p xs xb n L) (BZ p xs xb n L)then 0 else BB (p.s (BM p xs xb n L).toNat) j
variable{L:Nat}
theorem Kh(p:A5)(xs xb:Int)(n:Nat)(h:L<2):BM p xs xb n (L+1)=Ct p xs xb n L (plc n L*2)/\BZ p xs xb n (L+1)=Ct p xs xb n L (plc n L*2+1):=by
 rcases L with _ | _ | L
 ·exact⟨rfl,rfl⟩
 ·exact⟨rfl,rfl⟩
 ·omega
theorem NC(h:n<64):plc n L<8:=by unfold plc;split<;>omega
variable{p:A5}{xs xb:Int}
theorem KW(h:Nil (BM p xs xb n L) (BZ p xs xb n L))(a:L<2):Nil (BM p xs xb n (L+1)) (BZ p xs xb n (L+1)):=by
 rw[(Kh p xs xb n a).1,(Kh p xs xb n a).2];unfold Ct;rw[if_pos h,if_pos h];exact⟨rfl,rfl⟩
theorem zHx(h:Ai p xs xb)(hn:n<64)(a:L<2):Ij p (BM p xs xb n L) (BZ p xs xb n L):=by
 rcases L with _ | _ | L
 ·exact Nh h
 ·exact Lg h (by omega)
 ·omega
def BL(p:A5)(xs xb:Int)(n K M:Nat)(o:Value)(i:Nat):Value:=
 if i<2 then .int .i64 (plc n i:Nat)
 else if i<34 then .int .i64 (if (i - 2) / 16<K then Ct p xs xb n ((i - 2) / 16) ((i - 2) % 16)else 0)
 else if i<40 then .int .i64 (if (i - 34) / 2<M then(if (i - 34) % 2=0 then BM p xs xb n ((i - 34) / 2)else BZ p xs xb n ((i - 34) / 2))else 0)
 else o
variable{i:Nat}
theorem zGJ(p:A5)(xs xb:Int)(n:Nat)(hi:i<41):PI n i=BL p xs xb n 0 0 (.slice none 0 0) i:=by
 unfold PI BL;by_cases a:i=0
 ·subst a;rfl
 by_cases b:i=1
 ·subst b;rfl
 rw[if_neg a,if_neg b,if_neg (show ¬i<2 by omega)];by_cases c:i=40
 ·subst c;rfl
 rw[if_neg c];by_cases d:i<34
 ·rw[if_pos d,if_neg (Nat.not_lt_zero _)]
 ·rw[if_neg d,if_pos (by omega),if_neg (Nat.not_lt_zero _)]
variable{o:Value}
theorem zHT{K:Nat}(g:L<3)(h:C9 w B (BL p xs xb n K L o)) :
 C9 ((w.setCell ⟨B,34+L*2,none⟩ (.int .i64 (BM p xs xb n L))).setCell ⟨B,34+L*2+1,none⟩ (.int .i64 (BZ p xs xb n L))) B (BL p xs xb n K (L+1) o):=by
 refine((h.put _ _).put _ _).congr fun i hi=>?_
 show(if i=34+L*2+1 then _ else if i=34+L*2 then _ else _)=_;by_cases d:i=34+L*2+1
 ·subst d;rw[if_pos rfl];unfold BL;rw[if_neg (by omega),if_neg (by omega),if_pos (by omega),show(34+L*2+1 - 34) / 2=L by omega,show(34+L*2+1 - 34) % 2=1 by omega,if_pos (by omega),if_neg (by omega)]
 rw[if_neg d];by_cases e:i=34+L*2
 ·subst e;rw[if_pos rfl];unfold BL;rw[if_neg (by omega),if_neg (by omega),if_pos (by omega),show(34+L*2 - 34) / 2=L by omega,show(34+L*2 - 34) % 2=0 by omega,if_pos (by omega),if_pos rfl]
 rw[if_neg e];unfold BL;by_cases a:i<2
 ·rw[if_pos a,if_pos a]
 by_cases b:i<34
 ·rw[if_neg a,if_neg a,if_pos b,if_pos b]
 rw[if_neg a,if_neg a,if_neg b,if_neg b];by_cases c:i<40
 ·rw[if_pos c,if_pos c];by_cases f:(i - 34) / 2<L
  ·rw[if_pos f,if_pos (show(i - 34) / 2<L+1 by omega)]
  ·rw[if_neg f,if_neg (by omega)]
 ·rw[if_neg c,if_neg c]
variable{M:Nat}
theorem zGI(k:L<2)(h:C9 w B (BL p xs xb n L M o))(g:¬Nil (BM p xs xb n L) (BZ p xs xb n L)) :
 C9 (w.setCells B (2+L*16) (B6 (p.s (BM p xs xb n L).toNat)).toList) B (BL p xs xb n (L+1) M o):=by
 have a:(B6 (p.s (BM p xs xb n L).toNat)).toList.length=16:=by simp[B6,Cy]
 refine(h.puts (2+L*16) _ (by omega)).congr fun i hi=>?_
 show(if 2+L*16<=i/\i<2+L*16+_ then _ else _)=_;rw[a];by_cases d:2+L*16<=i/\i<2+L*16+16
 ·rw[if_pos d];have j:i - (2+L*16)<16:=(by omega);have e:(B6 (p.s (BM p xs xb n L).toNat)).toList.getD (i - (2+L*16)) undef = .int .i64 (BB (p.s (BM p xs xb n L).toNat) (i - (2+L*16))):=by
   rw[List.getD_eq_getElem?_getD,Array.getElem?_toList];have:=ED (BB (p.s (BM p xs xb n L).toNat)) j;rw[show B6 (p.s (BM p xs xb n L).toNat)=Aj (BB (p.s (BM p xs xb n L).toNat))from rfl,this];rfl
  rw[e];unfold BL Ct;rw[if_neg (by omega),if_pos (by omega),show(i - 2) / 16=L by omega,if_pos (by omega),if_neg g,show(i - 2) % 16=i - (2+L*16)by omega]
 ·rw[if_neg d];unfold BL;by_cases b:i<2
  ·rw[if_pos b,if_pos b]
  rw[if_neg b,if_neg b];by_cases c:i<34
  ·rw[if_pos c,if_pos c];by_cases f:(i - 2) / 16<L
   ·rw[if_pos f,if_pos (by omega)]
   ·rw[if_neg f,if_neg (by omega)]
  ·rw[if_neg c,if_neg c]
theorem So(r:L<3)(h:C9 w B (BL p xs xb n L (L+1) o))(k:L<2->Nil (BM p xs xb n L) (BZ p xs xb n L)):C9 w B (BL p xs xb n 2 3 o):=by
 refine h.congr fun i hi=>?_
 have f:∀K,L<=K->K<3->L<2->Nil (BM p xs xb n K) (BZ p xs xb n K):=fun K m q a=>by
  have n0:=k a;by_cases e:K=L
  ·subst e;exact n0
  have g:=KW n0 a;by_cases j:K=L+1
  ·subst j;exact g
  have l:=KW g (by omega);rw[show K=L+1+1 by omega];exact l
 unfold BL;by_cases a:i<2
 ·rw[if_pos a,if_pos a]
 rw[if_neg a,if_neg a];by_cases c:i<34
 ·rw[if_pos c,if_pos c];by_cases b:(i - 2) / 16<L
  ·rw[if_pos b,if_pos (by omega)]
  ·rw[if_neg b,if_pos (by omega)];unfold Ct;rw[if_pos (f _ (by omega) (by omega) (by omega))]
 ·rw[if_neg c,if_neg c];by_cases d:i<40
  ·rw[if_pos d,if_pos d];by_cases b:(i - 34) / 2<L+1
   ·rw[if_pos b,if_pos (show(i - 34) / 2<3 by omega)]
   ·rw[if_neg b,if_pos (show(i - 34) / 2<3 by omega)];have:=f ((i - 34) / 2) (by omega) (by omega) (by omega);split
    ·rw[this.1]
    ·rw[this.2]
  ·rw[if_neg d,if_neg d]
theorem zHV{K:Nat}(o':Value)(h:C9 w B (BL p xs xb n K M o)):C9 (w.setCell ⟨B,40,none⟩ o') B (BL p xs xb n K M o'):=by
 refine(h.put _ _).congr fun i hi=>?_
 show(if i=40 then _ else _)=_;by_cases e:i=40
 ·subst e;rfl
 ·rw[if_neg e];unfold BL;by_cases a:i<2
  ·rw[if_pos a,if_pos a]
  rw[if_neg a,if_neg a];by_cases b:i<34
  ·rw[if_pos b,if_pos b]
  ·rw[if_neg b,if_neg b,if_pos (show i<40 by omega),if_pos (show i<40 by omega)]
def BN(p:A5)(xs xb:Int)(n k:Nat):List (Int×Int):=kidsUp (fun i=>BM p xs xb n (2 - i)) (fun i=>BZ p xs xb n (2 - i)) k
theorem zE9{t:Array Oper}{o:Oper}{K:Act->World->Prop}{E:Prop}(A:o.guard=none)(s x:Operand)
 (I:o.op = .call {callee:=.builtin .append,args:=#[s,x],argTypes:=#[39,39]}) (base k:Nat) (v:Value) (l:List (Int×Int)) (hs:a.eval s=v) (d:At w base v l)
 (z:Option Addr) (m c:Nat) (g:List (Int×Int)) (L:a.eval x = .slice z m c) (q:m=g.length) (N:At w k (.slice z m c) g) (H:l.length+g.length<=1000) (n:base<=w.heap.size)
 (h:∀y w',At w' base y (l ++ g)->w.grownBy w' v.ownBlock->K (a.put o.dst y) w'):if Region.wanted o (yielded t a.tmps)=true then Oper.wp Tryz.prog o a w K Q else E:=by
 have R:Region.wanted o (yielded t a.tmps)=true:=by simp[Region.wanted,A]
 rw[if_pos R];obtain⟨i0,f,D,F,G⟩:∃i,Tryz.prog.info? 38=some i/\i.zero=some (.agg #[.int .i64 0,.int .i64 0])/\i.size=2/\i.bytes=16:=by
  obtain⟨i0,f,r⟩:=Option.map_eq_some_iff.1 Nr;simp only[Prod.mk.injEq]at r;exact⟨i0,f,r⟩
 have J:Tryz.prog.underlying 39=some (.slice 38):=by kernel_rfl
 by_cases M:0<g.length
 ·obtain⟨b,cap,e,_,_,_,p⟩:=Fj N M;simp only[Value.slice.injEq]at e;obtain⟨rfl,_,_⟩:=e;obtain⟨y,w',C,r1,S,_⟩:=run_append_own (P:=Tryz.prog) w base 39 o.type 38 i0 (.agg #[.int .i64 0,.int .i64 0]) 2 16 J f D F G rfl (by decide) v l.length (pcl l) d ⟨b,0,none⟩ m c (pcl g) (by rw[Iq,q]) (fun j u O=>by rw[add_lit,Nat.zero_add];exact(p j u O).1) (Nf g) (by rw[q];unfold maxLen;omega) (by rw[q];omega) n;unfold Oper.wp;simp[execOp,I,resolve,invoke,builtin,hs,L,C,Result.andThen];refine h y w' ?_ S;unfold At;rw[MT,List.length_append,<-q];exact r1
 ·have e0:g = []:=List.eq_nil_of_length_eq_zero (by omega);subst e0;have B:m=0:=q;subst B;have C:=Rx (P:=Tryz.prog) (w:=w) base 39 o.type 38 i0 2 c z J f v l.length (pcl l) d;unfold Oper.wp;simp[execOp,I,resolve,invoke,builtin,hs,L,C,Result.andThen];exact h v w (by rw[List.append_nil];exact d) ⟨rfl,rfl,rfl,Nat.le_refl _,fun _ _ _=>rfl⟩
variable{v:Value}
theorem Kn{z X:Nat}(a:Act)(h:a = {tmps:=#[v,.agg #[.int .i64 xs,.int .i64 xb],.int .i64 (n:Int),a.tmps.getD 3 undef,.pointer (some ⟨z,0,none⟩),a.tmps.getD 5 undef,.pointer (some ⟨z+1,0,none⟩),.pointer (some ⟨B,0,none⟩),.pointer (some ⟨X,0,none⟩),.int .i64 (L:Int),a.tmps.getD 10 undef,a.tmps.getD 11 undef,a.tmps.getD 12 undef,a.tmps.getD 13 undef,a.tmps.getD 14 undef,a.tmps.getD 15 undef,a.tmps.getD 16 undef,a.tmps.getD 17 undef,a.tmps.getD 18 undef,a.tmps.getD 19 undef,a.tmps.getD 20 undef,a.tmps.getD 21 undef,a.tmps.getD 22 undef,a.tmps.getD 23 undef,a.tmps.getD 24 undef,a.tmps.getD 25 undef,a.tmps.getD 26 undef,a.tmps.getD 27 undef,a.tmps.getD 28 undef,a.tmps.getD 29 undef,a.tmps.getD 30 undef,a.tmps.getD 31 undef,a.tmps.getD 32 undef,a.tmps.getD 33 undef,a.tmps.getD 34 undef,a.tmps.getD 35 undef,a.tmps.getD 36 undef,a.tmps.getD 37 undef,a.tmps.getD 38 undef,a.tmps.getD 39 undef,a.tmps.getD 40 undef,a.tmps.getD 41 undef,a.tmps.getD 42 undef,a.tmps.getD 43 undef,a.tmps.getD 44 undef,a.tmps.getD 45 undef,a.tmps.getD 46 undef,a.tmps.getD 47 undef,a.tmps.getD 48 undef,a.tmps.getD 49 undef,a.tmps.getD 50 undef,a.tmps.getD 51 undef,a.tmps.getD 52 undef,a.tmps.getD 53 undef,a.tmps.getD 54 undef,a.tmps.getD 55 undef,a.tmps.getD 56 undef,a.tmps.getD 57 undef,a.tmps.getD 58 undef,a.tmps.getD 59 undef,a.tmps.getD 60 undef,a.tmps.getD 61 undef,a.tmps.getD 62 undef,a.tmps.getD 63 undef,a.tmps.getD 64 undef,a.tmps.getD 65 undef,a.tmps.getD 66 undef,a.tmps.getD 67 undef],defers:=[]}):∃j:Nat->Value,a = {tmps:=#[v,.agg #[.int .i64 xs,.int .i64 xb],.int .i64 (n:Int),j 3,.pointer (some ⟨z,0,none⟩),j 5,.pointer (some ⟨z+1,0,none⟩),.pointer (some ⟨B,0,none⟩),.pointer (some ⟨X,0,none⟩),.int .i64 (L:Int),j 10,j 11,j 12,j 13,j 14,j 15,j 16,j 17,j 18,j 19,j 20,j 21,j 22,j 23,j 24,j 25,j 26,j 27,j 28,j 29,j 30,j 31,j 32,j 33,j 34,j 35,j 36,j 37,j 38,j 39,j 40,j 41,j 42,j 43,j 44,j 45,j 46,j 47,j 48,j 49,j 50,j 51,j 52,j 53,j 54,j 55,j 56,j 57,j 58,j 59,j 60,j 61,j 62,j 63,j 64,j 65,j 66,j 67],defers:=[]}:=⟨fun i=>a.tmps.getD i undef,h⟩
def zIw(p:A5)(v:Value)(xs xb:Int)(n:Nat)(w0:World)(z:Nat)(k l:Nat)(a:Act)(w:World):Prop:=
 ∃B X L:Nat,(∃j:Nat->Value,a = {tmps:=#[v,.agg #[.int .i64 xs,.int .i64 xb],.int .i64 (n:Int),j 3,.pointer (some ⟨z,0,none⟩),j 5,.pointer (some ⟨z+1,0,none⟩),.pointer (some ⟨B,0,none⟩),.pointer (some ⟨X,0,none⟩),.int .i64 (L:Int),j 10,j 11,j 12,j 13,j 14,j 15,j 16,j 17,j 18,j 19,j 20,j 21,j 22,j 23,j 24,j 25,j 26,j 27,j 28,j 29,j 30,j 31,j 32,j 33,j 34,j 35,j 36,j 37,j 38,j 39,j 40,j 41,j 42,j 43,j 44,j 45,j 46,j 47,j 48,j 49,j 50,j 51,j 52,j 53,j 54,j 55,j 56,j 57,j 58,j 59,j 60,j 61,j 62,j 63,j 64,j 65,j 66,j 67],defers:=[]})/\L<3/\z+1<B/\B<X/\X<w.heap.size/\Below z w0 w/\w.heap[z+1]?=some (.cells LF 112 (0,0))/\
  ((l=0/\7<=k+L/\C9 w B (BL p xs xb n L L (.slice none 0 0))/\Ac w X (.int .i64 (BM p xs xb n L)) (.int .i64 (BZ p xs xb n L)))\/
   (l=1/\L<k/\∃o,C9 w B (BL p xs xb n 2 3 o)/\At w (X+1) o (BN p xs xb n (2 - L))))
theorem ZV(B:Nat):∀(vs:List Value) (o:Nat) (w:World),AE (fun k=>k=B) w (w.setCells B o vs)
 | [],_,w=>AE.refl _ w
 | v :: vs,o,w=>((AE.refl (fun k=>k=B) w).setCell (p:=⟨B,o,none⟩) rfl v).trans (ZV B vs (o+1) _)
theorem Y7(p:A5)(xs xb:Int)(n K M:Nat)(o:Value)(a:L<2):BL p xs xb n K M o L = .int .i64 (plc n L:Nat):=by
 unfold BL;rw[if_pos a]
theorem UW(p:A5)(xs xb:Int)(n M:Nat)(o:Value){j:Nat}(a:L<2)(b:j<16):BL p xs xb n (L+1) M o (2+L*16+j) = .int .i64 (Ct p xs xb n L j):=by
 unfold BL;rw[if_neg (by omega),if_pos (by omega),show(2+L*16+j - 2) / 16=L by omega,show(2+L*16+j - 2) % 16=j by omega,if_pos (by omega)]
theorem UX(p:A5)(xs xb:Int)(n K:Nat)(o:Value)(a:L<3):BL p xs xb n K 3 o (34+L*2) = .int .i64 (BM p xs xb n L)/\BL p xs xb n K 3 o (34+L*2+1) = .int .i64 (BZ p xs xb n L):=by
 refine⟨?_,?_⟩
 · unfold BL
   rw[if_neg (by omega),if_neg (by omega),if_pos (by omega),show(34+L*2 - 34) / 2=L by omega,show(34+L*2 - 34) % 2=0 by omega,if_pos (by omega),if_pos rfl]
 · unfold BL
   rw[if_neg (by omega),if_neg (by omega),if_pos (by omega),show(34+L*2+1 - 34) / 2=L by omega,show(34+L*2+1 - 34) % 2=1 by omega,if_pos (by omega),if_neg (by omega)]
theorem zGH(p:A5)(xs xb:Int)(n K M:Nat)(o:Value):BL p xs xb n K M o 40=o:=rfl
theorem zFZ(c:L<2->Nil (BM p xs xb n L) (BZ p xs xb n L))(e:L<3):BN p xs xb n (2 - L) = []:=by
 unfold BN;rcases L with _ | _ | L
 · have b:=c (by omega)
   have a:=KW b (by omega);have d:=KW a (by omega);show([] ++ one (BM p xs xb n 2) (BZ p xs xb n 2)) ++ one (BM p xs xb n 1) (BZ p xs xb n 1) = [];unfold one;rw[if_pos d,if_pos a];rfl
 · have b:=c (by omega)
   have a:=KW b (by omega);show [] ++ one (BM p xs xb n 2) (BZ p xs xb n 2) = [];unfold one;rw[if_pos a];rfl
 · obtain rfl:L=0:=by omega
   rfl
theorem Uk(p:A5)(xs xb:Int)(n:Nat)(a:L<3):BN p xs xb n (2 - L+1)=BN p xs xb n (2 - L) ++ one (BM p xs xb n L) (BZ p xs xb n L):=by
 show BN p xs xb n (2 - L) ++ one (BM p xs xb n (2 - (2 - L))) (BZ p xs xb n (2 - (2 - L)))=_;rw[show 2 - (2 - L)=L by omega]
theorem zAK(p:A5)(xs xb:Int)(n k:Nat):(BN p xs xb n k).length<=k:=II _ _ k
theorem QT(p:A5)(xs xb:Int)(n K M:Nat)(a:o.oneCell'=true):(Bt (BL p xs xb n K M o)).all (·.oneCell')=true:=by
 unfold Bt;rw[Array.all_eq_true_iff_forall_mem];intro v hv;simp at hv;obtain⟨i,_,rfl⟩:=hv;unfold BL;split
 · rfl
 split
 · rfl
 split
 · rfl
 · exact a
variable{l:List (Int×Int)}
theorem At.one{base:Nat}(h:At w base v l):v.oneCell'=true:=by
 obtain⟨a,c,rfl,_⟩:=Bh h;rfl
theorem At.setRow{base g:Nat}(h:At w base v l)(d:g<base)(cs:Array Value):At (w.setRow g cs) base v l:=by
 have t:=AE.setRow w g cs;exact h.AD (row:=some g) ⟨t.os,t.tape,t.output,t.size,fun k b a=>t.block k b (fun e=>a (by rw[e]))⟩ (fun q c=>by
  have:=(h.lt c).1;simp only[ne_eq,Option.some.injEq];omega)
theorem Uu(f:Nat->Value):(Tryz.prog.info? 112).map (·.size)=some ((List.range 41).map f).length:=by
 rw[Q0];simp
theorem RE(v:Value)(lo hi:Nat)(p:A5)(xs xb:Int)(n:Nat)(w:World)(h1:CD w lo hi v p.n p.s)(hT:Ai p xs xb)(hn:n<64) :
 Calls Tryz.prog 56 #[v,.agg #[.int .i64 xs,.int .i64 xb],.int .i64 (n:Int)] w fun e w'=>∃o,e = .returned (.agg (Bt (BL p xs xb n 2 3 o)))/\At w' w.heap.size o (BN p xs xb n 3)/\Below w.heap.size w w':=by
 have Hp:=A9 h1;have HT:=A9 hT;obtain⟨_,a,c,rfl,_⟩:=id h1;clear h1 hT;have pE:(n:Int)<64:=by omega
 have nE:0<=(n:Int) % 8:=by omega
 have oE:(n:Int) % 8<8:=by omega
 have eC:=AC w (.cells #[.int .i64 xs,.int .i64 xb] 38);have fB:=AC (w.alloc (.cells #[.int .i64 xs,.int .i64 xb] 38)) (.cells #[.int .i64 0,.int .i64 0,.int .i64 0,.int .i64 0,.int .i64 0,.int .i64 0,.int .i64 0,.int .i64 0,.int .i64 0,.int .i64 0,.int .i64 0,.int .i64 0,.int .i64 0,.int .i64 0,.int .i64 0,.int .i64 0,.int .i64 0,.int .i64 0,.int .i64 0,.int .i64 0,.int .i64 0,.int .i64 0,.int .i64 0,.int .i64 0,.int .i64 0,.int .i64 0,.int .i64 0,.int .i64 0,.int .i64 0,.int .i64 0,.int .i64 0,.int .i64 0,.int .i64 0,.int .i64 0,.int .i64 0,.int .i64 0,.int .i64 0,.int .i64 0,.int .i64 0,.int .i64 0,.slice none 0 0] 112);have U:=A9 ((Ac.new w (.int .i64 xs) (.int .i64 xb) 38).A0 fB);have T:Hid (((w.alloc (.cells #[.int .i64 xs,.int .i64 xb] 38)).alloc (.cells #[.int .i64 0,.int .i64 0,.int .i64 0,.int .i64 0,.int .i64 0,.int .i64 0,.int .i64 0,.int .i64 0,.int .i64 0,.int .i64 0,.int .i64 0,.int .i64 0,.int .i64 0,.int .i64 0,.int .i64 0,.int .i64 0,.int .i64 0,.int .i64 0,.int .i64 0,.int .i64 0,.int .i64 0,.int .i64 0,.int .i64 0,.int .i64 0,.int .i64 0,.int .i64 0,.int .i64 0,.int .i64 0,.int .i64 0,.int .i64 0,.int .i64 0,.int .i64 0,.int .i64 0,.int .i64 0,.int .i64 0,.int .i64 0,.int .i64 0,.int .i64 0,.int .i64 0,.int .i64 0,.slice none 0 0] 112)).heap[w.heap.size+1]?=some (.cells LF 112 (0,0))):=by
  have:=heap_alloc_new (w.alloc (.cells #[.int .i64 xs,.int .i64 xb] 38)) (.cells #[.int .i64 0,.int .i64 0,.int .i64 0,.int .i64 0,.int .i64 0,.int .i64 0,.int .i64 0,.int .i64 0,.int .i64 0,.int .i64 0,.int .i64 0,.int .i64 0,.int .i64 0,.int .i64 0,.int .i64 0,.int .i64 0,.int .i64 0,.int .i64 0,.int .i64 0,.int .i64 0,.int .i64 0,.int .i64 0,.int .i64 0,.int .i64 0,.int .i64 0,.int .i64 0,.int .i64 0,.int .i64 0,.int .i64 0,.int .i64 0,.int .i64 0,.int .i64 0,.int .i64 0,.int .i64 0,.int .i64 0,.int .i64 0,.int .i64 0,.int .i64 0,.int .i64 0,.int .i64 0,.slice none 0 0] 112);rw[World.size_alloc]at this;exact this
 have bA:=A7 eC fB;have G:((w.alloc (.cells #[.int .i64 xs,.int .i64 xb] 38)).alloc (.cells #[.int .i64 0,.int .i64 0,.int .i64 0,.int .i64 0,.int .i64 0,.int .i64 0,.int .i64 0,.int .i64 0,.int .i64 0,.int .i64 0,.int .i64 0,.int .i64 0,.int .i64 0,.int .i64 0,.int .i64 0,.int .i64 0,.int .i64 0,.int .i64 0,.int .i64 0,.int .i64 0,.int .i64 0,.int .i64 0,.int .i64 0,.int .i64 0,.int .i64 0,.int .i64 0,.int .i64 0,.int .i64 0,.int .i64 0,.int .i64 0,.int .i64 0,.int .i64 0,.int .i64 0,.int .i64 0,.int .i64 0,.int .i64 0,.int .i64 0,.int .i64 0,.int .i64 0,.int .i64 0,.slice none 0 0] 112)).heap.size=w.heap.size+2:=by rw[World.size_alloc,World.size_alloc]
 clear eC fB;go_enter Tryz.func56,Tryz.ntmps56;go_wp2;refine zC4 (zIw p (.slice a p.n c) xs xb n w w.heap.size) 6 ?_ ?_ ?_
 ·rintro l a w ⟨B,X,L,_,N,_,_,_,_,_,h | h⟩
  ·have:=h.2.1;omega
  ·have:=h.2.1;omega
 ·clear U T bA G;rintro k l a' d ⟨B,X,L,⟨j,rfl⟩,N,hB,hX,D,hb,hO,⟨rfl,t,hW,hx⟩ | ⟨rfl,t,o,hW,hr⟩⟩
  ·refine⟨_,rfl,?_⟩;have A:=A9 hW;have HX:=A9 hx;have HO:=A9 hO;have Hb:=A9 hb;have Hk:=A9 t;have jD:(L:Int)<3:=(by omega);have iD:B≠X:=(by omega);obtain⟨⟨x0,x1⟩,⟨x2,x3⟩⟩:=hx;obtain⟨y0,y1⟩:=A.out (34+L*2) (by omega);obtain⟨y2,y3⟩:=A.out (34+L*2+1) (by omega);clear hW hO hb t;go_upto_region 4 with fail;have cA:AE (fun k=>k=B) d ((d.setCell ⟨B,34+L*2,none⟩ (.int .i64 (BM p xs xb n L))).setCell ⟨B,34+L*2+1,none⟩ (.int .i64 (BZ p xs xb n L))):=((AE.refl (fun k=>k=B) d).setCell (p:=⟨B,34+L*2,none⟩) rfl _).setCell (p:=⟨B,34+L*2+1,none⟩) rfl _;have I:=A9 (zHT N A.out);have V:=A9 (HX.out.AD cA (by omega));have H:=A9 ((cA.block _ (by omega) (by omega)).trans HO.out);have y:=A9 ((Hb.out.setCell (p:=⟨B,34+L*2,none⟩) (by show _<=B;omega) (.int .i64 (BM p xs xb n L))).setCell (p:=⟨B,34+L*2+1,none⟩) (by show _<=B;omega) (.int .i64 (BZ p xs xb n L)));have r:=Nat.lt_of_lt_of_le D cA.size;clear cA x0 x1 x2 x3 y0 y1 y2 y3;generalize (d.setCell ⟨B,34+L*2,none⟩ (.int .i64 (BM p xs xb n L))).setCell ⟨B,34+L*2+1,none⟩ (.int .i64 (BZ p xs xb n L))=w2 at I V H y r ⊢;clear A HX HO Hb D;obtain⟨⟨x0,x1⟩,⟨x2,x3⟩⟩:=V.out;by_cases g:Nil (BM p xs xb n L) (BZ p xs xb n L)
   ·have HN:=A9 g;rw[g.1]at x0;rw[g.2]at x2;clear g;go_wp2;go_step3;have t:=Hk.out;exact⟨B,X,L,Kn _ rfl,N,hB,hX,r,y.out,H.out,Or.inr ⟨rfl,by omega,.slice none 0 0,So N I.out (fun _=>HN.out),by rw[zFZ (fun _=>HN.out) N];exact At.nil _ _⟩⟩
   ·have HN:=A9 g;by_cases kD:L=2
    ·subst kD;rcases Ju g with e0 | ⟨e0,e1⟩
     all_goals
      clear g;go_wp2;go_step3;have t:=Hk.out;exact⟨B,X,2,Kn _ rfl,N,hB,hX,r,y.out,H.out,Or.inr ⟨rfl,by omega,.slice none 0 0,So N I.out (fun h=>absurd h (by omega)),At.nil _ _⟩⟩
    ·have z:L<2:=(by omega);have mE:((L:Int) == 2)=false:=(by simp;omega);have hK:=(zHx HT.out hn z).resolve_left g;obtain⟨m,hm⟩:=Int.eq_ofNat_of_zero_le hK.1.2.1;have lD:m<p.n:=(by have:=hK.1.2.2.1;omega);have bE:(m:Int)<(p.n:Int):=(by omega);have aD:Hid ((p.s m).kn=8):=by
      have:=hK.2;rw[hm]at this;exact this
     obtain⟨b,off,ka,kc,rfl,iC⟩:=(Hp.out.A0 y.out).cells lD;have HC:=A9 iC;obtain⟨q0,q1,q2,_⟩:=iC;have Hm:=A9 hm;have fC:=Ju g;rw[hm]at x0 fC;clear hm hK g;have vB:Hid ((Tryz.prog.info? 108).map (·.size)=some (B6 (p.s m)).size):=by
      show _=_;rw[B6,Cy];exact GZ
     rcases fC with e0 | ⟨e0,e1⟩
     all_goals
      go_wp2_with fail;refine(OS _ _ _ lo hi (p.s m) _ HC.out.slot (Or.inr aD.out)).mono ?_;rintro e w3 ⟨rfl,E⟩;have rA:=A9 (I.out.A0 E);have tB:=A9 (V.out.A0 E);have oB:=A9 ((E.block _ (by omega)).trans H.out);have tA:=A9 (y.out.trans (E.mono y.out.size));have jA:=Nat.lt_of_lt_of_le r E.size;have sB:Hid (w3.there B (2+L*16) (B6 (p.s m)).size):=by
       have:=rA.out.there (o:=2+L*16) (n:=16) (by omega);rw[<-Cy (BB (p.s m))]at this;exact this
      clear E x0 x1 x2 x3 q0 q1 q2 HC I V H y r;go_upto_region 6 with(refine wpList_store_mid rfl 108 (.tmp 36) (.tmp 34) rfl B (2+L*16) (B6 (p.s m)) rfl rfl sB.out vB.out (IE _) ?_);have Q:=ZV B (B6 (p.s m)).toList (2+L*16) w3;have J:Hid (C9 (w3.setCells B (2+L*16) (B6 (p.s m)).toList) B (BL p xs xb n (L+1) (L+1) (.slice none 0 0))):=by
       have:=zGI z rA.out HN.out;rw[Hm.out]at this;exact this
      have sA:=A9 (tB.out.AD Q (by omega));have pB:=A9 ((Q.block _ (by omega) (by omega)).trans oB.out);have vA:=A9 (tA.out.trans (Q.A0 (B:=w.heap.size) (tA.out.size) (by intro k t;omega)));have kA:=Nat.lt_of_lt_of_le jA Q.size;clear Q rA tB oB tA jA sB;generalize w3.setCells B (2+L*16) (B6 (p.s m)).toList=w4 at J sA pB vA kA ⊢;have rE:=NC (n:=n) (L:=L) hn;have cE:((plc n L:Nat):Int)<8:=(by omega);obtain⟨⟨x0,x1⟩,⟨x2,x3⟩⟩:=sA.out;obtain⟨z0,_⟩:=J.out L (by omega);rw[Y7 p xs xb n _ _ _ z]at z0;obtain⟨y0,_⟩:=J.out (2+L*16+plc n L*2) (by omega);rw[UW p xs xb n _ _ z (by omega),<-(Kh p xs xb n z).1]at y0;obtain⟨y1,_⟩:=J.out (2+L*16+plc n L*2+1) (by omega);rw[Nat.add_assoc,UW p xs xb n _ _ z (by omega),<-(Kh p xs xb n z).2,<-Nat.add_assoc]at y1;have aB:Hid (∀(u v:Value) (w5:World),w5=((w4.drew.setCell ⟨X,0,none⟩ u).setCell ⟨X,1,none⟩ v)->(w5.cell? ⟨B,L,none⟩=some (.int .i64 ((plc n L:Nat):Int))/\w5.cell? ⟨B,2+L*16+plc n L*2,none⟩=some (.int .i64 (BM p xs xb n (L+1)))/\w5.cell? ⟨B,2+L*16+plc n L*2+1,none⟩=some (.int .i64 (BZ p xs xb n (L+1))))):=by
       intro u v w5 e5;have h:=fun o=>(It w4.drew X u v).cell (b:=B) (o:=o) (by show B<w4.heap.size;omega) (by omega)
       rw[e5,h,h,h];exact⟨z0,y0,y1⟩
      have vD:(L:Int)<2:=(by omega);simp only[Act.put];refine wp_region_held_drew (S:=(fun w'=>w'.cell? ⟨B,L,none⟩=some (.int .i64 ((plc n L:Nat):Int))/\w'.cell? ⟨B,2+L*16+plc n L*2,none⟩=some (.int .i64 (BM p xs xb n (L+1)))/\w'.cell? ⟨B,2+L*16+plc n L*2+1,none⟩=some (.int .i64 (BZ p xs xb n (L+1))))) (by kernel_rfl) ?_ (fun hHeld=>?_)
      ·(try dsimp only)
       go_keep
      refine tk 0 (h:=tk 1 (h:=tk 2 (h:=tk 3 (h:=tk 4 (h:=tk 5 (h:=tk 6 (h:=tk 7 (h:=tk 8 (h:=?_)))))))));refine rd [9] (rc (fun K hK=>?_) .nil);go_simp
      (try go_wp2_with fail)
      refine hK.out _ _ (by(try dsimp only);exact aB.out _ _ _ rfl) ?_;clear hK K hHeld;intro hHeld
      try simp only[Act.put,s1,s2,s3]
      refine wpAnyH_done (by kernel_rfl) ?_ _;go_wp2;go_step3;have t:=Hk.out;have dA:AE (fun k=>k=X) w4 ((w4.setCell ⟨X,0,none⟩ (.int .i64 (BM p xs xb n (L+1)))).setCell ⟨X,1,none⟩ (.int .i64 (BZ p xs xb n (L+1)))).drew:=by
       have h:=It w4 X (.int .i64 (BM p xs xb n (L+1))) (.int .i64 (BZ p xs xb n (L+1)));exact⟨h.os,h.tape,h.output,h.size,h.block⟩
      exact⟨B,X,L+1,Kn _ rfl,by omega,hB,hX,Nat.lt_of_lt_of_le kA dA.size,vA.out.trans (dA.A0 (B:=w.heap.size) vA.out.size (by intro k t;omega)),(dA.block _ (by omega) (by omega)).trans pB.out,Or.inl ⟨rfl,by omega,J.out.AD dA (by omega),sA.out.put _ _⟩⟩
  ·refine⟨_,rfl,?_⟩;have A:=A9 hW;have HO:=A9 hO;have Hb:=A9 hb;have Hk:=A9 t;have HR:=A9 hr;have jD:(L:Int)<3:=(by omega);have iD:B≠X:=(by omega);obtain⟨y0,_⟩:=A.out (34+L*2) (by omega);rw[(UX p xs xb n 2 o N).1]at y0;obtain⟨y1,_⟩:=A.out (34+L*2+1) (by omega);rw[(UX p xs xb n 2 o N).2]at y1;clear hW hO hb t hr;obtain⟨wd,jC⟩:=Option.map_eq_some_iff.1 qh;have HU:=A9 jC;clear jC;by_cases g:Nil (BM p xs xb n L) (BZ p xs xb n L)
   ·have HN:=A9 g;rw[g.1]at y0;rw[g.2]at y1;clear g;have f:Hid (At d (X+1) o (BN p xs xb n (2 - L+1))):=by
     have:=HR.out;rw[Uk p xs xb n N];unfold one;rw[if_pos HN.out,List.append_nil];exact this
    have x:=A;have q:=HO;have C:=Hb;have Z:=D;clear A HO Hb HR D;by_cases cB:L=0
    ·subst cB;go_wp2_with (first
      | (refine wpList_load_mid rfl 112 (.tmp 7) rfl B 0 rfl ((List.range 41).map (BL p xs xb n 2 3 o)) wd x.out.range HU.out.1 HU.out.2 (Uu _) ?_)
      | (refine wpList_store_row rfl 112 (.tmp 6) (.tmp 67) rfl (w.heap.size+1) (Bt (BL p xs xb n 2 3 o)) rfl rfl 112 LF q.out (Kg _) (by rw[OR];rfl) (QT _ _ _ _ _ _ f.out.one) ?_)
      | fail)
     unfold hop;dsimp only;refine bodyPost_ret (v:=.agg (Bt (BL p xs xb n 2 3 o))) (results_cell_row (P:=Tryz.prog) (ty:=112) Tryz.results56 _ _ (w.heap.size+1) 112 (Bt (BL p xs xb n 2 3 o)) (0,0) _ rfl (setRow_heap _ _ _ _ _ _ q.out) HU.out.1 (by have:=HU.out.2;cases wd<;>exact this) (Kg _)) rfl ⟨o,rfl,?_,?_⟩
     ·exact(f.out.setRow (by omega) _).mono (by omega)
     ·exact below_setRow C.out (by omega) _
    ·obtain⟨M,rfl⟩:∃M,L=M+1:=⟨L - 1,by omega⟩;have hM:(0:Int)<(M:Int)+1:=(by omega);go_wp2;go_step3;have t:=Hk.out;exact⟨B,X,M,Kn _ rfl,by omega,hB,hX,Z,C.out,q.out,Or.inr ⟨rfl,by omega,o,x.out,by
      have:=f.out;rw[show 2 - (M+1)+1=2 - M by omega]at this;exact this⟩⟩
   ·have HN:=A9 g;obtain⟨oa,oc,rfl,_⟩:=Bh HR.out;have lC:d.cell? ⟨B,40,none⟩=some (.slice oa (BN p xs xb n (2 - L)).length oc):=(A.out 40 (by omega)).1;rcases Ju g with e0 | ⟨e0,e1⟩
    all_goals
     clear g;go_upto_region 9 with fail;have bB:Below d.heap.size d (d.alloc (.cells #[.int .i64 (BM p xs xb n L),.int .i64 (BZ p xs xb n L)] 38)):=AC _ _;have mC:(d.alloc (.cells #[.int .i64 (BM p xs xb n L),.int .i64 (BZ p xs xb n L)] 38)).cell? ⟨B,40,none⟩=some (.slice oa (BN p xs xb n (2 - L)).length oc):=((A.out.A0 bB) 40 (by omega)).1;have R:Hid (Below d.heap.size d (d.alloc (.cells #[.int .i64 (BM p xs xb n L),.int .i64 (BZ p xs xb n L)] 38)).drew):=bB.drew;clear bB;have aC:Hid (At (d.alloc (.cells #[.int .i64 (BM p xs xb n L),.int .i64 (BZ p xs xb n L)] 38)).drew d.heap.size (.slice (some ⟨d.heap.size,0,none⟩) 1 1) [(BM p xs xb n L,BZ p xs xb n L)]):=World.ownsRow_lit (e:=38) (size:=2) d #[.int .i64 (BM p xs xb n L),.int .i64 (BZ p xs xb n L)] 1 (Nat.le_refl _) (by unfold maxLen;omega) rfl
     go_region_law (refine zE9 rfl (.tmp 55) (.tmp 60) rfl (X+1) d.heap.size (.slice oa (BN p xs xb n (2 - L)).length oc) (BN p xs xb n (2 - L)) (by simp[Act.eval]) (HR.out.A0 R.out) (some ⟨d.heap.size,0,none⟩) 1 1 [(BM p xs xb n L,BZ p xs xb n L)] (by simp[Act.eval]) rfl aC.out (by have:=zAK p xs xb n (2 - L);simp;omega) (by have:=R.out.size;omega) ?_;intro v3 w3 gB F;obtain⟨va,vc,rfl,_⟩:=Bh gB;have eB:AE (fun k=>X<k) d w3:=(AE.EH R.out).trans ⟨F.os,F.tape,F.output,F.size,fun k t mD=>F.block k t (fun e=>mD (by have:=(HR.out.lt e.symm).1;omega))⟩;obtain⟨k0,nD⟩:=(A.out.AD eB (by omega)) 40 (by omega);have pA:=A9 eB;have rB:=A9 gB;clear eB gB F)
     all_goals
      have lA:(BN p xs xb n (2 - L) ++ [(BM p xs xb n L,BZ p xs xb n L)]).length=(BN p xs xb n (2 - L)).length+1:=(by simp);have Y:AE (fun k=>X<k\/k=B) d (w3.setCell ⟨B,40,none⟩ (.slice va ((BN p xs xb n (2 - L)).length+1) vc)):=AE.setCell (S:=fun k=>X<k\/k=B) (pA.out.mono (fun k t=>Or.inl t)) (p:=⟨B,40,none⟩) (Or.inr rfl) _;have x:=A9 (zHV (.slice va ((BN p xs xb n (2 - L)).length+1) vc) (A.out.AD pA.out (by omega)));have f:Hid (At (w3.setCell ⟨B,40,none⟩ (.slice va ((BN p xs xb n (2 - L)).length+1) vc)) (X+1) (.slice va ((BN p xs xb n (2 - L)).length+1) vc) (BN p xs xb n (2 - L+1))):=by
       have:=rB.out.put (b:=B) (o:=40) (by omega) (.slice va ((BN p xs xb n (2 - L)).length+1) vc);rw[lA]at this;rw[Uk p xs xb n N];unfold one;rw[if_neg HN.out];exact this
      have q:=A9 ((Y.block _ (by omega) (by omega)).trans HO.out);have C:=A9 (Hb.out.trans (Y.A0 (B:=w.heap.size) Hb.out.size (by intro k t;omega)));have Z:=Nat.lt_of_lt_of_le D Y.size;clear Y rB pA R aC mC lC A HO Hb HR D k0 nD lA y0 y1;generalize w3.setCell ⟨B,40,none⟩ (.slice va ((BN p xs xb n (2 - L)).length+1) vc)=w4 at x f q C Z ⊢;generalize Value.slice va ((BN p xs xb n (2 - L)).length+1) vc=oq at x f ⊢;by_cases cB:L=0
      ·subst cB;go_wp2_with (first
        | (refine wpList_load_mid rfl 112 (.tmp 7) rfl B 0 rfl ((List.range 41).map (BL p xs xb n 2 3 oq)) wd x.out.range HU.out.1 HU.out.2 (Uu _) ?_)
        | (refine wpList_store_row rfl 112 (.tmp 6) (.tmp 67) rfl (w.heap.size+1) (Bt (BL p xs xb n 2 3 oq)) rfl rfl 112 LF q.out (Kg _) (by rw[OR];rfl) (QT _ _ _ _ _ _ f.out.one) ?_)
        | fail)
       unfold hop;dsimp only;refine bodyPost_ret (v:=.agg (Bt (BL p xs xb n 2 3 oq))) (results_cell_row (P:=Tryz.prog) (ty:=112) Tryz.results56 _ _ (w.heap.size+1) 112 (Bt (BL p xs xb n 2 3 oq)) (0,0) _ rfl (setRow_heap _ _ _ _ _ _ q.out) HU.out.1 (by have:=HU.out.2;cases wd<;>exact this) (Kg _)) rfl ⟨oq,rfl,?_,?_⟩
       ·exact(f.out.setRow (by omega) _).mono (by omega)
       ·exact below_setRow C.out (by omega) _
      ·obtain⟨M,rfl⟩:∃M,L=M+1:=⟨L - 1,by omega⟩;have hM:(0:Int)<(M:Int)+1:=(by omega);go_wp2;go_step3;have t:=Hk.out;exact⟨B,X,M,Kn _ rfl,by omega,hB,hX,Z,C.out,q.out,Or.inr ⟨rfl,by omega,oq,x.out,by
        have:=f.out;rw[show 2 - (M+1)+1=2 - M by omega]at this;exact this⟩⟩
 ·intro enter;go_upto_region 1 with fail;generalize (w.alloc (.cells #[.int .i64 xs,.int .i64 xb] 38)).alloc (.cells #[.int .i64 0,.int .i64 0,.int .i64 0,.int .i64 0,.int .i64 0,.int .i64 0,.int .i64 0,.int .i64 0,.int .i64 0,.int .i64 0,.int .i64 0,.int .i64 0,.int .i64 0,.int .i64 0,.int .i64 0,.int .i64 0,.int .i64 0,.int .i64 0,.int .i64 0,.int .i64 0,.int .i64 0,.int .i64 0,.int .i64 0,.int .i64 0,.int .i64 0,.int .i64 0,.int .i64 0,.int .i64 0,.int .i64 0,.int .i64 0,.int .i64 0,.int .i64 0,.int .i64 0,.int .i64 0,.int .i64 0,.int .i64 0,.int .i64 0,.int .i64 0,.int .i64 0,.int .i64 0,.slice none 0 0] 112)=W at U T bA G ⊢;have aA:=AC W (.cells (Fr n) 112);have cD:=A9 (U.out.A0 aA);have dD:=A9 (zHU W n);have bD:=A9 ((aA.block _ (by omega)).trans T.out);have gD:=A7 bA aA;have kC:(W.alloc (.cells (Fr n) 112)).heap.size=w.heap.size+3:=(by rw[World.size_alloc,G]);obtain⟨⟨x0,x1⟩,⟨x2,x3⟩⟩:=cD.out;have eD:=A9 G;clear aA U T bA G;go_wp2_with (first
   | (refine wpList_store_row rfl 112 (.tmp 7) (.tmp 15) rfl W.heap.size (Fr n) rfl rfl 112 LF (heap_alloc_last _ _) (zEI n) rfl (zGG n) ?_;rw[World.setRow_alloc_new])
   | fail)
  go_step3
  rename_i K hK
  refine hK _ _ (enter 0 _ _ _ rfl ?_);clear hK;have G:=eD.out;have O:=AC (W.alloc (.cells (Fr n) 112)) (.cells #[.int .i64 xs,.int .i64 xb] 38);refine⟨W.heap.size,w.heap.size+3,0,Kn _ rfl,by omega,by omega,by omega,by rw[World.size_alloc,kC];omega,A7 gD O,?_,Or.inl ⟨rfl,by omega,?_,?_⟩⟩
  ·exact(O.block _ (by omega)).trans bD.out
  ·exact(dD.out.A0 O).congr fun i hi=>zGJ p xs xb n hi
  ·have:=Ac.new (W.alloc (.cells (Fr n) 112)) (.int .i64 xs) (.int .i64 xb) 38;rw[kC]at this;exact this
open Classical in
def roomN(f:Nat->AG):Nat->Nat
 | 0=>0
 | k+1=>roomN f k+(if Ag (f k)then 1 else 0)
variable{f:Nat->AG}{k:Nat}
theorem Jl(h:Ag (f k)):roomN f (k+1)=roomN f k+1:=by simp[roomN,h]
theorem J2(h:¬Ag (f k)):roomN f (k+1)=roomN f k:=by simp[roomN,h]
theorem O1(f:Nat->AG):∀k,roomN f k<=k
 | 0=>Nat.le_refl _
 | k+1=>by
  have:=O1 f k;by_cases h:Ag (f k)
  ·rw[Jl h];omega
  ·rw[J2 h];omega
open Classical in
def Mp(p:A5):Int:=if AY p then(roomN p.s p.n:Int)else 0
theorem Ge(p:A5)(i:Nat)(s:AG):(Aq p i s).s i=s:=if_pos rfl
theorem Gl(p:A5){j:Nat}(s:AG)(h:j≠i):(Aq p i s).s j=p.s j:=if_neg h
variable{s:AG}
theorem L0(hi:Ag (p.s i))(h:B5 p xs xb):B5 (Aq p i s) xs xb:=by
 obtain⟨c,d,f,b⟩:=h;refine⟨c,d,f,?_⟩;have a:xs.toNat≠i:=fun e=>by
  rw[e]at b;have:=hi.1;omega
 rw[Gl p s a];exact b
theorem Ul{t:AG}(hi:Ag (p.s i))(h:Bm p t):Bm (Aq p i s) t:=by
 refine⟨h.1,?_⟩;rcases h.2 with a | a
 ·exact Or.inl a
 ·refine Or.inr ⟨a.1,a.2.1,fun m c=>?_⟩;rcases a.2.2 m c with b | b
  ·exact Or.inl b
  ·exact Or.inr ⟨L0 hi b.1,b.2⟩
theorem Jk(a:AY p)(hi:BU p.n p.s i)(hs:Bm p s):AY (Aq p i s):=by
 refine⟨a.1,fun j b=>?_,fun j b=>?_⟩
 ·by_cases e:j=i
  ·rw[e,Ge];exact Or.inr (Ul hi.2.1 hs)
  ·rw[Gl p s e];rcases a.2.1 j b with h | h
   ·exact Or.inl h
   ·exact Or.inr (Ul hi.2.1 h)
 ·obtain⟨f,g,d,k⟩:=a.2.2 j b;refine⟨f,g,?_,k⟩;have c:(p.h j).toNat≠i:=fun e=>d (by rw[e];exact hi.2.1)
  show ¬Ag ((Aq p i s).s (p.h j).toNat);rw[Gl p s c];exact d
theorem GI(h:Bm p s):¬Ag s:=fun a=>by
 have:=a.1;have:=h.1.1;omega
theorem U6{p:A5}{i:Nat}{s:AG}(hi:Ag (p.s i))(hs:¬Ag s):∀n,roomN (Aq p i s).s n+(if i<n then 1 else 0)=roomN p.s n
 | 0=>rfl
 | n+1=>by
  have f:=U6 hi hs n;by_cases e:n=i
  ·subst e;rw[if_pos (by omega)];rw[if_neg (by omega)]at f;rw[J2 (by rw[Ge];exact hs),Jl hi];omega
  ·have a:(Aq p i s).s n=p.s n:=Gl p s e;have c:(if i<n+1 then 1 else 0)=(if i<n then 1 else 0):=by
    by_cases d:i<n
    ·rw[if_pos d,if_pos (by omega)]
    ·rw[if_neg d,if_neg (by omega)]
   rw[c];by_cases b:Ag (p.s n)
   ·rw[Jl (by rw[a];exact b),Jl b];omega
   ·rw[J2 (by rw[a];exact b),J2 b];exact f
def As(w:World)(b:Nat)(v0 v1 v2 v3 v4 v5:Value):Prop:=AN w b 0 v0/\AN w b 1 v1/\AN w b 2 v2/\AN w b 3 v3/\AN w b 4 v4/\AN w b 5 v5
variable{b:Nat}{v0 v1 v2 v3 v4 v5:Value}
theorem As.c(h:As w b v0 v1 v2 v3 v4 v5):w.cell? ⟨b,0,none⟩=some v0/\w.cell? ⟨b,1,none⟩=some v1/\w.cell? ⟨b,2,none⟩=some v2/\w.cell? ⟨b,3,none⟩=some v3/\w.cell? ⟨b,4,none⟩=some v4/\w.cell? ⟨b,5,none⟩=some v5:=
 ⟨h.1.1,h.2.1.1,h.2.2.1.1,h.2.2.2.1.1,h.2.2.2.2.1.1,h.2.2.2.2.2.1⟩
theorem As.A0(h:As w b v0 v1 v2 v3 v4 v5)(t:Below w.heap.size w w'):As w' b v0 v1 v2 v3 v4 v5:=⟨h.1.A0 t,h.2.1.A0 t,h.2.2.1.A0 t,h.2.2.2.1.A0 t,h.2.2.2.2.1.A0 t,h.2.2.2.2.2.A0 t⟩
theorem As.AD(h:As w b v0 v1 v2 v3 v4 v5)(t:AE S w w')(hs:¬S b):As w' b v0 v1 v2 v3 v4 v5:=⟨h.1.AD t hs,h.2.1.AD t hs,h.2.2.1.AD t hs,h.2.2.2.1.AD t hs,h.2.2.2.2.1.AD t hs,h.2.2.2.2.2.AD t hs⟩
theorem As.new(w:World)(b v1 c d e f:Value)(t:TypeId):As (w.alloc (.cells #[b,v1,c,d,e,f] t)) w.heap.size b v1 c d e f:=by
 have a:(w.alloc (.cells #[b,v1,c,d,e,f] t)).heap[w.heap.size]?=some (.cells #[b,v1,c,d,e,f] t):=heap_alloc_new _ _;exact⟨Au a rfl,Au a rfl,Au a rfl,Au a rfl,Au a rfl,Au a rfl⟩
abbrev put6(w:World)(b:Nat)(u0 u1 u2 u3 u4 u5:Value):World:=(((((w.setCell ⟨b,0,none⟩ u0).setCell ⟨b,1,none⟩ u1).setCell ⟨b,2,none⟩ u2).setCell ⟨b,3,none⟩ u3).setCell ⟨b,4,none⟩ u4).setCell ⟨b,5,none⟩ u5
theorem As.put(h:As w b v0 v1 v2 v3 v4 v5)(a d u2 u3 u4 f:Value):As (put6 w b a d u2 u3 u4 f) b a d u2 u3 u4 f:=
 have H (i:Nat) (u v:Value) (e:[a,d,u2,u3,u4,f][i]?=some u) (c:AN w b i v):AN (put6 w b a d u2 u3 u4 f) b i u:=Li [a,d,u2,u3,u4,f] w 0 i i e (Nat.zero_add i) c
 ⟨H 0 _ _ rfl h.1,H 1 _ _ rfl h.2.1,H 2 _ _ rfl h.2.2.1,H 3 _ _ rfl h.2.2.2.1,H 4 _ _ rfl h.2.2.2.2.1,H 5 _ _ rfl h.2.2.2.2.2⟩
theorem AE.put6(w:World)(b:Nat)(a c u2 u3 u4 d:Value):AE (fun k=>k=b) w (put6 w b a c u2 u3 u4 d):=
 (((((AE.put w b 0 a).trans (AE.put _ b 1 c)).trans (AE.put _ b 2 u2)).trans (AE.put _ b 3 u3)).trans (AE.put _ b 4 u4)).trans (AE.put _ b 5 d)
def AX(p:A5)(xs xb:Int)(n L:Nat)(x:Int)(i:Nat):Int:=if i=plc n L then x else BV p (BM p xs xb n L) (BZ p xs xb n L) i
def AW(p:A5)(xs xb:Int)(n L:Nat)(y:Int)(i:Nat):Int:=if i=plc n L then y else Ba p (BM p xs xb n L) (BZ p xs xb n L) i
def JJ(p:A5)(xs xb:Int)(n:Nat)(b:Int)(o:Dm)(L:Nat):Dm:=GP o.pool (AX p xs xb n L o.ps) (AW p xs xb n L o.pb) b
def layS(p:A5)(xs xb:Int)(n:Nat)(b:Int)(o:Dm):Nat->Dm
 | 0=>o
 | k+1=>JJ p xs xb n b (layS p xs xb n b o k) (1 - k)
theorem Xu:An (Ck 0)=0:=rfl
theorem Rb(p:A5)(s:AG):An (By p s).pool<=An p+Cf s:=by
 unfold By;split
 ·split
  ·exact XG _ _ _
  ·show An (Ck 0)<=_;rw[Xu];omega
 ·show An (Ck 0)<=_;rw[Xu];omega
theorem zAj(p:A5)(f g:Nat->Int)(b:Int):An (GP p f g b).pool<=An p+8:=by
 unfold GP;split
 ·show An p<=_;omega
 ·exact Rb p (BJ f g b)
theorem Qr(p:A5)(xs xb:Int)(n:Nat)(b:Int)(o:Dm):∀k,An (layS p xs xb n b o k).pool<=An o.pool+8*k
 | 0=>Nat.le_refl _
 | k+1=>by
  have a:=Qr p xs xb n b o k;have c:=zAj (layS p xs xb n b o k).pool (AX p xs xb n (1 - k) (layS p xs xb n b o k).ps) (AW p xs xb n (1 - k) (layS p xs xb n b o k).pb) b;show An (GP _ _ _ _).pool<=_;omega
theorem zDR(b:L<2)(h:C9 w B (BL p xs xb n 2 M o)):w.rangeAt B (2+L*16) (Aj (Ct p xs xb n L)).toList:=fun j v hv=>by
 have a:j<16:=by
  have:=(List.getElem?_eq_some_iff.1 hv).1;simpa[Cy]using this
 have e:(Aj (Ct p xs xb n L)).toList[j]?=some (.int .i64 (Ct p xs xb n L j)):=by rw[Array.getElem?_toList];exact ED (Ct p xs xb n L) a
 rw[e]at hv;simp only[Option.some.injEq]at hv;rw[<-hv,(h (2+L*16+j) (by omega)).1];unfold BL;rw[if_neg (by omega),if_pos (by omega),show(2+L*16+j - 2) / 16=L by omega,show(2+L*16+j - 2) % 16=j by omega,if_pos (by omega)]
theorem zGC(p:A5)(xs xb:Int)(n L:Nat)(x y:Int)(hn:n<64):Aj (fun j=>if j=plc n L*2 then x else if j=plc n L*2+1 then y else Ct p xs xb n L j)=Aj (mix (AX p xs xb n L x) (AW p xs xb n L y)):=by
 refine XV fun j d=>?_
 unfold mix AX AW;by_cases a:j=plc n L*2
 ·rw[if_pos a,if_pos (by omega),if_pos (by omega)]
 rw[if_neg a];by_cases b:j=plc n L*2+1
 ·rw[if_pos b,if_neg (by omega),if_pos (by omega)]
 rw[if_neg b];unfold Ct BV Ba AH AT;by_cases c:j % 2=0
 ·rw[if_pos c,if_neg (show ¬j / 2=plc n L by omega),show j / 2*2=j by omega]
 ·rw[if_neg c,if_neg (show ¬j / 2=plc n L by omega),show j / 2*2+1=j by omega]
structure D4 where
 pool:A5
 rs:Int
 rb:Int
 old:List (Int×Int)
 code:Int
def DB(c:Int):D4:=⟨Ck 0,0,0,[],c⟩
def Lq(t:D4)(w:World)(e:Ending)(w':World):Prop:=
 ∃v0 v1 vo lo hi,e = .returned (.agg #[v0,v1,.int .i64 t.rs,.int .i64 t.rb,vo,.int .i64 t.code])/\w.heap.size<=lo/\hi<=w'.heap.size/\Bo w' lo hi v0 v1 t.pool/\At w' w.heap.size vo t.old/\(∀k,vo.ownBlock=some k->k<lo\/hi<=k)/\Below w.heap.size w w'
open Classical in
def Bn(p:A5)(xs xb:Int)(n:Nat)(b:Int)(o:Dm):D4:=
 if (layS p xs xb n b o 1).code≠0 then DB (layS p xs xb n b o 1).code
 else if (layS p xs xb n b o 2).code≠0 then DB (layS p xs xb n b o 2).code
 else⟨(layS p xs xb n b o 2).pool,(layS p xs xb n b o 2).ps,(layS p xs xb n b o 2).pb,BN p xs xb n 3,0⟩
theorem Lf{b:Int}{o:Dm}(d:k<2)(h:∀j,j<=k->(layS p xs xb n b o j).code=0)(a:(layS p xs xb n b o (k+1)).code≠0):Bn p xs xb n b o=DB (layS p xs xb n b o (k+1)).code:=by
 unfold Bn;rcases k with _ | _ | k
 ·rw[if_pos a]
 ·rw[if_neg (fun c=>c (h 1 (by omega))),if_pos a]
 ·omega
theorem Nu{b:Int}{o:Dm}(h:∀j,j<=2->(layS p xs xb n b o j).code=0):Bn p xs xb n b o=⟨(layS p xs xb n b o 2).pool,(layS p xs xb n b o 2).ps,(layS p xs xb n b o 2).pb,BN p xs xb n 3,0⟩:=by
 unfold Bn;rw[if_neg (fun a=>a (h 1 (by omega))),if_neg (fun a=>a (h 2 (by omega)))]
end
end Go.Proofs.YtehdoekmnicdiaaGreatDoor

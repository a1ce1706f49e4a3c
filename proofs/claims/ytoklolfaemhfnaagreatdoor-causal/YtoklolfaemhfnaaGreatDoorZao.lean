import Derived.Deep.RegionLaw
import Derived.Test.YtoklolfaemhfnaaGreatDoorZan
set_option maxRecDepth 100000
set_option maxHeartbeats 0
set_option linter.defProp false
open Go.Proofs.Tryz (prog)
namespace Go.Proofs.YtoklolfaemhfnaaGreatDoor
section
open Go.RowKit
variable {rb base X j:Nat}{w w' wr w2 w3:World}{l l3:List UInt8}{vs:List Value}{tv v mv u:Value}{o:Obj}{a:Act}
def IA:(prog.info? 179).map (fun i=>(i.zero,i.size,i.bytes))=some (some (.agg #[J 0,J 0,sN,.string ⟨#[]⟩]),4,56):=κ
def aI:List Codec.Msg->List Value->List Value
 |m::ms,tv::tvs=>[J m.a,J m.seq,tv,.string m.b]++aI ms tvs
 |_,_=>[]
def qP(c:List Codec.Msg):∀(b:List Value) (m:Codec.Msg) (d:Value),b.length=c.length->
 aI (c++[m]) (b++[d])=aI c b++[J m.a,J m.seq,d,.string m.b]:=by
 induction c with
 |nil=>intro b m d h;have:=Lv h;subst this;simp[aI]
 | cons x c e =>
   intro b m d h;cases b with
   |nil=>simp at h
   |cons y b=>simp[aI,e b m d ν]
def gf(vs:List Value):Prop:=vs.Pairwise (fun a b=>∀g,a.ownBlock=some g->b.ownBlock≠some g)
def gf.b(H:Nat)(h:gf vs)(d:∀v∈vs,∀g,v.ownBlock=some g->g<H)(c:∀g,tv.ownBlock=some g->H<=g):gf (vs++[tv]):=by
 unfold gf;rw[List.pairwise_append];refine⟨h,List.pairwise_singleton _ _,fun a k b f g i e=>?_⟩;grind
def gf.c{b:Value}(H:Nat)(h:gf (v::vs))(d:∀x∈vs,∀g,x.ownBlock=some g->g<H)(c:b.ownBlock=v.ownBlock\/∃g,b.ownBlock=some g/\H<=g):gf (b::vs):=by
 unfold gf at h ⊢;rw[K9] at h ⊢;grind
def kj(w:World)(base:Nat)(v:Value)(ms:List Codec.Msg)(tvs:List Value):Prop:=
 tvs.length=ms.length/\w.ownsRow base 179 4 v ms.length (aI ms tvs)/\∀(k:Nat) (m:Codec.Msg) (tv:Value),ms[k]?=some m->tvs[k]?=some tv->w.ownsRow base 3 1 tv m.c.length (ints m.c)
structure dn (w:World) (base:Nat) (f:Codec.Frame) (rv cv mv:Value) (tvs:List Value):Prop where
 row:w.ownsRow base 3 1 rv f.g.length (ints f.g)
 cut:w.ownsRow base 3 1 cv f.i.length (ints f.i)
 msgs:kj w base mv f.d tvs
 c:gf (mv::rv::cv::tvs)
def cI.i(h:cI w.drew w' rb l):cI w w' rb l:=⟨h.1,h.2.os,h.2.tape,h.2.output,h.2.size,h.2.block⟩
def zq{m:Nat}{b:List UInt8}{z:Codec.Msg}(h:Codec.Cz l=(z,b)):Codec.jD (m+1) l=(z::(Codec.jD m b).1,(Codec.jD m b).2):=by
 rw[Codec.jD,h]
def zn(l:List UInt8):(Codec.Cz l).2.length<=l.length:=by
 unfold Codec.Cz;exact yr (zz _) (yr (jd _).2 (yr (aN _).2.2 (aN _).2.2))
def qh{n f:Nat}{e:TypeId}{d:List Value}(h:wr.ownsRow base e f v n d)(i:cI wr w2 rb l3)(c:rb<base)
 (p:∀g,mv.ownBlock=some g->v.ownBlock≠some g) (b:(w2.alloc o).grownBy w3 mv.ownBlock) (k:X<base):(w3.setCell ⟨X,j,none⟩ u).ownsRow base e f v n d:=by
 refine ownsRow_setCell_below (((eK h i c).alloc o).kept b ?_) k u;rcases m:v.ownBlock with _|g
 ·simp
 grind
def Ga{R Q g s:Nat}{n p:Value}{C E:List Value}{b:List Codec.Msg}{c:List Value}{m:Codec.Msg}
 (K:kj wr base mv b c) (D:gf (mv::n::p::c)) (N:wr.ownsRow base 3 1 n R C) (S:wr.ownsRow base 3 1 p Q E) (H:cI wr w2 rb l3) (z:rb<base)
 (I:w2.ownsRow wr 3 1 tv m.c.length (ints m.c)) (r:base<=wr)
 (t:w3.ownsRow base 179 4 (sT g (b.length+1) s) (b.length+1) (aI b c++[J m.a,J m.seq,tv,.string m.b]))
 (d:(w2.alloc o).grownBy w3 mv.ownBlock) (L:mv.ownBlock=some g\/g=w2.heap.size+1) (B:X<base) :
 kj (w3.setCell ⟨X,j,none⟩ u) base (sT g (b.length+1) s) (b++[m]) (c++[tv])/\gf (sT g (b.length+1) s::n::p::(c++[tv]))/\
  (w3.setCell ⟨X,j,none⟩ u).ownsRow base 3 1 n R C/\(w3.setCell ⟨X,j,none⟩ u).ownsRow base 3 1 p Q E:=by
 obtain⟨G,O,P⟩:=K;have Z:=H.c;have F:=D;unfold gf at F;rw[K9] at F;have Y:∀(k:Nat) (x:Value),c[k]?=some x->∃y:Codec.Msg,b[k]?=some y:=fun k x A=>by
  have:=(ym.1 A).1;simp_all
 refine⟨⟨ν,?_,?_⟩,?_,?_,?_⟩
 ·rw[qP b c m tv G];have:=ownsRow_setCell_below (a:=(aT X j)) t B u;simpa using this
 ·intro k y x q f;by_cases A:k<b.length
  ·rw[y7 A] at q;rw[y7 ω] at f;exact qh (P k y x q f) H z (fun g i e=>F.1 x ν g i e) d B
  ·rw[Fl ω] at q;rw[Fl ω] at f;have M:k - b.length=0:=by
    rcases Lg _ with h|h
    ·exact h
    ·grind
   rw[M] at q;rw[show k - c.length=0 from ω] at f;simp at q f;subst q f;refine ownsRow_setCell_below (((aD I r).alloc o).kept d ?_) B u;rcases W:tv.ownBlock with _|T
   ·simp
   ·right;intro e;have V:=(I.lt T W).1;have h2:=(O.lt T e.symm).2;omega
 ·have V:∀x∈n::p::c,∀g,x.ownBlock=some g->g<wr.heap.size:=by
   intro x f g i;simp at f;rcases f with rfl|rfl|f
   ·exact(N.lt g i).2
   ·exact(S.lt g i).2
   ·obtain⟨k,A⟩:=Kp.1 f;obtain⟨y,q⟩:=Y k x A;exact((P k y x q A).lt g i).2
  have U:gf (mv::n::p::(c++[tv])):=by
   have:gf ((mv::n::p::c)++[tv]):=D.b wr.heap.size (fun x f=>by
    rcases yF.1 f with rfl|f
    ·exact fun g i=>(O.lt g i).2
    grind) (fun g i=>(I.lt g i).1)
   simpa using this
  refine U.c (w2.heap.size+1) ?_ ?_
  ·intro x f g i;simp at f;rcases f with rfl|rfl|f|rfl
   ·grind
   ·grind
   ·grind
   ·have:=(I.lt g i).2;omega
  ·rcases L with e|e
   ·exact .inl (by rw[e];rfl)
   ·exact .inr ⟨g,rfl,ω⟩
 ·exact qh N H z (fun g i e=>F.1 n ς g i e) d B
 ·exact qh S H z (fun g i e=>F.1 p ς g i e) d B
def zv{o:Oper}(w:World)(x:Operand)(b:o.op=Op.call { callee:=.value (.func 203),args:=#[x],argTypes:=#[241] }) :
 (execOp a.eval o).run prog w=.ok (.enter 203 #[a.eval x]) w:=by
 unfold execOp;rw[b];simp[go_sem]
def wS{b:Array Oper}{o:Oper}{K:Act->World->Prop}{Q:Exit->Act->World->Prop}{E:Prop}(m:o.guard=none)(x:Operand)
 (d:o.op=Op.call { callee:=.value (.func 203),args:=#[x],argTypes:=#[241] }) (v:Value) (f:a.eval x=v) (R:Ending->World->Prop) (k:Calls prog 203 #[v] w R)
 (h:∀e c,R e c->∃r,e=.returned r/\K (a.put o.dst r) c) :
 if Region.wanted o (yielded b a.tmps)=true then Oper.wp prog o a w K Q else E:=by
 have g:Region.wanted o (yielded b a.tmps)=true:=by simp[Region.wanted,m]
 rw[if_pos g];unfold Oper.wp;rw[zv w x d,f];refine k.mono (fun e c i=>?_);obtain⟨r,rfl,n⟩:=h e c i;exact n
def jT(l l2:List UInt8)(f:Codec.Frame)(A:Nat)(w:World)(hz:Codec.bO l=(f,l2))(h:kz w A l)(hl:l.length<=140737488351232) :
 Calls prog 167 #[pT A 0] w fun e w'=>∃rv cv mv S,e=.returned (.agg #[J f.c,J f.f,J f.j,J f.b,J f.h,J f.a,J f.e,rv,cv,mv])/\
  dn w' w.heap.size f rv cv mv S/\cI w w' A l2:=by
 obtain⟨E,l0,h0⟩:∃n r,Codec.eW l=(n,r):=⟨_,_,rfl⟩;obtain⟨B,l1,h1⟩:∃n r,Codec.eW l0=(n,r):=⟨_,_,rfl⟩;obtain⟨C,a4,h2⟩:∃n r,Codec.eW l1=(n,r):=⟨_,_,rfl⟩;obtain⟨F,l3,h3⟩:∃n r,Codec.eW a4=(n,r):=⟨_,_,rfl⟩;obtain⟨H,l4,h4⟩:∃n r,Codec.ky l3=(n,r):=⟨_,_,rfl⟩;obtain⟨I,l5,h5⟩:∃n r,Codec.ky l4=(n,r):=⟨_,_,rfl⟩;obtain⟨T,l6,h6⟩:∃n r,Codec.ky l5=(n,r):=⟨_,_,rfl⟩;obtain⟨x7,l7,h7⟩:∃n r,Codec.mW l6=(n,r):=⟨_,_,rfl⟩;obtain⟨x8,l8,h8⟩:∃n r,Codec.mW l7=(n,r):=⟨_,_,rfl⟩;obtain⟨x9,l9,h9⟩:∃n r,Codec.eW l8=(n,r):=⟨_,_,rfl⟩;have d7:=(aN l).2.2;have d6:=(aN l0).2.2;have b7:=(aN l1).2.2;have b1:=(aN a4).2.2;have d8:=lH l3;have d1:=lH l4;have b5:=lH l5;have b3:=(jd l6).2;have d0:=(jd l7).2;have a5:=aN l8;rw[h0] at d7;rw[h1] at d6;rw[h2] at b7;rw[h3] at b1;rw[h4] at d8;rw[h5] at d1;rw[h6] at b5;rw[h7] at b3;rw[h8] at d0;rw[h9] at a5;obtain⟨a8,d9,a5⟩:=a5;simp only at d7 d6 b7 b1 d8 d1 b5 b3 d0 a5 a8 d9;obtain⟨n,rfl⟩:=Fi a8;obtain⟨ms,e4,a9⟩:∃ms r,Codec.jD n l9=(ms,r):=⟨_,_,rfl⟩;have e:Codec.bO l=(⟨E,B,C,F,H,I,T,x7,x8,ms⟩,e4):=by simp only[Codec.bO,h0,h1,h2,h3,h4,h5,h6,h7,h8,h9,CM,a9]
 rw[e] at hz;injection hz with hm hl2;subst hm;subst hl2;simp only;have H0:Hid (_=_):=h0;have H1:Hid (_=_):=h1;have H2:Hid (_=_):=h2;have H3:Hid (_=_):=h3;have H4:Hid (_=_):=h4;have H5:Hid (_=_):=h5;have H6:Hid (_=_):=h6;have H7:Hid (_=_):=h7;have H8:Hid (_=_):=h8;have H9:Hid (_=_):=h9;have f5:Hid (_=_):=a9;clear h0 h1 h2 h3 h4 h5 h6 h7 h8 h9 a9 e a8;have f6:=h.c;have x:w.heap.size+1≠A:=ω;have t:w.heap.size≠A:=ω;have s:w.heap.size+1≠w.heap.size:=ω;obtain⟨i0,hi,f4,f0,e8⟩:=info_parts IA;obtain⟨Z,hZ⟩:∃Z:Array _,Z=#[J 0,J 0,J 0,J 0,J 0,J 0,J 0,sN,sN,sN]:=⟨_,rfl⟩;have R0:cI w ((w.alloc (.cells Z 165)).alloc (.cells Z 165)) A l:=((cI.h h).d _).d _;have V0:=af.d (w.alloc (.cells Z 165)) (w.heap.size+1) ς 165 Z;have D0:=(af.d w _ rfl 165 Z).g (.cells Z 165);rw[hZ] at R0 V0 D0;clear hZ;go_enter Tryz.func167,Tryz.ntmps167
 go_wp2_with fail
 refine(cT l E l0 A _ H0.out R0.1 hl).mono ?_;rintro e w1 ⟨rfl,r1⟩;have R1:=R0.b r1;have V1:=V0.rd r1 x;have D1:=D0.rd r1 t;clear R0 V0 D0 r1;have c:=V1.a 0 _ rfl;have f:=V1.b 0;go_wp2_with fail
 replace R1:=R1.a (show w.heap.size<=w+1 by omega) x 0 (J E);replace V1:=V1.e 0 (J E);replace D1:=D1.h s.symm 0 (J E);refine(cT l0 B l1 A _ H1.out R1.1 ω).mono ?_;rintro e w2 ⟨rfl,r2⟩;have R2:=R1.b r2;have V2:=V1.rd r2 x;have D2:=D1.rd r2 t;clear R1 V1 D1 r2 c f;have c:=V2.a 1 _ rfl;have f:=V2.b 1;go_wp2_with fail
 replace R2:=R2.a (show w.heap.size<=w+1 by omega) x 1 (J B);replace V2:=V2.e 1 (J B);replace D2:=D2.h s.symm 1 (J B);refine(cT l1 C a4 A _ H2.out R2.1 ω).mono ?_;rintro e w3 ⟨rfl,r3⟩;have R3:=R2.b r3;have V3:=V2.rd r3 x;have D3:=D2.rd r3 t;clear R2 V2 D2 r3 c f;have c:=V3.a 2 _ rfl;have f:=V3.b 2;go_wp2_with fail
 replace R3:=R3.a (show w.heap.size<=w+1 by omega) x 2 (J C);replace V3:af _ _ 165 #[J E,J B,J C,J 0,J 0,J 0,J 0,sN,sN,sN]:=V3.e 2 (J C);replace D3:=D3.h s.symm 2 (J C);refine(cT a4 F l3 A _ H3.out R3.1 ω).mono ?_;rintro e w4 ⟨rfl,r4⟩;have R4:=R3.b r4;have V4:=V3.rd r4 x;have D4:=D3.rd r4 t;clear R3 V3 D3 r4 c f;have c:=V4.a 3 _ rfl;have f:=V4.b 3;go_wp2_with fail
 replace R4:=R4.a (show w.heap.size<=w+1 by omega) x 3 (J F);replace V4:af _ _ 165 #[J E,J B,J C,J F,J 0,J 0,J 0,sN,sN,sN]:=V4.e 3 (J F);replace D4:=D4.h s.symm 3 (J F);refine(uc l3 l4 H A _ H4.out R4.1 ω).mono ?_;rintro e w5 ⟨rfl,r5⟩;have R5:=R4.b r5;have V5:=V4.rd r5 x;have D5:=D4.rd r5 t;clear R4 V4 D4 r5 c f;have c:=V5.a 4 _ rfl;have f:=V5.b 4;go_wp2_with fail
 replace R5:=R5.a (show w.heap.size<=w+1 by omega) x 4 (J H);replace V5:af _ _ 165 #[J E,J B,J C,J F,J H,J 0,J 0,sN,sN,sN]:=V5.e 4 (J H);replace D5:=D5.h s.symm 4 (J H);refine(uc l4 l5 I A _ H5.out R5.1 ω).mono ?_;rintro e w6 ⟨rfl,r6⟩;have R6:=R5.b r6;have V6:=V5.rd r6 x;have D6:=D5.rd r6 t;clear R5 V5 D5 r6 c f;have c:=V6.a 5 _ rfl;have f:=V6.b 5;go_wp2_with fail
 replace R6:=R6.a (show w.heap.size<=w+1 by omega) x 5 (J I);replace V6:af _ _ 165 #[J E,J B,J C,J F,J H,J I,J 0,sN,sN,sN]:=V6.e 5 (J I);replace D6:=D6.h s.symm 5 (J I);refine(uc l5 l6 T A _ H6.out R6.1 ω).mono ?_;rintro e w7 ⟨rfl,r7⟩;have R7:=R6.b r7;have V7:=V6.rd r7 x;have D7:=D6.rd r7 t;clear R6 V6 D6 r7 c f;have c:=V7.a 6 _ rfl;have f:=V7.b 6;go_wp2_with fail
 replace R7:=R7.a (show w.heap.size<=w+1 by omega) x 6 (J T);replace V7:af _ _ 165 #[J E,J B,J C,J F,J H,J I,J T,sN,sN,sN]:=V7.e 6 (J T);replace D7:=D7.h s.symm 6 (J T);have k1:=V7.f;refine(pY l6 l7 x7 A _ H7.out R7.1 ω).mono ?_;rintro e w8 ⟨rv,rfl,G,r8⟩;have R8:=R7.b r8;have V8:=V7.rd r8 x;have D8:=D7.rd r8 t;replace G:=aD (base':=w.heap.size+2) G ω;clear R7 V7 D7 r8 c f;obtain⟨P,M,K,rfl⟩:=aS G;have c:=V8.a 7 _ rfl;have f:=V8.b 7;go_wp2_with fail
 replace R8:=R8.a (show w.heap.size<=w+1 by omega) x 7 (.slice P M K);replace V8:af _ _ 165 #[J E,J B,J C,J F,J H,J I,J T,.slice P M K,sN,sN]:=V8.e 7 (.slice P M K);replace D8:=D8.h s.symm 7 (.slice P M K);replace G:=ownsRow_setCell_below G (a:=⟨w.heap.size+1,7,none⟩) ς (.slice P M K);have d3:=fun g hg=>(G.lt g hg).2;refine(pY l7 l8 x8 A _ H8.out R8.1 ω).mono ?_;rintro e w9 ⟨cv,rfl,U,r9⟩;have R9:=R8.b r9;have V9:=V8.rd r9 x;have D9:=D8.rd r9 t;have b2:=fun g hg=>(U.lt g hg).1;have k0:=V8.f;replace U:=aD (base':=w.heap.size+2) U ω;replace G:=eK G r9 ω;clear R8 V8 D8 r9 c f;obtain⟨O,L,Q,rfl⟩:=aS U;have AP:gf [sN,.slice P M K,.slice O L Q]:=by
  unfold gf;simp only[K9,yF,List.mem_nil_iff,or_false,forall_eq_or_imp,forall_eq];refine⟨⟨fun g hg=>by simp[Value.ownBlock] at hg,fun g hg=>by simp[Value.ownBlock] at hg⟩,fun g hg e=>?_,ς,List.Pairwise.nil⟩;have:=d3 g hg;have:=b2 g e;omega
 clear d3 b2;have c:=V9.a 8 _ rfl;have f:=V9.b 8;go_wp2_with fail
 replace R9:=R9.a (show w.heap.size<=w+1 by omega) x 8 (.slice O L Q);replace V9:af _ _ 165 #[J E,J B,J C,J F,J H,J I,J T,.slice P M K,.slice O L Q,sN]:=V9.e 8 (.slice O L Q);replace D9:=D9.h s.symm 8 (.slice O L Q);replace G:=ownsRow_setCell_below G (a:=⟨w.heap.size+1,8,none⟩) ς (.slice O L Q);replace U:=ownsRow_setCell_below U (a:=⟨w.heap.size+1,8,none⟩) ς (.slice O L Q);refine(cT l8 _ l9 A _ H9.out R9.1 ω).mono ?_;rintro e e9 ⟨rfl,a0⟩;have R:=R9.b a0;have V:=V9.rd a0 x;have D:=D9.rd a0 t;replace G:=eK G a0 ω;replace U:=eK U a0 ω;clear R9 V9 D9 a0 c f;have MO:kj e9 (w.heap.size+2) (sN) [] []:=⟨rfl,y9 _ _ _ _,fun k m tv hk=>by simp at hk⟩;have b6:=V.f;go_wp2
 go_loopw [33] (fun i wr=>∃(k:Nat) (d:List Codec.Msg) (S:List Value) (l':List UInt8) (mo:Option Addr) (mn mc:Nat),k<=n/\i=J k/\d.length=k/\l'.length<=140737488351232/\
  Hid (Codec.jD n l9=(d++(Codec.jD (n - k) l').1,(Codec.jD (n - k) l').2))/\Hid (kj wr (w.heap.size+2) (.slice mo mn mc) d S)/\Hid (gf (.slice mo mn mc::.slice P M K::.slice O L Q::S))/\
  wr.ownsRow (w.heap.size+2) 3 1 (.slice P M K) x7.length (ints x7)/\wr.ownsRow (w.heap.size+2) 3 1 (.slice O L Q) x8.length (ints x8)/\
  af wr (w.heap.size+1) 165 #[J E,J B,J C,J F,J H,J I,J T,.slice P M K,.slice O L Q,.slice mo mn mc]/\
  af wr w.heap.size 165 #[J 0,J 0,J 0,J 0,J 0,J 0,J 0,sN,sN,sN]/\cI w wr A l') (fun i _=>n - (intOf i).toNat)
 case atStart=>exact⟨0,[],[],l9,none,0,0,ω,rfl,rfl,ω,by show _=_;simp,MO,AP,G,U,V,D,R⟩
 case round=>
  clear MO AP G U V D R b6;obtain⟨k,d,S,l',mo,mn,mc,hk,rfl,Y,e7,HL,N,d4,G,U,V,D,R⟩:=hrel;have f7:=R.c;have b6:=V.f;by_cases f8:k<n
  ·obtain⟨m,a3,a6⟩:∃m r,Codec.Cz l'=(m,r):=⟨_,_,rfl⟩;have b9:=zn l';rw[a6] at b9;simp only at b9;have HS:Hid (Codec.jD n l9=((d++[m])++(Codec.jD (n - (k+1)) a3).1,(Codec.jD (n - (k+1)) a3).2)):=by
    show _=_;rw[HL.out,show n - k=(n - (k+1))+1 from ω,zq a6];simp
   have e6:Hid (_=_):=a6;have W:Hid (_=_):=Y;have HV:Hid (_:Prop):=V;clear a6 Y;have c9:=V.a 9 _ rfl;have f9:=V.b 9;have a7:A<w+2:=ω;have f1:Hid ((Value.slice mo mn mc).ownBlock≠some (w.heap.size+1)):=fun e=>by have:=(N.out.2.1.lt _ e).1;omega
   go_wp2_with fail
   go_region_law (first|(refine step_append_lies _ (by rfl) _ _ _ (by rfl) (w.heap.size+2) 179 i0 _ 4 56 Tryz.underlying163 hi f4 f0 e8 rfl ω (.slice mo mn mc) d.length (aI d S) (by rfl) (M2.alloc _) (aT w2 0) 1 1 [J m.a,J m.seq,.slice d5 tn tc,.string m.b] (by rfl) (by rfl) (IZ (cs:=#[J m.a,J m.seq,.slice d5 tn tc,.string m.b]) (t:=179) (fr:=(0,0)) (heap_alloc_new w2 _)) (by simp[Value.oneCell']) ω (by unfold maxLen;rw[W.out];omega) (by rw[W.out];omega) (by simp;omega) (w2.heap.size+1) ς ?_;intro gg a1 w3 a2 p d2 b8;have V3:=(V2.g _).k p f1.out;have c3:=V3.a 9 _ rfl;have f3:=V3.b 9)|(refine wS (by rfl) _ (by rfl) (pT A 0) (by rfl) _ (Gu l' a3 m A wr.drew e6.out R.1 e7) ?_;rintro e w2 ⟨tv,rfl,O2,b4⟩;obtain⟨d5,tn,tc,rfl⟩:=aS O2;refine⟨_,rfl,?_⟩;have r2:=b4.i;have V2:af w2 _ 165 _:=af.rd V r2 x;have c2:=V2.a 9 _ rfl;have f2:=V2.b 9;have e5:=fun o=>(V2.g o).a 9 _ rfl;have s2:=r2.c;have M2:=eK N.out.2.1 r2 a7))
   all_goals
    have HF:Hid (_/\_):=Ga (X:=w.heap.size+1) (j:=9) (u:=sT gg (d.length+1) a1) N.out d4.out G U r2 a7 O2 ω a2 p d2 ω;have R4:Hid (cI _ _ _ _):=(((R.b r2).d _).f p (fun q hq=>by have:=(N.out.2.1.lt q hq).1;omega)).a (show w.heap.size<=w+1 by omega) x 9 (sT gg (d.length+1) a1);have V4:Hid (af _ _ 165 #[J E,J B,J C,J F,J H,J I,J T,.slice P M K,.slice O L Q,sT gg (d.length+1) a1]):=V3.e 9 (sT gg (d.length+1) a1);have D4:Hid (af _ _ _ _):=(((D.rd r2 t).g _).k p (fun q=>by have:=(N.out.2.1.lt _ q).1;omega)).h s.symm 9 (sT gg (d.length+1) a1);clear a2 p d2 b8 V3 c3 f3 c2 f2 e5 M2 V2 r2 b4 O2 V D R G U;go_wp2
    go_roundw
    case rel=>exact⟨k+1,d++[m],_,a3,some ⟨gg,0,none⟩,_,a1,ω,by go_num,by simp[W.out],ω,HS,HF.out.1,HF.out.2.1,HF.out.2.2.1,HF.out.2.2.2,V4.out,D4.out,R4.out⟩
    case measure=>simp[intOf];omega
  ·have e0:k=n:=ω;subst e0;have e1:=f5.out.symm.trans HL.out;rw[Nat.sub_self] at e1;simp only[Codec.jD,IX,CN] at e1;obtain⟨e1,e2⟩:=e1;have b0:Hid (_=_):=e1;have e3:Hid (_=_):=e2;have W:Hid (_=_):=Y;clear e1 e2 Y;have b:w.heap.size<w+2:=ω;have c0:=V.a 0 _ rfl;have g0:=D.a 0 _ rfl;have q0:=D.b 0;have c1:=V.a 1 _ rfl;have g1:=D.a 1 _ rfl;have q1:=D.b 1;have c2:=V.a 2 _ rfl;have g2:=D.a 2 _ rfl;have q2:=D.b 2;have c3:=V.a 3 _ rfl;have g3:=D.a 3 _ rfl;have q3:=D.b 3;have c4:=V.a 4 _ rfl;have g4:=D.a 4 _ rfl;have q4:=D.b 4;have c5:=V.a 5 _ rfl;have g5:=D.a 5 _ rfl;have q5:=D.b 5;have c6:=V.a 6 _ rfl;have g6:=D.a 6 _ rfl;have q6:=D.b 6;have c7:=V.a 7 _ rfl;have g7:=D.a 7 _ rfl;have q7:=D.b 7;have c8:=V.a 8 _ rfl;have g8:=D.a 8 _ rfl;have q8:=D.b 8;have c9:=V.a 9 _ rfl;have g9:=D.a 9 _ rfl;have q9:=D.b 9;have RF:Hid (cI _ _ _ _):=((((((((((R.a (yb _) t 0 (J E)).a (yb _) t 1 (J B)).a (yb _) t 2 (J C)).a (yb _) t 3 (J F)).a (yb _) t 4 (J H)).a (yb _) t 5 (J I)).a (yb _) t 6 (J T)).a (yb _) t 7 (.slice P M K)).a (yb _) t 8 (.slice O L Q)).a (yb _) t 9 (.slice mo mn mc));have OR:Hid (World.ownsRow _ _ _ _ _ _ _):=(ownsRow_setCell_below (ownsRow_setCell_below (ownsRow_setCell_below (ownsRow_setCell_below (ownsRow_setCell_below (ownsRow_setCell_below (ownsRow_setCell_below (ownsRow_setCell_below (ownsRow_setCell_below (ownsRow_setCell_below G (a:=(aT w 0)) b (J E)) (a:=(aT w 1)) b (J B)) (a:=(aT w 2)) b (J C)) (a:=(aT w 3)) b (J F)) (a:=(aT w 4)) b (J H)) (a:=(aT w 5)) b (J I)) (a:=(aT w 6)) b (J T)) (a:=(aT w 7)) b (.slice P M K)) (a:=(aT w 8)) b (.slice O L Q)) (a:=(aT w 9)) b (.slice mo mn mc));have OC:Hid (World.ownsRow _ _ _ _ _ _ _):=(ownsRow_setCell_below (ownsRow_setCell_below (ownsRow_setCell_below (ownsRow_setCell_below (ownsRow_setCell_below (ownsRow_setCell_below (ownsRow_setCell_below (ownsRow_setCell_below (ownsRow_setCell_below (ownsRow_setCell_below U (a:=(aT w 0)) b (J E)) (a:=(aT w 1)) b (J B)) (a:=(aT w 2)) b (J C)) (a:=(aT w 3)) b (J F)) (a:=(aT w 4)) b (J H)) (a:=(aT w 5)) b (J I)) (a:=(aT w 6)) b (J T)) (a:=(aT w 7)) b (.slice P M K)) (a:=(aT w 8)) b (.slice O L Q)) (a:=(aT w 9)) b (.slice mo mn mc));have OM:Hid (World.ownsRow _ _ _ _ _ _ _):=(ownsRow_setCell_below (ownsRow_setCell_below (ownsRow_setCell_below (ownsRow_setCell_below (ownsRow_setCell_below (ownsRow_setCell_below (ownsRow_setCell_below (ownsRow_setCell_below (ownsRow_setCell_below (ownsRow_setCell_below N.out.2.1 (a:=(aT w 0)) b (J E)) (a:=(aT w 1)) b (J B)) (a:=(aT w 2)) b (J C)) (a:=(aT w 3)) b (J F)) (a:=(aT w 4)) b (J H)) (a:=(aT w 5)) b (J I)) (a:=(aT w 6)) b (J T)) (a:=(aT w 7)) b (.slice P M K)) (a:=(aT w 8)) b (.slice O L Q)) (a:=(aT w 9)) b (.slice mo mn mc));have OT:Hid (∀(q:Nat) (y:Codec.Msg) (z:Value),d[q]?=some y->S[q]?=some z->World.ownsRow _ _ _ _ _ _ _):=fun q y z hy hz=>(ownsRow_setCell_below (ownsRow_setCell_below (ownsRow_setCell_below (ownsRow_setCell_below (ownsRow_setCell_below (ownsRow_setCell_below (ownsRow_setCell_below (ownsRow_setCell_below (ownsRow_setCell_below (ownsRow_setCell_below (N.out.2.2 q y z hy hz) (a:=(aT w 0)) b (J E)) (a:=(aT w 1)) b (J B)) (a:=(aT w 2)) b (J C)) (a:=(aT w 3)) b (J F)) (a:=(aT w 4)) b (J H)) (a:=(aT w 5)) b (J I)) (a:=(aT w 6)) b (J T)) (a:=(aT w 7)) b (.slice P M K)) (a:=(aT w 8)) b (.slice O L Q)) (a:=(aT w 9)) b (.slice mo mn mc));clear R V D G U;go_wp2
   refine bodyPost_ret (v:=.agg #[J E,J B,J C,J F,J H,J I,J T,.slice P M K,.slice O L Q,.slice mo mn mc]) (by simp[results,Tryz.results167,go_sem,g0,g1,g2,g3,g4,g5,g6,g7,g8,g9]) rfl ⟨_,_,_,S,rfl,⟨aD OR.out ω,aD OC.out ω,⟨?_,?_,?_⟩,d4.out⟩,?_⟩
   ·rw[b0.out];exact N.out.1
   ·rw[b0.out];exact aD OM.out ω
   ·intro q y z hy hz;rw[b0.out] at hy;exact aD (OT.out q y z hy hz) ω
   ·rw[e3.out];exact RF.out
end
section
open Go.RowKit
variable {w:World}{tvs:List Value}{f:Codec.Frame}{rv cv mv v:Value}
def aX{a n:Nat}{l:List Int}(h:w.ownsRow a 3 1 v n (ints l)):aw w w.heap.size v l:=by
 have d:l.length=n:=by have:=h.1;rw[fe] at this;omega
 rcases h.2 with ⟨b,i⟩|⟨g,c,e,b,o,m,_⟩
 ·exact .inl ⟨⟨_,_,b⟩,Lv ω⟩
 ·refine .inr ⟨g,0,c,ν,(h.lt g (by rw[b];rfl)).2,fun j k=>?_⟩;rw[yS];subst b;exact EV h d j ω
def wo(b:List Codec.Msg):∀(a:List Value) (j:Nat) (m:Codec.Msg) (g:Value),b[j]?=some m->a[j]?=some g->
 (aI b a)[j * 4]?=some (J m.a)/\(aI b a)[j * 4+1]?=some (J m.seq)/\(aI b a)[j * 4+2]?=some g/\(aI b a)[j * 4+3]?=some (.string m.b):=by
 induction b with
 |nil=>simp
 | cons x b h =>
   intro a j m g d c;cases a with
   |nil=>grind
   | cons t a =>
     cases j with
     |zero=>simp at d c;subst d c;simp[aI]
     | succ j =>
       simp at d c;have:=h a j m g d c;have e:∀q,(aI (x::b) (t::a))[(j+1) * 4+q]?=(aI b a)[j * 4+q]?:=by
        intro q;rw[show (j+1) * 4+q=4+(j * 4+q) from ω,aI,Fl ς];simp
       have i:=e 0;grind
def jS{c:Nat}{d:List Codec.Msg}(h:kj w c v d tvs):ba w w.heap.size v d:=by
 obtain⟨z,l,p⟩:=h;rcases l.2 with ⟨b,s⟩|⟨g,i,t,b,y,x,_⟩
 ·exact .inl ⟨⟨_,_,b⟩,Lv s⟩
 ·refine .inr ⟨g,0,i,b,(l.lt g (by rw[b];rfl)).2,fun j m k=>?_⟩;have r:=(ym.1 k).1;have n:tvs[j]?=some (tvs[j]'ω):=yh ω;refine⟨tvs[j]'ω,?_⟩;have e:=wo d tvs j m _ k n;subst b;have a:∀q,q<4->w.cell? ⟨g,0+j * 4+q,none⟩=(aI d tvs)[j * 4+q]?:=fun q u=>by
   rw[yS];exact l.cellAt _ ω
  have o:=a 0 ω;simp only[GV] at o;exact⟨o.trans e.1,(a 1 ω).trans e.2.1,(a 2 ω).trans e.2.2.1,(a 3 ω).trans e.2.2.2,aX (p j m _ k n)⟩
def dn.b{c:World}{a:Nat}(h:dn w a f rv cv mv tvs)(b:Below w w c):dn c a f rv cv mv tvs:=
 ⟨aQ h.row b,aQ h.cut b,⟨h.msgs.1,aQ h.msgs.2.1 b,fun k m g e d=>aQ (h.msgs.2.2 k m g e d) b⟩,h.c⟩
def dn.a{b:Nat}(h:dn w b f rv cv mv tvs){a:Addr}(c:a.block<b)(u:Value):dn (w.setCell a u) b f rv cv mv tvs:=
 ⟨ownsRow_setCell_below h.row c u,ownsRow_setCell_below h.cut c u,⟨h.msgs.1,ownsRow_setCell_below h.msgs.2.1 c u,fun k m g e d=>ownsRow_setCell_below (h.msgs.2.2 k m g e d) c u⟩,h.c⟩
def dn.base{a base':Nat}(h:dn w a f rv cv mv tvs)(b:base'<=a):dn w base' f rv cv mv tvs:=
 ⟨aD h.row b,aD h.cut b,⟨h.msgs.1,aD h.msgs.2.1 b,fun k m e d c=>aD (h.msgs.2.2 k m e d c) b⟩,h.c⟩
def xV(s:List UInt8)(f:Codec.Frame)(X:List UInt8)(w:World)(hl:s.length<=140737488351232)(B:Codec.bO s=(f,X))(x:Codec.dg f=true)(h:Codec.im f=s) :
 Calls prog 115 #[.string ⟨s.toArray⟩] w fun e T=>∃I L M i,e=.returned (.tuple #[.agg #[J f.c,J f.f,J f.j,J f.b,J f.h,J f.a,J f.e,I,L,M],J 0])/\
  dn T w.heap.size f I L M i/\Below w w T:=by
 have K:Hid (_=_):=B;have HE:Hid (_=_):=h;clear B h;go_enter Tryz.func115,Tryz.ntmps115
 go_wp2_with fail
 have P:kz ((w.alloc (.cells #[J 0,J 0,J 0,J 0,J 0,J 0,J 0,sN,sN,sN] 165)).alloc (.cells #[.string ⟨s.toArray⟩] 207)) (w.heap.size+1) s:=by
  have U:=af.d (w.alloc (.cells #[J 0,J 0,J 0,J 0,J 0,J 0,J 0,sN,sN,sN] 165)) (w.heap.size+1) ς 207 #[.string ⟨s.toArray⟩];exact⟨U.a 0 _ rfl,U.b 0⟩
 have S:=(af.d w _ rfl 165 #[J 0,J 0,J 0,J 0,J 0,J 0,J 0,sN,sN,sN]).g (.cells #[.string ⟨s.toArray⟩] 207);refine(jT s X f _ _ K.out P hl).mono ?_;rintro e t ⟨I,L,M,i,rfl,g,H⟩;have Q:=S.rd H ω;have Z:=H.c;simp at Z;have N:=(((yi _ w).alloc (yb _) _).alloc ς _).trans (H.e (by simp;omega) ω);replace g:=g.base (base':=w.heap.size+2) ς;clear P S H;obtain⟨u,o,k,rfl⟩:=aS g.row;obtain⟨l,p,r,rfl⟩:=aS g.cut;obtain⟨q,m,j,rfl⟩:=aS g.msgs.2.1;have R:=aX g.row;have V:=aX g.cut;have W:=jS g.msgs;have n:Below t t (t.alloc (.cells #[J f.c,J f.f,J f.j,J f.b,J f.h,J f.a,J f.e,.slice u o k,.slice l p r,.slice q m j] 165)):=(yi _ _).alloc (yb _) _;have O:=af.d t t.heap.size rfl 165 #[J f.c,J f.f,J f.j,J f.b,J f.h,J f.a,J f.e,.slice u o k,.slice l p r,.slice q m j];have D:=g.b n;have z:Hid (aw _ _ _ _):=R.a n;have C:Hid (aw _ _ _ _):=V.a n;have G:Hid (ba _ _ _ _):=W.a n;have F:=Q.g (.cells #[J f.c,J f.f,J f.j,J f.b,J f.h,J f.a,J f.e,.slice u o k,.slice l p r,.slice q m j] 165);have E:=N.trans (n.mono ω);clear R V W g n N Q;go_wp2_with fail
 refine(lx f _ _ _ t.heap.size _ z.out C.out G.out ς x).mono ?_;rintro e w2 ⟨rfl,c⟩;have a:=F.c c (by simp;omega);have d:=O.c c ς;have A:=D.b c;have y:=E.trans (c.mono (by simp;omega));clear F O D c E z C G;rw[HE.out];have Y:=a.a 0 _ rfl;have q0:=a.b 0;have c0:=d.a 0 _ rfl;have g1:=a.a 1 _ rfl;have q1:=a.b 1;have c1:=d.a 1 _ rfl;have g2:=a.a 2 _ rfl;have q2:=a.b 2;have c2:=d.a 2 _ rfl;have g3:=a.a 3 _ rfl;have q3:=a.b 3;have c3:=d.a 3 _ rfl;have g4:=a.a 4 _ rfl;have q4:=a.b 4;have c4:=d.a 4 _ rfl;have g5:=a.a 5 _ rfl;have q5:=a.b 5;have c5:=d.a 5 _ rfl;have g6:=a.a 6 _ rfl;have q6:=a.b 6;have c6:=d.a 6 _ rfl;have g7:=a.a 7 _ rfl;have q7:=a.b 7;have c7:=d.a 7 _ rfl;have g8:=a.a 8 _ rfl;have q8:=a.b 8;have c8:=d.a 8 _ rfl;have g9:=a.a 9 _ rfl;have q9:=a.b 9;have c9:=d.a 9 _ rfl;have b:w.heap.size<w+2:=ω;have HF:Hid (dn _ _ _ _ _ _ _):=((((((((((A.a (a:=(aT w 0)) b (J f.c)).a (a:=(aT w 1)) b (J f.f)).a (a:=(aT w 2)) b (J f.j)).a (a:=(aT w 3)) b (J f.b)).a (a:=(aT w 4)) b (J f.h)).a (a:=(aT w 5)) b (J f.a)).a (a:=(aT w 6)) b (J f.e)).a (a:=(aT w 7)) b (.slice u o k)).a (a:=(aT w 8)) b (.slice l p r)).a (a:=(aT w 9)) b (.slice q m j));have HB:Hid (Below _ _ _):=((((((((((y.setCell (p:=(aT w 0)) (yb _) (J f.c)).setCell (p:=(aT w 1)) (yb _) (J f.f)).setCell (p:=(aT w 2)) (yb _) (J f.j)).setCell (p:=(aT w 3)) (yb _) (J f.b)).setCell (p:=(aT w 4)) (yb _) (J f.h)).setCell (p:=(aT w 5)) (yb _) (J f.a)).setCell (p:=(aT w 6)) (yb _) (J f.e)).setCell (p:=(aT w 7)) (yb _) (.slice u o k)).setCell (p:=(aT w 8)) (yb _) (.slice l p r)).setCell (p:=(aT w 9)) (yb _) (.slice q m j));clear y A d a;go_wp2
 exact bodyPost_ret (v:=.tuple #[.agg #[J f.c,J f.f,J f.j,J f.b,J f.h,J f.a,J f.e,.slice u o k,.slice l p r,.slice q m j],J 0]) (by simp[results,Tryz.results115,go_sem,Y,g1,g2,g3,g4,g5,g6,g7,g8,g9]) rfl ⟨_,_,_,i,rfl,HF.out.base ω,HB.out⟩
def tG(s:List UInt8)(f:Codec.Frame)(N:List UInt8)(w:World)(Z:s.length<=140737488351232)(k:Codec.bO s=(f,N))(h:Codec.dg f=false) :
 Calls prog 115 #[.string ⟨s.toArray⟩] w fun e Y=>e=.returned (.tuple #[.agg #[J 0,J 0,J 0,J 0,J 0,J 0,J 0,sN,sN,sN],J 3])/\Below w w Y:=by
 have C:Hid (_=_):=k;clear k;go_enter Tryz.func115,Tryz.ntmps115
 go_wp2_with fail
 have F:kz ((w.alloc (.cells #[J 0,J 0,J 0,J 0,J 0,J 0,J 0,sN,sN,sN] 165)).alloc (.cells #[.string ⟨s.toArray⟩] 207)) (w.heap.size+1) s:=by
  have K:=af.d (w.alloc (.cells #[J 0,J 0,J 0,J 0,J 0,J 0,J 0,sN,sN,sN] 165)) (w.heap.size+1) ς 207 #[.string ⟨s.toArray⟩];exact⟨K.a 0 _ rfl,K.b 0⟩
 have I:=(af.d w _ rfl 165 #[J 0,J 0,J 0,J 0,J 0,J 0,J 0,sN,sN,sN]).g (.cells #[.string ⟨s.toArray⟩] 207);refine(jT s N f _ _ C.out F Z).mono ?_;rintro e d ⟨rv,cv,mv,a0,rfl,b,p⟩;have G:=I.rd p ω;have O:=p.c;simp at O;have E:Below w w d:=(((yi w.heap.size w).alloc (yb _) _).alloc ς _).trans (p.e (by simp;omega) ω);replace b:=b.base (base':=w.heap.size+2) ς;clear F I p;obtain⟨D,x,r,rfl⟩:=aS b.row;obtain⟨t,y,B,rfl⟩:=aS b.cut;obtain⟨z,u,q,rfl⟩:=aS b.msgs.2.1;have H:=aX b.row;have L:=aX b.cut;have M:=jS b.msgs;have g:Below d d (d.alloc (.cells #[J f.c,J f.f,J f.j,J f.b,J f.h,J f.a,J f.e,.slice D x r,.slice t y B,.slice z u q] 165)):=(yi _ _).alloc (yb _) _;have R:=af.d d d.heap.size rfl 165 #[J f.c,J f.f,J f.j,J f.b,J f.h,J f.a,J f.e,.slice D x r,.slice t y B,.slice z u q];have A:=b.b g;have j:Hid (aw _ _ _ _):=H.a g;have l:Hid (aw _ _ _ _):=L.a g;have o:Hid (ba _ _ _ _):=M.a g;have n:=G.g (.cells #[J f.c,J f.f,J f.j,J f.b,J f.h,J f.a,J f.e,.slice D x r,.slice t y B,.slice z u q] 165);have m:=E.trans (g.mono ω);clear H L M b g E G;go_wp2_with fail
 refine(rQ f _ _ _ d.heap.size _ j.out l.out o.out ς h).mono ?_;rintro e w2 ⟨rfl,c⟩;have a:=n.c c (by simp;omega);have i:=m.trans (c.mono (by simp;omega));clear n R A c m j l o;have P:=a.a 0 _ rfl;have q0:=a.b 0;have g1:=a.a 1 _ rfl;have q1:=a.b 1;have X:=a.a 2 _ rfl;have q2:=a.b 2;have S:=a.a 3 _ rfl;have q3:=a.b 3;have T:=a.a 4 _ rfl;have q4:=a.b 4;have Q:=a.a 5 _ rfl;have q5:=a.b 5;have g6:=a.a 6 _ rfl;have q6:=a.b 6;have g7:=a.a 7 _ rfl;have q7:=a.b 7;have U:=a.a 8 _ rfl;have q8:=a.b 8;have W:=a.a 9 _ rfl;have q9:=a.b 9;have V:Hid (Below _ _ _):=((((((((((i.setCell (p:=(aT w 0)) (yb _) (J 0)).setCell (p:=(aT w 1)) (yb _) (J 0)).setCell (p:=(aT w 2)) (yb _) (J 0)).setCell (p:=(aT w 3)) (yb _) (J 0)).setCell (p:=(aT w 4)) (yb _) (J 0)).setCell (p:=(aT w 5)) (yb _) (J 0)).setCell (p:=(aT w 6)) (yb _) (J 0)).setCell (p:=(aT w 7)) (yb _) (sN)).setCell (p:=(aT w 8)) (yb _) (sN)).setCell (p:=(aT w 9)) (yb _) (sN));clear i a;go_wp2
 exact bodyPost_ret (v:=.tuple #[.agg #[J 0,J 0,J 0,J 0,J 0,J 0,J 0,sN,sN,sN],J 3]) (by simp[results,Tryz.results115,go_sem,P,g1,X,S,T,Q,g6,g7,U,W]) rfl ⟨rfl,V.out⟩
def IS{a b:List UInt8}(h:a≠b):(a == b)=false:=by
 grind
def vG(s:List UInt8)(f:Codec.Frame)(O:List UInt8)(w:World)(hl:s.length<=140737488351232)(k:Codec.bO s=(f,O))(h:Codec.dg f=true)(m:Codec.im f≠s) :
 Calls prog 115 #[.string ⟨s.toArray⟩] w fun e w'=>e=.returned (.tuple #[.agg #[J 0,J 0,J 0,J 0,J 0,J 0,J 0,sN,sN,sN],J 3])/\Below w w w':=by
 have D:Hid (_=_):=k;have Y:=IS m;clear k;go_enter Tryz.func115,Tryz.ntmps115
 go_wp2_with fail
 have G:kz ((w.alloc (.cells #[J 0,J 0,J 0,J 0,J 0,J 0,J 0,sN,sN,sN] 165)).alloc (.cells #[.string ⟨s.toArray⟩] 207)) (w.heap.size+1) s:=by
  have L:=af.d (w.alloc (.cells #[J 0,J 0,J 0,J 0,J 0,J 0,J 0,sN,sN,sN] 165)) (w.heap.size+1) ς 207 #[.string ⟨s.toArray⟩];exact⟨L.a 0 _ rfl,L.b 0⟩
 have K:=(af.d w _ rfl 165 #[J 0,J 0,J 0,J 0,J 0,J 0,J 0,sN,sN,sN]).g (.cells #[.string ⟨s.toArray⟩] 207);refine(jT s O f _ _ D.out G hl).mono ?_;rintro e d ⟨rv,cv,mv,a0,rfl,b,q⟩;have H:=K.rd q ω;have Q:=q.c;simp at Q;have F:Below w w d:=(((yi w.heap.size w).alloc (yb _) _).alloc ς _).trans (q.e (by simp;omega) ω);replace b:=b.base (base':=w.heap.size+2) ς;clear G K q;obtain⟨E,y,t,rfl⟩:=aS b.row;obtain⟨u,z,C,rfl⟩:=aS b.cut;obtain⟨A,x,r,rfl⟩:=aS b.msgs.2.1;have I:=aX b.row;have M:=aX b.cut;have N:=jS b.msgs;have g:Below d d (d.alloc (.cells #[J f.c,J f.f,J f.j,J f.b,J f.h,J f.a,J f.e,.slice E y t,.slice u z C,.slice A x r] 165)):=(yi _ _).alloc (yb _) _;have S:=af.d d d.heap.size rfl 165 #[J f.c,J f.f,J f.j,J f.b,J f.h,J f.a,J f.e,.slice E y t,.slice u z C,.slice A x r];have B:=b.b g;have j:Hid (aw _ _ _ _):=I.a g;have l:Hid (aw _ _ _ _):=M.a g;have p:Hid (ba _ _ _ _):=N.a g;have o:=H.g (.cells #[J f.c,J f.f,J f.j,J f.b,J f.h,J f.a,J f.e,.slice E y t,.slice u z C,.slice A x r] 165);have n:=F.trans (g.mono ω);clear I M N b g F H;go_wp2_with fail
 refine(lx f _ _ _ d.heap.size _ j.out l.out p.out ς h).mono ?_;rintro e w2 ⟨rfl,c⟩;have a:=o.c c (by simp;omega);have i:=n.trans (c.mono (by simp;omega));clear o S B c n j l p;have P:=a.a 0 _ rfl;have q0:=a.b 0;have g1:=a.a 1 _ rfl;have q1:=a.b 1;have Z:=a.a 2 _ rfl;have q2:=a.b 2;have T:=a.a 3 _ rfl;have q3:=a.b 3;have U:=a.a 4 _ rfl;have q4:=a.b 4;have R:=a.a 5 _ rfl;have q5:=a.b 5;have g6:=a.a 6 _ rfl;have q6:=a.b 6;have g7:=a.a 7 _ rfl;have q7:=a.b 7;have V:=a.a 8 _ rfl;have q8:=a.b 8;have X:=a.a 9 _ rfl;have q9:=a.b 9;have W:Hid (Below _ _ _):=((((((((((i.setCell (p:=(aT w 0)) (yb _) (J 0)).setCell (p:=(aT w 1)) (yb _) (J 0)).setCell (p:=(aT w 2)) (yb _) (J 0)).setCell (p:=(aT w 3)) (yb _) (J 0)).setCell (p:=(aT w 4)) (yb _) (J 0)).setCell (p:=(aT w 5)) (yb _) (J 0)).setCell (p:=(aT w 6)) (yb _) (J 0)).setCell (p:=(aT w 7)) (yb _) (sN)).setCell (p:=(aT w 8)) (yb _) (sN)).setCell (p:=(aT w 9)) (yb _) (sN));clear i a;go_wp2
 exact bodyPost_ret (v:=.tuple #[.agg #[J 0,J 0,J 0,J 0,J 0,J 0,J 0,sN,sN,sN],J 3]) (by simp[results,Tryz.results115,go_sem,P,g1,Z,T,U,R,g6,g7,V,X]) rfl ⟨rfl,W.out⟩
def BS(s:List UInt8)(w:World)(c:s.length<=140737488351232)(h:Codec.bM s=false) :
 Calls prog 115 #[.string ⟨s.toArray⟩] w fun e g=>e=.returned (.tuple #[.agg #[J 0,J 0,J 0,J 0,J 0,J 0,J 0,sN,sN,sN],J 3])/\Below w w g:=by
 obtain⟨f,d,b⟩:∃f r,Codec.bO s=(f,r):=⟨_,_,rfl⟩;cases a:Codec.dg f with
 |false=>exact tG s f d w c b a
 | true =>
   refine vG s f d w c b a (fun e=>?_);simp[Codec.bM,b,a,e] at h

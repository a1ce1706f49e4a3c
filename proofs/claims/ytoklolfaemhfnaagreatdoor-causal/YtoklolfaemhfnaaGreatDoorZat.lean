import Derived.Lib.TrailingZeros
import Derived.Test.YtoklolfaemhfnaaGreatDoorZas
set_option maxRecDepth 100000
set_option maxHeartbeats 0
set_option linter.defProp false
open Go.Proofs.Tryz (prog)
namespace Go.Proofs.YtoklolfaemhfnaaGreatDoor
section
open Go.RowKit
open Go.ChangeMaps (setBlock)
variable {w w':World}{F:Nat->Prop}{b:Nat}{h:Hd}{kn:List (List Int)}{l:aL}{evs:List Ev}{snt:List bC}{kb mb:Nat}{rbs:List Nat}{es:Array MapEntry}{clk:Nat}{ev sv:Value}
def tF(g c:Nat)(a:List Int)(w:World)(s:af w g 3 (ints a).toArray)(C:a.length<=6)(D:1<=a.length):Calls prog 118 #[sT g a.length c] w fun e i=>∃k d,e=.returned (sT k a.length d)/\i.ownsRow w 3 1 (sT k a.length d) a.length (ints a)/\Below w w i:=by
 obtain⟨t,B,o,p,m⟩:=info_parts zf;have y:Hid ((w.alloc (.cells #[] 3)).ownsRow w 3 1 (sT w 0 0) 0 []):=⟨rfl,.inr ⟨_,_,#[],rfl,yb _,heap_alloc_new w _,yb _,oI _,rfl,rfl⟩⟩;have z:Hid (af (w.alloc (.cells #[] 3)) g 3 (ints a).toArray):=s.g _;have n:=fun i:World=>Lib.run_eql_slice_nil i 69 3 (some ⟨g,0,none⟩) a.length c 0 0 Tryz.underlying69;simp only[Option.isNone_some] at n;clear s;go_enter Tryz.func118,Tryz.ntmps118
 go_wp2_with (at_builtin;refine wpList_append_own_at _ rfl _ _ 69 rfl _ 3 t (J 0) 1 8 Tryz.underlying69 B o p m rfl θ _ _ _ rfl y.out ⟨g,0,none⟩ a.length c (ints a) rfl ?c0 ?c1 ?c2 ?c3 ?c4 ?c5 ?_)
 case c0=>rw[fe];simp
 case c1=>intro j u A;rw[lu];exact z.out.a j u (by simpa using A)
 case c2=>intro u r;simp[ints] at r;obtain⟨_,_,rfl⟩:=r;rfl
 case c3=>unfold maxLen;omega
 case c4=>omega
 case c5=>simp
 intro v G q f _ _;obtain⟨k,d,rfl,_,_⟩:=World.ownsRow.form q ω;go_wp2
 go_ret;refine⟨k,d,rfl,q,?_⟩;exact((yi _ _).alloc (yb _) _).trans ⟨f.os,f.tape,f.output,f.size,fun x E=>f.block x (by simp;omega) (fun e=>by injection e with e;simp at e;omega)⟩
def wD(C:h.a<h.n)(d0:h.n<=6)(p:PA w F b h kn l evs snt kb mb rbs es clk ev sv)(P:Ab h.n (kn.getD h.a []))(t:ByteArray)(ht:t.size<=4000000) :
 Calls prog 137 #[pT b 0,.string t] w fun e j=>∃g a,e=.returned (aU ⟨h.a,(kn.getD h.a []).getD h.a 0+1,(kn.getD h.a []).set h.a ((kn.getD h.a []).getD h.a 0+1),t⟩ (sT g h.n a))/\eB j (fun x=>w.heap.size<=x) 3 1 (sT g h.n a) h.n (ints ((kn.getD h.a []).set h.a ((kn.getD h.a []).getD h.a 0+1)))/\Below w w j:=by
 obtain⟨r,hr,Z,I, -⟩:=p.m C;have V:Below w w (w.alloc (.cells #[J 0,J 0,sN,.string ⟨#[]⟩] 179)):=(yi _ _).alloc (yb _) _;have HR:Hid (Calls prog 119 #[pT b 0] (w.alloc (.cells #[J 0,J 0,sN,.string ⟨#[]⟩] 179)) fun e X=>e=.returned (sT r h.n h.n)/\Below (w.heap.size+1) (w.alloc (.cells #[J 0,J 0,sN,.string ⟨#[]⟩] 179)) X/\Below w w X):=(iM (p.j V) hr).mono fun e X hh=>by
  obtain⟨rfl,hb, -⟩:=hh;exact⟨rfl,hb.mono ς,V.trans (hb.mono ς)⟩
 have a1:=ah (fun j hw=>by
  have:=tF r h.n (kn.getD h.a []) j (Z.c hw Z.f) ω ω;rw[I] at this;exact this)
 have a2:Hid (∀j,Below w w j->j.cell? (aT b 0)=some (J h.a)):=fun j hw=>(p.a.c hw p.a.f).a 0 _ rfl;have b1:=ah (fun j=>jW t j ht);have hx:=P h.a C;have b0:Hid (af (w.alloc (.cells #[J 0,J 0,sN,.string ⟨#[]⟩] 179)) w.heap.size 179 #[J 0,J 0,sN,.string ⟨#[]⟩]):=af.d w w.heap.size rfl 179 _;have a0:Hid ((w.alloc (.cells #[J 0,J 0,sN,.string ⟨#[]⟩] 179)).heap.size=w.heap.size+1):=by simp[Hid]
 have c8:0<=h.a:=ω;have c9:h.a<h.n:=ω;generalize S:(kn.getD h.a []).getD h.a 0=x at hx ⊢;generalize b9:kn.getD h.a []=E at I a1 S ⊢;have c1:wrap64 (x+1)=x+1:=by unfold wrap64;omega
 have a5:=ah S;clear p Z hr P V b9 S;go_enter Tryz.func137,Tryz.ntmps137
 go_wp2_with fail
 generalize w.alloc _=w1 at HR b0 a0 ⊢;refine HR.out.mono ?_;rintro e w2 ⟨rfl,a4,U⟩;have N:Hid (Below (w.heap.size+1) w1 w2/\Below w w w2):=⟨a4,U⟩;have a8:=a1.out w2 U;have R:=ah a8;clear a4 U a8 a1 HR;go_wp2_with fail
 refine R.out.mono ?_;rintro e m ⟨g,a,rfl,i,W⟩;have M:Hid (w.heap.size+1<=w2.heap.size):=by have:=N.out.1.size;rw[a0.out] at this;exact this
 have H:Hid (Below (w.heap.size+1) w1 m/\Below w w m):=⟨N.out.1.trans (W.mono M.out),N.out.2.trans (W.mono N.out.2.size)⟩;have a6:=i.lt g rfl;obtain⟨c,O,B,b5,z⟩:∃c:Array Value,h.n<=a/\m.heap[g]?=some _/\c.size=a * 1/\c.toList.take _=ints E:=by
  rcases i.2 with ⟨o, -⟩|⟨v,f,c,o, -,G,b7, -,c5,c3⟩
  ·cases o
  ·injection o with o _ h2;injection o with o;injection o with o;subst o h2;exact⟨c,b7,G,c5,c3⟩
 have a3:=ah i;have cx:m.cell? (aT g h.a)=some (J x):=by
  have:=i.cells rfl h.a (J x) (by
   have:E[h.a]?=some x:=by rw[getD_some ω,a5.out]
   simp[ints,this])
  rw[lu] at this;exact this
 have c2:m.frozen? (aT g h.a)=false:=frozen_of_row m g _ c 3 B;have s:Hid ((m.setCell ⟨g,h.a,none⟩ (J (x+1))).ownsRow w 3 1 (sT g h.n a) h.n (ints (E.set h.a (x+1)))):=by
  have hB:=(show af m g 3 c from B).e h.a (J (x+1));have b6:a<=maxLen:=by
   rcases i.2 with ⟨o, -⟩|⟨v,f,c7,o, -, -, -,c6, -⟩
   ·cases o
   ·injection o with _ _ h2;subst h2;exact c6
  refine⟨by simp[ints,I],.inr ⟨g,a,_,rfl,?_,hB,O,b6,by simpa using b5,?_⟩⟩
  ·have:=M.out;omega
  ·rw[Array.toList_setIfInBounds,List.take_set,z];simp[ints,List.map_set]
 have b4:=ah a6.1;clear i W a6 O B b5 z R;have c0:=a2.out m H.out.2;go_wp2_with fail
 have b3:ej g m (m.setCell ⟨g,h.a,none⟩ (J (x+1))):=(ej.d g m).a _ _;have Y:Below (w.heap.size+1) m (m.setCell ⟨g,h.a,none⟩ (J (x+1))):=b3.c (by have:=M.out;have:=b4.out;omega);have q:Hid (Below (w.heap.size+1) w1 (m.setCell ⟨g,h.a,none⟩ (J (x+1)))/\Below w w (m.setCell ⟨g,h.a,none⟩ (J (x+1)))):=⟨H.out.1.trans (Y.mono (yb _)),H.out.2.trans (Y.mono ω)⟩;have y1:(m.setCell ⟨g,h.a,none⟩ (J (x+1))).cell? (aT g h.a)=some (J (x+1)):=by
  obtain⟨v,f,c,o, -,G, -⟩:∃v f c,Value.slice (some ⟨g,0,none⟩) h.n a=sT v h.n f/\w.heap.size<=v/\(m.setCell ⟨g,h.a,none⟩ (J (x+1))).heap[v]?=some (.cells c 3 (0,0))/\True:=by
   rcases s.out.2 with ⟨o, -⟩|⟨v,f,c,o,h1,G, -⟩
   ·cases o
   ·exact⟨v,f,c,o,h1,G,trivial⟩
  have:=s.out.cells rfl h.a (J (x+1)) (by simp[ints,I,C]);rw[lu] at this;exact this
 have Q:=ah (yI _ _ y1);generalize m.setCell ⟨g,h.a,none⟩ (J (x+1))=w4 at s q y1 Q ⊢;have HS:Hid (∀j,Below w4 w4 j->j.cell? (aT b 0)=some (J h.a)/\j.cell? (aT g h.a)=some (J (x+1))):=fun j hw=>⟨a2.out j (q.out.2.trans (hw.mono q.out.2.size)),(hw.cell (p:=(aT g h.a)) Q.out).trans y1⟩;clear b3 Y y1 H a3 cx c2 c0 a2 a5 c1;refine gl.b (fun j=>j.cell? (aT b 0)=some (J h.a)/\j.cell? (aT g h.a)=some (J (x+1))) 15 rfl (HS.out _ (yi _ _).drew) (fun k=>?_)
 (iterate 13 refine χ ?_)
 refine te 13 fun K hK=>?_;go_simp;refine(b1.out _).mono ?_;rintro e w5 ⟨rfl,a9⟩;have L:Hid (Below w4 w4 w5):=((yi _ _).drew).trans (a9.mono ς);have d:Hid (af w5 w.heap.size 179 #[J 0,J 0,sN,.string ⟨#[]⟩]):=b0.out.c (q.out.1.trans (L.out.mono (by have:=q.out.1.size;rw[a0.out] at this;exact this))) ω;have b2:=ah (q.out.2.trans (L.out.mono q.out.2.size));have a7:=ah (aQ s.out L.out);clear a9;go_wp2_with fail
 refine hK.out _ _ (fun _=>HS.out _ L.out) (fun k=>?_);clear hK K;try simp only[pU]
 have k:=k θ;refine tk 14 ?_;have f0:=d.out.b 0;have f1:=d.out.b 1;have f2:=d.out.b 2;have f3:=d.out.b 3;have z0:=d.out.a 0 _ rfl;have z1:=d.out.a 1 _ rfl;have z2:=d.out.a 2 _ rfl;have z3:=d.out.a 3 _ rfl;simp only[yf,yd,ye] at z0 z1 z2 z3;refine te 15 fun K hK=>?_;go_simp;refine hK.out _ _ (fun h=>absurd rfl h) (fun _=>?_);clear hK K;try simp only[pU]
 refine gl.done κ ?_ _;obtain⟨u,D⟩:=ql d.out (J h.a) (J (x+1)) (sT g h.n a) (.string t);have A:Hid (eB _ (fun y=>w.heap.size<=y) 3 1 (sT g h.n a) h.n (ints (E.set h.a (x+1)))/\Below w w _):=⟨⟨aD (aj a7.out fun v T=>D.block v (fun e=>by
  have:v=g:=by simpa[Value.ownBlock] using T.symm
  have h1:=M.out;have h2:=b4.out;omega)) (oI _),fun v T=>(a7.out.lt v T).1⟩,b2.out.trans (D.c (yb _))⟩
 generalize ((((w5.setCell ⟨w.heap.size,0,none⟩ (J h.a)).setCell ⟨w.heap.size,1,none⟩ (J (x+1))).setCell ⟨w.heap.size,2,none⟩ (sT g h.n a)).setCell ⟨w.heap.size,3,none⟩ (.string t))=w6 at u D A ⊢;have q0:=u.a 0 _ rfl;have q1:=u.a 1 _ rfl;have q2:=u.a 2 _ rfl;have q3:=u.a 3 _ rfl;simp only[yf,yd,ye] at q0 q1 q2 q3;clear D u HS d f0 f1 f2 f3 z0 z1 z2 z3 k b1;go_wp2_with fail
 (try simp only[Exit.inBlock,Exit.then])
 refine bodyPost_ret (v:=.agg #[J h.a,J (x+1),sT g h.n a,.string t]) (by simp[results,Tryz.results137,go_sem,q0,q1,q2,q3]) rfl ?_;refine⟨g,a,rfl,?_⟩;have c4:=A.out.1;have b8:=A.out.2;exact⟨c4,b8⟩

variable {ms:List Codec.Msg}

def rM(b mb n:Nat)(t:ByteArray)(M:Codec.Msg)(m:List Nat)(c0:m.length<=6)(w:World)(R9 S1:World->Prop)(S2:World->Nat->Nat->Prop)(S4 S6 S7:Nat->Nat->Nat->World->Prop)(C:Nat->Nat->Nat->Option Addr->Nat->World->Prop)(o:World->Prop)
 (N:Calls prog 136 #[pT b 0,.string t] w fun e A=>(e=.returned (J 9)/\R9 A)\/(e=.returned (J 10)/\R9 A)\/(e=.returned (J 0)/\S1 A))
 (I:∀A,S1 A->Calls prog 137 #[pT b 0,.string t] A fun e x=>∃g a,e=.returned (aU M (sT g n a))/\S2 x g a)
 (P:∀x g a,S2 x g a->Calls prog 138 #[pT b 0,aU M (sT g n a),J 1] (x.alloc (.cells #[J M.a,J M.seq,sT g n a,.string M.b] 179)) fun e u=>e=.returned (.tuple #[])/\S4 x.heap.size g a u)
 (R:∀X g a u,S4 X g a u->(∀d,Below u u d->d.cell? (aT b 15)=some (.map (some mb))/\af d X 179 #[J M.a,J M.seq,sT g n a,.string M.b]/\∃F,(Instr.mapUpdate 156 (.map (some mb)) (bQ M.a M.seq) (aU M (sT g n a))).run prog d=.ok () F/\S6 X g a F))
 (H:∀X g a F,S6 X g a F->Calls prog 140 #[pT b 0] F fun e w7=>e=.returned (.tuple #[])/\S7 X g a w7)
 (S:∀X g a w7,S7 X g a w7->Calls prog 110 #[pT b 0] w7 fun e v=>∃l c,e=.returned (.slice l m.length c)/\C X g a l 0 v)
 (a3:∀X g a l k v,C X g a l k v->af v X 179 #[J M.a,J M.seq,sT g n a,.string M.b]/\∀q:Nat,m[k]?=some q->∃g',l=some ⟨g',0,none⟩/\v.cell? (aT g' k)=some (J q))
 (a9:∀X g a l k v (q:Nat),C X g a l k v->m[k]?=some q->Calls prog 141 #[pT b 0,J q,aU M (sT g n a)] v fun e G=>e=.returned (.tuple #[])/\C X g a l (k+1) G)
 (B:∀X g a l G,C X g a l m.length G->o G) :
 Calls prog 97 #[pT b 0,.string t] w fun e w'=>((e=.returned (J 9)\/e=.returned (J 10))/\R9 w')\/(e=.returned (J 0)/\o w'):=by
 have y:=ah N;have a5:Hid _:=I;have L:Hid _:=P;have a7:Hid _:=R;have W:Hid _:=H;have U:Hid _:=S;have E:Hid _:=a3;have D:Hid _:=a9;have r:Hid _:=B;clear N I P R H S a3 a9 B;obtain⟨ms,mq,mt,mx⟩:=M;unfold aU bQ at *;simp only at *;go_enter Tryz.func97,Tryz.ntmps97
 go_wp2_with fail
 refine y.out.mono ?_;rintro e A (⟨rfl,hr⟩|⟨rfl,hr⟩|⟨rfl,b0⟩)
 ·have HR:=ah hr;clear hr y;go_wp2_with fail
  go_ret;exact .inl ⟨.inl rfl,HR.out⟩
 ·have HR:Hid (R9 A):=hr;clear hr y;go_wp2_with fail
  go_ret;exact .inl ⟨.inr rfl,HR.out⟩
 ·have a8:Hid (Calls prog 137 _ _ _):=a5.out A b0;clear b0 y a5;go_wp2_with fail
  refine a8.out.mono ?_;rintro e x ⟨g,a,rfl,b3⟩;have a4:Hid (Calls prog 138 _ _ _):=L.out x g a b3;clear b3 a8 L;have p:=af.d x x.heap.size rfl 179 #[J ms,J mq,sT g n a,.string mx];have d0:=p.a 0 _ rfl;have d1:=p.a 1 _ rfl;have d2:=p.a 2 _ rfl;have d3:=p.a 3 _ rfl;simp only[yf,yd,ye] at d0 d1 d2 d3;clear p;go_wp2_with fail
  refine a4.out.mono ?_;rintro e u ⟨rfl,O⟩;clear d0 d1 d2 d3 a4;have z:Hid _:=a7.out _ _ _ _ O;generalize x.heap.size=X at z ⊢;clear O a7;go_wp2_with fail
  have HS:Hid (∀d,Below u u d->d.cell? (aT b 15)=some (.map (some mb))/\d.cell? (aT X 0)=some (J ms)/\d.cell? (aT X 1)=some (J mq)/\d.cell? (aT X 2)=some (sT g n a)/\d.cell? (aT X 3)=some (.string mx)):=fun d hw=>by
   obtain⟨a1,a2, -⟩:=z.out d hw;exact⟨a1,a2.a 0 _ rfl,a2.a 1 _ rfl,a2.a 2 _ rfl,a2.a 3 _ rfl⟩
  refine gl.b (fun d=>d.cell? (aT b 15)=some (.map (some mb))/\d.cell? (aT X 0)=some (J ms)/\d.cell? (aT X 1)=some (J mq)/\d.cell? (aT X 2)=some (sT g n a)/\d.cell? (aT X 3)=some (.string mx)) 7 rfl (HS.out _ (yi _ _).drew) (fun f=>?_)
  (iterate 5 refine χ ?_);refine tk 6 ?_
  refine te 5 fun K Q=>?_;go_simp;refine(jR ⟨ms,mq,mt,mx⟩ (sT g n a) _).mono ?_;rintro e d ⟨rfl,Z⟩;have b1:Hid (Below u u d):=((yi _ _).drew).trans (Z.mono ς);clear Z;unfold bQ;simp only;go_wp2_with fail
  refine Q.out _ _ (fun _=>HS.out _ b1.out) (fun f=>?_);clear Q K;try simp only[pU]
  have f:=f θ;obtain⟨-, -,F,b6,b2⟩:=z.out d b1.out;have V:Hid (Calls prog 140 _ _ _):=W.out _ _ _ _ b2;clear b2 z W;refine te 7 fun K Q=>?_;go_simp;refine Q.out _ _ (fun h=>absurd rfl h) (fun _=>?_);clear Q K;try simp only[pU]
  refine gl.done κ ?_ _;clear b6 HS f;go_wp2_with fail
  refine V.out.mono ?_;rintro e w7 ⟨rfl,Y⟩;have a0:Hid (Calls prog 110 _ _ _):=U.out _ _ _ _ Y;clear Y V U;go_wp2_with fail
  refine a0.out.mono ?_;rintro e v ⟨l,c,rfl,j⟩;have H8:Hid (C X g a l 0 v):=j;clear j a0;go_wp2_with fail
  go_loopw [33] (fun i wr=>∃k:Nat,k<=m.length/\i=J k/\C X g a l k wr) (fun i _=>m.length - (intOf i).toNat)
  case atStart=>exact⟨0,ω,rfl,H8.out⟩
  case round=>
   obtain⟨k,hk,rfl,j⟩:=hrel;by_cases b4:k<m.length
   ·obtain⟨q,hq⟩:∃q,m[k]?=some q:=⟨_,yh b4⟩;obtain⟨p,s⟩:=E.out _ _ _ _ _ _ j;obtain⟨g',rfl,cg⟩:=s q hq;have T:Hid (Calls prog 141 _ _ _):=D.out _ _ _ _ _ _ q j hq;have d0:=p.a 0 _ rfl;have d1:=p.a 1 _ rfl;have d2:=p.a 2 _ rfl;have d3:=p.a 3 _ rfl;simp only[yf,yd,ye] at d0 d1 d2 d3;have b7:(k:Int)<(m.length:Int):=ω;have b9:(0:Int)<=(k:Int):=ω;clear p s j hq H8 E D r;go_wp2_with fail
    refine T.out.mono ?_;rintro e G ⟨rfl,a6⟩;have H9:Hid (C X g a (some ⟨g',0,none⟩) (k+1) G):=a6;clear a6 T;go_wp2_with fail
    exact⟨⟨k+1,ω,by go_num,H9.out⟩,by simp[intOf];omega⟩
   ·have b8:¬(k:Int)<(m.length:Int):=ω;have b5:k=m.length:=ω;subst b5;have HP:Hid (o wr):=r.out _ _ _ _ _ j;clear j H8 E D r;go_wp2_with fail
    go_ret;exact .inr ⟨rfl,HP.out⟩
def PA.a3(p:PA w F b h kn l evs snt kb mb rbs es clk ev sv)(m:Codec.Msg)(a:Value)(i:∀x∈l,gL m.a m.seq x.1=false)(n:eB w F 3 1 a m.c.length (ints m.c))(o:∀g,a.ownBlock=some g->g ∉ rbs) :
 (Instr.mapUpdate 156 (.map (some mb)) (bQ m.a m.seq) (aU m a)).run prog w=.ok () (setBlock w mb (.map (es.push { key:=bQ m.a m.seq,val:=aU m a,born:=clk }) (clk+1)))/\w.grownBy (setBlock w mb (.map (es.push { key:=bQ m.a m.seq,val:=aU m a,born:=clk }) (clk+1))) (some mb)/\PA (setBlock w mb (.map (es.push { key:=bQ m.a m.seq,val:=aU m a,born:=clk }) (clk+1))) F b h kn (l++[(m,a)]) evs snt kb mb rbs (es.push { key:=bQ m.a m.seq,val:=aU m a,born:=clk }) (clk+1) ev sv:=by
 have k:=ep p.map (.map (es.push { key:=bQ m.a m.seq,val:=aU m a,born:=clk }) (clk+1));refine⟨Au w m.a m.seq _ p.map p.o i,k,p.y k (jV p.map _) (p.o.put m a) ?_ ?_⟩
 ·refine List.pairwise_append.2 ⟨p.i,ς,fun x c y q=>?_⟩;rw[yu] at q;subst q;have:=i x c;rw[<-Kr] at this ⊢;intro e;rw[cu] at e this;exact this ⟨e.1.symm,e.2.symm⟩
 ·intro x c j;rcases yz.1 c with c|c
  ·exact absurd c j
  ·rw[yu] at c;subst c;refine⟨n.i fun g d=>?_,o⟩;obtain⟨r,f⟩:=n.m d;exact k.block g (n.k d) fun e=>cq f p.map (by injection e)
end
section
open Go.RowKit
open Md (PS Vote Bal Lft)
open Go.ChangeMaps (setBlock)
variable {x:Nat}{R':Nat->Prop}{v av:Value}{l:List Codec.Msg}{L:Option Bal}{avs:List (Value × Value)}
section
def eb:Option Nat->Value
 |none=>.pointer none
 |some x=>pT x 0
def bI(w:World)(R:Nat->Prop)(v:Value)(l:List Codec.Msg):Prop:=
 ((∃ao c,v=.slice ao 0 c)/\l=[])\/
 ∃ g cap, v = sT g l.length cap /\ g < w.heap.size /\ R g /\ ∀ (j : Nat) m, l[j]? = some m ->
   ∃ tv, w.cell? ⟨g, j * 4, none⟩ = some (J m.a) /\ w.cell? ⟨g, j * 4 + 1, none⟩ = some (J m.seq) /\
     w.cell? ⟨g,j * 4+2,none⟩=some tv/\w.cell? ⟨g,j * 4+3,none⟩=some (.string m.b)/\eB w R 3 1 tv m.c.length (ints m.c)
abbrev aE(w:World)(R:Nat->Prop)(v:Value)(l:List Int):Prop:=eB w R 3 1 v l.length (ints l)
def jo(R R':Nat->Prop)(w w':World):Prop:=w.heap.size<=w'/\∀g,R g->g<w.heap.size->R' g/\w'.heap[g]?=w.heap[g]?
def eB.f{w c:World}{R:Nat->Prop}{e:TypeId}{f:Nat}{n:Nat}{b:List Value}(h:eB w R e f v n b)(d:jo R R' w c):eB c R' e f v n b:=
 ⟨aj h.d fun g a=>(d.2 g (h.c g a) (h.k a)).2,fun g a=>(d.2 g (h.c g a) (h.k a)).1⟩
def bI.c{w f:World}{R:Nat->Prop}(h:bI w R v l)(c:jo R R' w f):bI f R' v l:=by
 rcases h with h|⟨g,b,p,e,s,o⟩
 ·exact .inl h
 ·obtain⟨d,a⟩:=c.2 g s e;refine .inr ⟨g,b,p,yg e c.1,d,fun j m n=>?_⟩;obtain⟨u,k,t,r,i,q⟩:=o j m n;exact⟨u,(World.cell?_of_block a).trans k,(World.cell?_of_block a).trans t,(World.cell?_of_block a).trans r,(World.cell?_of_block a).trans i,q.f c⟩
def bI.at{w:World}{R:Nat->Prop}(h:bI w R v l):ba w w.heap.size v l:=by
 rcases h with h|⟨g,a,i,f,q,e⟩
 ·exact .inl h
 ·refine .inr ⟨g,0,a,i,f,fun j m d=>?_⟩;obtain⟨p,c,o,n,b,k⟩:=e j m d;simp only[yS];exact⟨p,c,o,n,b,aX k.d⟩
def bF:List (List Int × Vote)->List (Value × Value)->List Value
 |a::l,v::vs=>[v.1,J a.2.b,J a.2.m,v.2]++bF l vs
 |_,_=>[]
def bV:List Lft->List (Value × Value)->List Value
 |a::l,v::vs=>[J a.m,v.1,v.2]++bV l vs
 |_,_=>[]
def bu(B:Bal)(av:Value):Array Value:=#[J B.g,.bool B.e,J B.out,J B.a,J B.c,J B.d,av]
structure fD (w:World) (R:Nat->Prop) (B:Bal) (x:Nat) (av:Value) (avs:List (Value × Value)):Prop where
 c:af w x 234 (bu B av)
 f:avs.length=B.i.length
 d:w.ownsRow 0 237 4 av B.i.length (bF B.i avs)
 e:∀(i:Nat) a v,B.i[i]?=some a->avs[i]?=some v->aE w R v.1 a.1/\aE w R v.2 a.2.a
def iV(w:World)(R:Nat->Prop)(lb:Option Nat)(L:Option Bal)(av:Value)(avs:List (Value × Value)):Prop:=match lb,L with
 |none,none=>True
 |some x,some B=>fD w R B x av avs
 |_,_=>False
def iV.cases{w:World}{R:Nat->Prop}{a:Option Nat}(h:iV w R a L av avs):(a=none/\L=none)\/∃x B,a=some x/\L=some B/\fD w R B x av avs:=by
 unfold iV at h;split at h
 ·exact .inl ⟨rfl,rfl⟩
 ·exact .inr ⟨_,_,rfl,rfl,h⟩
 ·exact h.elim
structure tg (w:World) (R:Nat->Prop) (L:List Lft) (lf:Value) (lvs:List (Value × Value)):Prop where
 f:lvs.length=L.length
 d:w.ownsRow 0 249 3 lf L.length (bV L lvs)
 e:∀(i:Nat) a v,L[i]?=some a->lvs[i]?=some v->aE w R v.1 a.a/\bI w R v.2 a.b
structure Pl where
 l:aL
 kb:Nat
 m:Nat
 k:List Nat
 n:Array MapEntry
 j:Nat
 g:Value
 d:Value
 h:Value
 c:Option Nat
 e:Value
 a:List (Value × Value)
 i:Value
 f:List (Value × Value)
def Pl.X(o:Pl)(x:Nat):Prop:=o.c=some x\/(o.c.isSome/\o.e.ownBlock=some x)\/o.i.ownBlock=some x
def Pl.U(o:Pl)(b x:Nat):Prop:=x=b\/x=o.m\/x∈o.k\/o.g.ownBlock=some x\/o.d.ownBlock=some x
def Pl.M(o:Pl)(b x:Nat):Prop:=o.U b x\/o.X x
def zc(S:PS)(vc lf:Value)(lb:Option Nat):Hd:=⟨S.c,S.n,S.r,S.f,S.out,S.h,S.b,S.m,S.k,S.g,S.a.b,S.a.m,vc,eb lb,lf⟩
def Pl.q(o:Pl)(S:PS):Hd:=zc S o.h o.i o.c
def Pl.R(o:Pl)(F:Nat->Prop)(b x:Nat):Prop:=F x/\¬o.M b x
structure PP (w:World) (F:Nat->Prop) (b:Nat) (S:PS) (o:Pl):Prop where
 e:PA w F b (o.q S) S.q o.l S.j (S.e.map lF) o.kb o.m o.k o.n o.j o.g o.d
 ms:o.l.map Prod.fst=S.o
 fx:∀x,o.X x->F x
 up:∀x,w.heap.size<=x->F x
 vote:aE w (o.R F b) o.h S.a.a
 lead:iV w (o.R F b) o.c S.d o.e o.a
 left:tg w (o.R F b) S.i o.i o.f
structure To (w:World) (F:Nat->Prop) (b:Nat) (o:Pl) (w':World) (S':PS) (o':Pl):Prop where
 c:PP w' F b S' o'
 e:cW (o.M b) w w'
 h:∀x,o'.M b x->o.M b x\/w.heap.size<=x
abbrev Do(f:FuncId)(args:Array Value)(v:Value)(w:World)(F:Nat->Prop)(b:Nat)(o:Pl)(S':PS):Prop:=
 Calls prog f args w fun e w'=>e=.returned v/\∃o',To w F b o w' S' o'
def To.a{w e d:World}{F:Nat->Prop}{b:Nat}{o f i:Pl}{j g:PS}(h:To w F b o e j f)(k:To e F b f d g i):To w F b o d g i:=
 ⟨k.c,h.e.c (k.e.e fun x _ a=>h.h x a),fun x a=>by
  rcases k.h x a with c|c
  ·exact h.h x c
  ·exact .inr (yr h.e.size c)⟩
def To.d{w c:World}{F:Nat->Prop}{b:Nat}{o d:Pl}{f:PS}(h:To w F b o c f d):jo (o.R F b) (d.R F b) w c:=
 ⟨h.e.size,fun g a i=>⟨⟨a.1,fun j=>(h.h g j).elim a.2 fun e=>ω⟩,h.e.block g i a.2⟩⟩
def fD.g{w b:World}{R:Nat->Prop}{B:Bal}(h:fD w R B x av avs)(c:jo R R' w b)(f:b.heap[x]?=w.heap[x]?)(j:∀g,av.ownBlock=some g->b.heap[g]?=w.heap[g]?):fD b R' B x av avs:=
 ⟨f.trans h.c,h.f,aj h.d j,fun i a v e d=>⟨(h.e i a v e d).1.f c,(h.e i a v e d).2.f c⟩⟩
def tg.c{w d:World}{R:Nat->Prop}{L:List Lft}{c:Value}{b:List (Value × Value)}(h:tg w R L c b)(e:jo R R' w d)(k:∀g,c.ownBlock=some g->d.heap[g]?=w.heap[g]?):tg d R' L c b:=
 ⟨h.f,aj h.d k,fun i a v j f=>⟨(h.e i a v j f).1.f e,(h.e i a v j f).2.c e⟩⟩
def iV.a{w c:World}{R:Nat->Prop}{o:Pl}(h:iV w R o.c L o.e o.a)(e:jo R R' w c)(d:∀x,o.X x->c.heap[x]?=w.heap[x]?):iV c R' o.c L o.e o.a:=by
 rcases h.cases with ⟨a,b⟩|⟨x,B,a,b,i⟩
 ·rw[a,b];trivial
 ·have k:=i.g e (d x (.inl a)) fun g f=>d g (.inr (.inl ⟨by rw[a];rfl,f⟩));rw[a,b];exact k
variable {w w':World}{F:Nat->Prop}{b:Nat}{S S':PS}{o o':Pl}
def PP.q(p:PP w F b S o)(i:o.X x):∃a t,w.heap[x]?=some (.cells a t (0,0))/\(t=234\/t=237\/t=249):=by
 have f:∀{e s:Nat}{v:Value}{n:Nat}{r:List Value},w.ownsRow 0 e s v n r->v.ownBlock=some x->∃a,w.heap[x]?=some (.cells a e (0,0)):=fun j g=>by
  rcases j.2 with ⟨m, -⟩|⟨u,k,a,rfl, -,d, -⟩
  ·rw[m] at g;cases g
  ·cases g;exact⟨a,d⟩
 rcases i with c|⟨c,q⟩|c
 ·rcases p.lead.cases with ⟨e, -⟩|⟨y,B,e, -,h⟩ <;> rw[e] at c <;> cases c;exact⟨_,_,h.c,.inl rfl⟩
 ·rcases p.lead.cases with ⟨e, -⟩|⟨y,B,e, -,h⟩
  ·rw[e] at c;cases c
  ·obtain⟨a,d⟩:=f h.d q;exact⟨a,_,d,.inr (.inl rfl)⟩
 ·obtain⟨a,d⟩:=f p.left.d c;exact⟨a,_,d,.inr (.inr rfl)⟩
def PP.r(p:PP w F b S o)(f:o.U b x):(∃g e,w.heap[x]?=some (.map g e))\/∃a t,w.heap[x]?=some (.cells a t (0,0))/\(t=159\/(t=3/\x∈o.k)\/t=64\/t=111):=by
 rcases f with rfl|rfl|c|c|c
 ·exact .inr ⟨_,_,p.e.a,.inl rfl⟩
 ·exact .inl ⟨_,_,p.e.map⟩
 ·obtain⟨a,d⟩:=p.e.e.k c;exact .inr ⟨a,_,d,.inr (.inl ⟨rfl,c⟩)⟩
 ·obtain⟨a,d⟩:=p.e.c.m c;exact .inr ⟨a,_,d,.inr (.inr (.inl rfl))⟩
 ·obtain⟨a,d⟩:=p.e.f.m c;exact .inr ⟨a,_,d,.inr (.inr (.inr rfl))⟩
def PP.n(p:PP w F b S o)(a:o.X x):x<w:=by
 obtain⟨c,t,h, -⟩:=p.q a;exact(yk.1 h).1
def PP.h(p:PP w F b S o)(a:o.M b x):x<w:=a.elim (fun h=>by
 rcases p.r h with ⟨_,_,h⟩|⟨_,_,h, -⟩ <;> exact(yk.1 h).1) p.n
def PP.nx(p:PP w F b S o)(e:o.X x):¬o.U b x:=fun g=>by
 obtain⟨f,t,h,d⟩:=p.q e;rcases p.r g with ⟨_,_,a⟩|⟨_,i,a,c⟩ <;> rw[h] at a <;> cases a;rcases d with rfl|rfl|rfl <;> simp at c
def PP.mf(p:PP w F b S o)(a:o.M b x):F x:=by
 rcases a with (rfl|rfl|h|h|h)|h
 ·exact p.e.t
 ·exact p.e.s
 ·exact p.e.fr x h
 ·exact p.e.c.c x h
 ·exact p.e.f.c x h
 ·exact p.fx x h
def PP.a0(p:PP w F b S o){d:Array Value}{t:TypeId}(h:w.heap[x]?=some (.cells d t (0,0)))(e:(t=3/\x ∉ o.k)\/t=179\/t=69):¬o.M b x:=fun i=>by
 rcases i with j|f
 ·rcases p.r j with ⟨_,_,c⟩|⟨_,g,c,a⟩ <;> rw[h] at c <;> cases c;rcases e with ⟨rfl,k⟩|rfl|rfl
  ·simp at a;exact k a
  ·simp at a
  ·simp at a
 ·obtain⟨_,g,c,a⟩:=p.q f;rw[h] at c;cases c;rcases e with ⟨rfl, -⟩|rfl|rfl <;> simp at a
def PP.a3(p:PP w F b S o){x:Codec.Msg × Value}(a:x∈o.l):aE w (o.R F b) x.2 x.1.c:=
 ⟨(p.e.d x a).1.d, fun g c => ⟨(p.e.d x a).1.c g c, by
   obtain⟨d,e⟩:=(p.e.d x a).1.m c;exact p.a0 e (.inl ⟨rfl,(p.e.d x a).2 g c⟩)⟩⟩
def PP.step(p:PP w F b S o){S':PS}{G:Nat->Prop}{j:aL}{es':Array MapEntry}{clk':Nat}{c f:Value}(d:cW (o.U b) w w')(t:∀x,G x->F x\/w.heap.size<=x)
 (A:∀g,c.ownBlock=some g->o.g.ownBlock=some g\/w.heap.size<=g) (B:∀g,f.ownBlock=some g->o.d.ownBlock=some g\/w.heap.size<=g)
 (y:PA w' G b (o.q S') S'.q j S'.j (S'.e.map lF) o.kb o.m o.k es' clk' c f) (k:j.map Prod.fst=S'.o) (u:S'.a.a=S.a.a) (z:S'.d=S.d) (q:S'.i=S.i) :
 To w F b o w' S' { o with l:=j,n:=es',j:=clk',g:=c,d:=f }:=by
 have r:∀x,({ o with l:=j,n:=es',j:=clk',g:=c,d:=f }:Pl).M b x->o.M b x\/w.heap.size<=x:=fun x a=>by
  rcases a with (h|h|h|h|h)|h
  ·exact .inl (.inl (.inl h))
  ·exact .inl (.inl (.inr (.inl h)))
  ·exact .inl (.inl (.inr (.inr (.inl h))))
  ·exact(A x h).elim (fun h=>.inl (.inl (.inr (.inr (.inr (.inl h)))))) .inr
  ·exact(B x h).elim (fun h=>.inl (.inl (.inr (.inr (.inr (.inr h)))))) .inr
  ·exact .inl (.inr h)
 have i:jo (o.R F b) (({ o with l:=j,n:=es',j:=clk',g:=c,d:=f }:Pl).R F b) w w':=⟨d.size,fun g n m=>⟨⟨n.1,fun a=>(r g a).elim n.2 fun e=>ω⟩,d.block g m fun e=>n.2 (.inl e)⟩⟩;have s:=fun x a=>d.block x (p.n a) (p.nx a);refine⟨⟨y.k fun x a=>(t x a).elim id (p.up x),k,p.fx,fun x a=>p.up x (yr d.size a),?_,?_,?_⟩,d.e fun x _ a=>.inl a,r⟩
 ·rw[u];exact p.vote.f i
 ·rw[z];exact p.lead.a i fun x a=>s x a
 ·rw[q];exact p.left.c i fun g m=>s g (.inr (.inr m))
end
section
section
variable {w w':World}{F:Nat->Prop}{b:Nat}{h:Hd}{kn:List (List Int)}{l:aL}{evs:List Ev}{snt:List bC}{kb mb:Nat}{rbs:List Nat}{es:Array MapEntry}{clk:Nat}{ev sv:Value}
def Ez(p:PA w F b h kn l evs snt kb mb rbs es clk ev sv)(X:h.n<=6)(m:Codec.Msg)(t:Option Addr)(y z:Nat)(s:Nat)(hs:s<h.n)(R:m.a=s)(H:∀x∈l,gL m.a m.seq x.1=false)(V:dz h.b kn s m.seq=false)(P:jc h.b s=false) :
 Calls prog 254 #[pT b 0,aU m (.slice t y z)] w fun e a=>e=.returned (.tuple #[])/\Below w w a:=by
 obtain⟨ms,d,mt,A⟩:=m;simp only at R H V;subst R;have D:=p.a.a 15 _ rfl;have Y:Hid (∀a,Below w w a->a.cell? (aT b 15)=some (.map (some mb))/\(Instr.lookup 156 (.map (some mb)) (.agg #[J s,J d]) true).run prog a=.ok (.tuple #[.agg #[J 0,J 0,sN,.string ⟨#[]⟩],.bool false]) a):=fun a f=>by
  refine⟨(World.cell?_of_block (a:=(aT b 15)) (f.block b p.a.f)).trans D,?_⟩;exact my a s d ((f.block mb p.q).trans p.map) p.o H true
 have U:Hid (Below w w (w.alloc (.cells #[J s,J d,.slice t y z,.string A] 179))):=(Below.refl _ _).alloc (yb _) _;have O:Hid (∀a,Below w w a->Calls prog 186 #[pT b 0,.agg #[J s,J d]] a fun e a1=>e=.returned (.bool false)/\Below a a a1):=fun a f=>by
  have p':=p.j f;have:=kx b kb h (.map (some mb)) ev sv rbs kn a p'.a p'.e X s hs d;rw[V] at this;exact this
 have I:=p.a.a 7 _ rfl;simp only[Hd.c,yf,yd,ye] at I;have HC:Hid (∀a,Below w w a->a.cell? (aT b 7)=some (J h.b)/\a.cell? (aT b 15)=some (.map (some mb))/\a.cell? (aT w 0)=a.cell? (aT w 0)):=fun a f=>⟨(World.cell?_of_block (a:=(aT b 7)) (f.block b p.a.f)).trans I,(Y.out a f).1,rfl⟩;have S:=af.d w _ rfl 179 #[J s,J d,.slice t y z,.string A];have HX:Hid (∀a,Below (w.heap.size+1) (w.alloc (.cells #[J s,J d,.slice t y z,.string A] 179)) a->a.cell? (aT w 0)=some (J s)/\a.cell? (aT w 1)=some (J d)/\a.cell? (aT w 2)=some (.slice t y z)/\a.cell? (aT w 3)=some (.string A)):=fun a f=>by
  have:=S.c f ω;exact⟨this.a 0 _ rfl,this.a 1 _ rfl,this.a 2 _ rfl,this.a 3 _ rfl⟩
 have G:=ah (fun a=>by
  have:=gE h.b s a ω;rw[P] at this;exact this)
 clear p H D I S;unfold aU;go_enter Tryz.func254,Tryz.ntmps254
 go_wp2_with fail
 refine(jR ⟨s,d,mt,A⟩ _ _).mono ?_;rintro e q ⟨rfl,r⟩;have j:=ah (U.out.trans (r.mono ς));have Q:Hid (Below (w.heap.size+1) (w.alloc (.cells #[J s,J d,.slice t y z,.string A] 179)) q):=r.mono ς;unfold bQ;simp only;go_wp2_with fail
 have g:Hid (∀a,Below (q.alloc (.cells #[J s,J d] 186)).heap.size (q.alloc (.cells #[J s,J d] 186)) a->Below w w a/\a.cell? (aT q 0)=some (J s)/\a.cell? (aT q 1)=some (J d)):=fun a f=>by
  have X:=(af.d q q.heap.size rfl 186 #[J s,J d]).c f ς;exact⟨(j.out.alloc j.out.size _).trans (f.mono (by have:=j.out.size;simp;omega)),X.a 0 _ rfl,X.a 1 _ rfl⟩
 have C:Hid (Below w w (q.alloc (.cells #[J s,J d] 186))):=j.out.alloc j.out.size _;have u:Hid (Below (w.heap.size+1) (w.alloc (.cells #[J s,J d,.slice t y z,.string A] 179)) (q.alloc (.cells #[J s,J d] 186))):=Q.out.alloc (by have:=r.size;simpa using this) _;generalize a3:q.heap.size=E at g ⊢;generalize a0:q.alloc _=L at g C u ⊢;have W:Hid (∀a,Below L L a->a.cell? (aT b 15)=some (.map (some mb))/\(Instr.lookup 156 (.map (some mb)) (.agg #[J s,J d]) true).run prog a=.ok (.tuple #[.agg #[J 0,J 0,sN,.string ⟨#[]⟩],.bool false]) a/\a.cell? (aT E 0)=some (J s)/\a.cell? (aT E 1)=some (J d)):=fun a f=>⟨(Y.out a (g.out a f).1).1,(Y.out a (g.out a f).1).2,(g.out a f).2⟩;clear a0 a3 r j U Y Q;refine wp_region_held_drew (S:=fun a=>a.cell? (aT b 15)=some (.map (some mb))/\(Instr.lookup 156 (.map (some mb)) (.agg #[J s,J d]) true).run prog a=.ok (.tuple #[.agg #[J 0,J 0,sN,.string ⟨#[]⟩],.bool false]) a/\a.cell? (aT E 0)=some (J s)/\a.cell? (aT E 1)=some (J d)) rfl (W.out _ (Below.refl _ _).drew) (fun c=>?_)
 (iterate 9 refine ψ ?_)
 refine we 9 fun K o=>?_;go_simp;refine o.out _ _ (W.out _ ((Below.refl _ _).drew.alloc (yb _) _)) (fun c=>?_);clear o K;try simp only[pU]
 refine we 10 fun K o=>?_;go_simp;refine o.out _ _ (W.out _ ((Below.refl _ _).alloc (yb _) _).drew) (fun c=>?_);clear o K;try simp only[pU]
 refine wk 11 ?_;refine wpAnyH_done κ ?_ _;have v:Hid (Below w w (L.alloc (.cells #[J 0,J 0,sN,.string ⟨#[]⟩] 179)).drew):=(C.out.alloc C.out.size _).drew;have i:Hid (Below L L (L.alloc (.cells #[J 0,J 0,sN,.string ⟨#[]⟩] 179)).drew):=((Below.refl _ _).alloc (yb _) _).drew;generalize (L.alloc (.cells #[J 0,J 0,sN,.string ⟨#[]⟩] 179)).drew=N at v i ⊢;have M:Hid (Below (w.heap.size+1) (w.alloc (.cells #[J s,J d,.slice t y z,.string A] 179)) N):=u.out.trans (i.out.mono (by have:=u.out.size;simpa using this));have k:Hid (∀a,Below N N a->Below w w a/\a.cell? (aT b 7)=some (J h.b)/\a.cell? (aT b 15)=some (.map (some mb))/\a.cell? (aT E 0)=some (J s)/\a.cell? (aT E 1)=some (J d)/\a.cell? (aT w 0)=some (J s)/\a.cell? (aT w 1)=some (J d)/\a.cell? (aT w 2)=some (.slice t y z)/\a.cell? (aT w 3)=some (.string A)):=fun a f=>by
  have Z:=v.out.trans (f.mono v.out.size);exact⟨Z,(HC.out a Z).1,(HC.out a Z).2.1,(g.out a (i.out.trans (f.mono i.out.size))).2.1,(g.out a (i.out.trans (f.mono i.out.size))).2.2,HX.out a (M.out.trans (f.mono (by have:=M.out.size;simpa using this)))⟩
 clear W g C c i HX u M HC;go_wp2_with fail
 refine wp_region_held_drew (S:=fun a=>Below w w a/\a.cell? (aT b 7)=some (J h.b)/\a.cell? (aT E 0)=some (J s)/\a.cell? (aT E 1)=some (J d)/\a.cell? (aT w 0)=some (J s)) rfl (by have:=k.out _ (Below.refl _ _).drew;exact⟨this.1,this.2.1,this.2.2.2.1,this.2.2.2.2.1,this.2.2.2.2.2.1⟩) (fun c=>?_)
 (iterate 4 refine ψ ?_)
 refine we 4 fun K o=>?_;go_simp;refine(O.out _ c.1).mono ?_;rintro e w5 ⟨rfl,T⟩;have B:Hid (Below N N w5):=((Below.refl _ _).drew).trans (T.mono ς);go_wp2_with fail
 refine o.out _ _ (by have:=k.out _ B.out;exact⟨this.1,this.2.1,this.2.2.2.1,this.2.2.2.2.1,this.2.2.2.2.2.1⟩) (fun c=>?_);clear o K;try simp only[pU]
 (iterate 8 refine ψ ?_)
 refine we 13 fun K o=>?_;go_simp;refine(G.out _).mono ?_;rintro e w6 ⟨rfl,rfl⟩;go_wp2_with fail
 refine o.out _ _ (by have:=k.out _ B.out;exact⟨this.1,this.2.1,this.2.2.2.1,this.2.2.2.2.1,this.2.2.2.2.2.1⟩) (fun c=>?_);clear o K;try simp only[pU]
 (iterate 2 refine ψ ?_)
 refine wpAnyH_done κ ?_ _;have a2:=(k.out _ B.out).1;clear k G O B T c v;go_wp2_with fail
 (try simp only[Exit.inBlock,Exit.then])
 refine bodyPost_ret (results_none rfl _ _ _) rfl ?_;exact⟨rfl,a2⟩
end
open Md (PS Vote Bal Lft Wf MsgW)
variable {w w':World}{F:Nat->Prop}{b:Nat}{S:PS}{o:Pl}
def PP.a7(p:PP w F b S o)(c:Wf S):DC S.n o.l:=fun x a=>(c.ms x.1 (by rw[<-p.ms];exact Hq a)).s
def PP.d(p:PP w F b S o)(a:Below w w w'):To w F b o w' S o:=p.step (cW.d a) (fun _ h=>.inl h) (fun _ h=>.inl h) (fun _ h=>.inl h) (p.e.j a) p.ms rfl rfl rfl
def To.f(p:PP w F b S o):To w F b o w S o:=p.d (Below.refl _ _)
def rT(p:PP w F b S o)(c:Wf S):Do 140 #[pT b 0] (.tuple #[]) w F b o S.M1:=by
 refine(km p.e c.c (p.a7 c)).mono ?_;rintro e i ⟨rfl,d,f,g⟩;refine⟨rfl,_,p.step (cW.f d fun x a=>by injection a with a;subst a;exact .inr (.inl rfl)) (fun _ h=>.inl h) (fun _ h=>.inl h) (fun _ h=>.inl h) g ?_ rfl rfl rfl⟩;rw[cL,p.ms];rfl
def pX(p:PP w F b S o)(f:Wf S){q:Nat}(m:q<S.n){a:List Int}{v:Value}(k:aE w (o.R F b) v a)(i:a.length=S.n):Do 253 #[pT b 0,J q,v] (.tuple #[]) w F b o (S.My q a):=by
 obtain⟨g,c,rfl, -, -,t⟩:=mE k.d (by rw[i];exact f.n0);have u:=fun h=>(k.c g rfl).2 (.inl (.inr (.inr (.inl h))));have:=EH p.e f.c (p.a7 f) q m a g 0 c u fun j s=>by rw[yS];exact t j (by rw[i];exact s)
 rw[i];refine this.mono ?_;rintro e z ⟨rfl,d,y,r⟩;refine⟨rfl,_,p.step (d.e fun x _ l=>l.elim (fun e=>.inr (.inl e)) fun e=>.inr (.inr (.inl e))) (fun _ h=>.inl h) (fun _ h=>.inl h) (fun _ h=>.inl h) r ?_ rfl rfl rfl⟩;rw[cL,p.ms];rfl
def Ak(p:PP w F b S o)(E:Wf S){m:Codec.Msg}{L:Value}(U:MsgW S.n m)(A:aE w (o.R F b) L m.c):Do 254 #[pT b 0,aU m L] (.tuple #[]) w F b o (S.MX m):=by
 obtain⟨s,G,k⟩:=U.s;obtain⟨B,C,D,rfl⟩:=A.a;have z:m.a.toNat=s:=by rw[k];rfl
 have i:∀{u},Below _ w u->S.MX m=S->∃T,To w F b o u (S.MX m) T:=fun t e=>by rw[e];exact⟨_,p.d t⟩
 by_cases r:∃x∈o.l,gL m.a m.seq x.1=true
 ·obtain⟨x,j,v⟩:=r;have e:S.MX m=S:=by
   have:S.o.any (Md.eA m.a m.seq)=true:=List.any_eq_true.2 ⟨x.1,by rw[<-p.ms];exact Hq j,v⟩;unfold PS.MX;rw[this];rfl
  refine(Ey p.e m B C D x j v).mono ?_;rintro I u ⟨rfl,t⟩;exact⟨rfl,i t e⟩
 ·have q:∀x∈o.l,gL m.a m.seq x.1=false:=fun x j=>by
   rw[<-Kr];exact fun e=>r ⟨x,j,e⟩
  have f:S.o.any (Md.eA m.a m.seq)=false:=by
   rw[List.any_eq_false];intro y M;rw[<-p.ms] at M;obtain⟨x,j,rfl⟩:=yW.1 M;exact fun e=>by rw[show Md.eA m.a m.seq x.1=gL m.a m.seq x.1 from rfl,q x j] at e;cases e
  have d:S.Nh m=dz S.m S.q s m.seq:=by unfold PS.Nh;rw[z];rfl
  cases c:dz S.m S.q s m.seq with
  | true =>
    refine(vQ p.e E.c m B C D s G k q c).mono ?_;rintro I u ⟨rfl,t⟩;exact⟨rfl,i t (by unfold PS.MX;rw[f,d,c];rfl)⟩
  | false =>
    have K:Md.aV S.m m.a.toNat=jc S.m s:=by rw[z];rfl
    cases a:jc S.m s with
    | false =>
      refine(Ez p.e E.c m B C D s G k q c a).mono ?_;rintro I u ⟨rfl,t⟩;exact⟨rfl,i t (by unfold PS.MX;rw[f,d,c,K,a];rfl)⟩
    | true =>
      have e:S.MX m={ S with o:=S.o++[m] }:=by unfold PS.MX;rw[f,d,c,K,a];rfl
      refine(EA p.e E.c m B C D s G k q c a ⟨A.d,fun g H=>(A.c g H).1⟩ fun g H P=>(A.c g H).2 (.inl (.inr (.inr (.inl P))))).mono ?_;rintro I u ⟨rfl,N,O,Q⟩;rw[e];exact⟨rfl,_,p.step (cW.f N fun x j=>by injection j with j;subst j;exact .inr (.inl rfl)) (fun _ h=>.inl h) (fun _ h=>.inl h) (fun _ h=>.inl h) Q (by rw[y8,p.ms];rfl) rfl rfl rfl⟩
end
section
section
variable {w w':World}{F:Nat->Prop}{b:Nat}{h:Hd}{kn:List (List Int)}{l:aL}{evs:List Ev}{snt:List bC}{kb mb:Nat}{rbs:List Nat}{es:Array MapEntry}{clk:Nat}{ev sv:Value}
def Ax(p:PA w F b h kn l evs snt kb mb rbs es clk ev sv)(f:Codec.Frame)(a:f.f=h.a)(s r m:Option Addr)(u q x o t k:Nat)(C:aw w w.heap.size (.slice s u q) f.g)(i:aw w w.heap.size (.slice r x o) f.i)(K:ba w w.heap.size (.slice m t k) f.d)(g:Codec.dg f=false) :
 Calls prog 165 #[pT b 0,.agg #[J f.c,J 0,J f.j,J f.b,J f.h,J f.a,J f.e,.slice s u q,.slice r x o,.slice m t k]] w fun e z=>e=.returned (.tuple #[])/\Below w w z:=by
 have d:=ah (fun z n=>by
  have:=rQ f _ _ _ _ z (C.a n) (i.a n) (K.a n) n.size g;rw[a] at this;exact this)
 obtain⟨I,N,H,D,G,B,E,P,Q,M⟩:=f;simp only at a d ⊢;subst a;have A:=(p.a.c (w':=w.alloc (.cells #[J I,J 0,J H,J D,J G,J B,J E,.slice s u q,.slice r x o,.slice m t k] 165)) ((Below.refl _ _).alloc (yb _) _) p.a.f).a 0 _ rfl;simp only[Hd.c,yf,yd] at A;have c:Hid (Below _ w (w.alloc (.cells #[J I,J h.a,J H,J D,J G,J B,J E,.slice s u q,.slice r x o,.slice m t k] 165))):=(Below.refl _ _).alloc (yb _) _;clear p C i K g;go_enter Tryz.func165,Tryz.ntmps165
 go_wp2_with fail
 clear A;generalize w.alloc _=L at c ⊢;refine(d.out L c.out).mono ?_;rintro e O ⟨rfl,j⟩;have y:=ah (c.out.trans (j.mono c.out.size));clear j c d;go_wp2_with fail
 go_end0
 exact⟨rfl,y.out⟩
end
open Md (PS Vote Bal Lft Wf MsgW)
variable {w w':World}{F:Nat->Prop}{b:Nat}{S:PS}{o:Pl}
def To.g{g:World}{i:Pl}{k j:PS}{f:FuncId}{a:Array Value}(h:To w F b o g k i)(d:Do f a v g F b i j):Calls prog f a g fun e n=>e=.returned v/\∃c,To w F b o n j c:=
 d.mono fun _ _ ⟨l,c,m⟩=>⟨l,c,h.a m⟩
def oH(p:PP w F b S o)(f:Codec.Frame)(B:S.e.length<=1000000){rv cv mv:Value}(c:aw w w.heap.size rv f.g)(d:aw w w.heap.size cv f.i)(i:ba w w.heap.size mv f.d) :
 Do 165 #[pT b 0,.agg #[J f.c,J 0,J f.j,J f.b,J f.h,J f.a,J f.e,rv,cv,mv]] (.tuple #[]) w F b o (S.MZ f):=by
 obtain⟨r,t,m,rfl⟩:=c.b;obtain⟨q,u,n,rfl⟩:=d.b;obtain⟨l,s,k,rfl⟩:=i.b;cases a:Codec.dg _ with
 | false =>
   refine(Ax p.e { f with f:=S.c } rfl r q l t m u n s k c d i a).mono ?_;rintro e y ⟨rfl,D⟩;rw[show S.MZ f=S by unfold PS.MZ;rw[a];rfl];exact⟨rfl,_,p.d D⟩
 | true =>
   refine(Aw p.e { f with f:=S.c } rfl r q l t m u n s k c d i a (by simpa using B)).mono ?_;rintro e y ⟨rfl,g,C,j,A⟩;rw[show S.MZ f={ S with e:=S.e++[{ f with f:=S.c }] } by unfold PS.MZ;rw[a];rfl];exact⟨rfl,_,p.step (g.e fun x _ z=>z.elim .inl fun e=>.inr (.inr (.inr (.inr e)))) (fun _ h=>h) (fun _ h=>.inl h) j (by rw[y8];exact A) p.ms rfl rfl rfl⟩
def Ej(p:PP w F b S o)(l:Wf S){m:Codec.Msg}{k:Value}(A:MsgW S.n m)(y:∃j n c,k=.slice j n c)(a:Int):Do 138 #[pT b 0,aU m k,J a] (.tuple #[]) w F b o (S.Ms m a):=by
 obtain⟨s,t,d⟩:=A.s;obtain⟨j,u,z,rfl⟩:=y;refine(pG p.e m j u z a s t d l.num (by have:=l.a7;omega)).mono ?_;rintro e B ⟨rfl,g,q,i,r⟩;refine⟨rfl,_,p.step (es':=o.n) (clk':=o.j) (g.e fun x _ f=>f.elim .inl fun f=>f.elim (fun e=>.inr (.inr (.inl e))) fun e=>.inr (.inr (.inr (.inl e)))) (fun _ h=>h) i (fun _ h=>.inl h) ?_ p.ms rfl rfl rfl⟩;have e:m.a.toNat=s:=by rw[d];rfl
 simp only[PS.Ms,PS.Ng,PS.Ml,e];exact r
def PP.i(p:PP w F b S o)(d:Wf S):∃r,o.k[S.c]?=some r/\aw w w.heap.size (sT r S.n S.n) S.Ml/\af w r 3 (ints S.Ml).toArray:=by
 obtain⟨r,c,a, -, -⟩:=p.e.m d.num;exact⟨r,c,p.e.a2 c d.num,a⟩
def np(p:PP w F b S o){r:Nat}(c:o.k[S.c]?=some r):Calls prog 119 #[pT b 0] w fun e a=>e=.returned (sT r S.n S.n)/\Below w w a/\a.heap=w.heap:=iM p.e c
def PP.a(p:PP w F b S o):af w b 159 #[J S.c,J S.n,J S.r,.bool S.f,.bool S.out,.bool S.h,J S.b,J S.m,J S.k,J S.g,J S.a.b,J S.a.m,o.h,eb o.c,sT o.kb S.n S.n,.map (some o.m),o.i,o.g,o.d]:=p.e.a
def PP.c(p:PP w F b S o)(a:Below w w w'):PP w' F b S o:=(p.d a).c
def BY(p:PP w F b S o)(m:Wf S)(C:S.e.length<=1000000)(q:Nat):Do 111 #[pT b 0,J q] (.tuple #[]) w F b o (S.gossip q):=by
 obtain⟨r,s, -, -⟩:=p.i m;have B:Hid (∀a,Below w w a->Calls prog 119 #[pT b 0] a fun e g=>e=.returned (sT r S.n S.n)/\Below a a g/\g.heap=a.heap):=fun a h=>np (p.c h) s;have f:Hid (∀a,Below w w a->Calls prog 165 #[pT b 0,.agg #[J 2,J 0,J q,J 0,J S.b,J S.g,J 0,sT r S.n S.n,sN,sN]] a fun e g=>e=.returned (.tuple #[])/\∃x,To w F b o g (S.gossip q) x):=fun a h=>by
  have A:=p.c h;exact(p.d h).g (oH A ⟨2,0,q,0,S.b,S.g,0,S.Ml,[],[]⟩ C (A.e.a2 s m.num) (.inl ⟨⟨_,_,rfl⟩,rfl⟩) (.inl ⟨⟨_,_,rfl⟩,rfl⟩))
 have y:Hid (∀a,Below w w a->a.cell? (aT b 6)=some (J S.b)/\a.cell? (aT b 9)=some (J S.g)):=fun a h=>⟨(p.c h).a.a 6 _ rfl,(p.c h).a.a 9 _ rfl⟩;clear p m s;go_enter Tryz.func111,Tryz.ntmps111
 go_wp2_with fail
 refine wp_region_held_drew (S:=fun a=>a.cell? (aT b 6)=some (J S.b)/\a.cell? (aT b 9)=some (J S.g)) rfl (y.out _ (Below.refl _ _).drew) (fun d=>?_)
 (iterate 11 refine ψ ?_)
 refine we 11 fun K k=>?_;go_simp;refine(B.out _ (Below.refl _ _).drew).mono ?_;rintro e D ⟨rfl,j, -⟩;have l:Hid (Below w w D):=((Below.refl _ _).drew).trans (j.mono ς);clear j;go_wp2_with fail
 refine k.out _ _ (y.out _ l.out) (fun d=>?_);clear k K;try simp only[pU]
 refine wk 12 ?_;refine we 13 fun K k=>?_;go_simp;refine(f.out _ l.out).mono ?_;rintro e z ⟨rfl,x,i⟩;have t:=ah i;have u:Hid (z.cell? (aT b 6)=some (J S.b)/\z.cell? (aT b 9)=some (J S.g)):=by
  have e:=(Md.ak S ⟨2,0,q,0,S.b,S.g,0,S.Ml,[],[]⟩).e;have c:=i.c.a;rw[show S.gossip q=_ from e] at c;exact⟨c.a 6 _ rfl,c.a 9 _ rfl⟩
 clear i f B;go_wp2_with fail
 refine k.out _ _ u.out (fun d=>?_);clear k K;try simp only[pU]
 refine wpAnyH_done κ ?_ _;go_wp2_with fail
 go_end0
 exact⟨rfl,x,t.out⟩
end
open Md (Wf MsgW)
variable {w w':World}{F:Nat->Prop}{b:Nat}{S:PS}{o:Pl}
def nU(p:PP w F b S o)(wf:Wf S)(hs:S.e.length<=1000000)(q:Nat)(m:Codec.Msg){tv:Value}(ht:aw w w.heap.size tv m.c):Do 141 #[pT b 0,J q,aU m tv] (.tuple #[]) w F b o (S.MN q m):=by
 obtain⟨i,k,l,rfl⟩:=ht.b;obtain⟨r,hr, -, -⟩:=p.i wf;have HR:Hid (∀a,Below w w a->Calls prog 119 #[pT b 0] a fun e x=>e=.returned (sT r S.n S.n)/\Below a a x/\x.heap=a.heap):=fun a B=>np (p.c B) hr;have z:Hid (∀a X,Below w w a->af a X 179 #[J m.a,J m.seq,.slice i k l,.string m.b]->Calls prog 165 #[pT b 0,.agg #[J 1,J 0,J q,J 0,J S.b,J 0,J 0,sT r S.n S.n,sN,sT X 1 1]] a fun e x=>e=.returned (.tuple #[])/\(∃o',To w F b o x (S.MN q m) o')/\cW (o.M b) a x/\x.cell? (aT b 6)=some (J S.b)):=fun a X B H=>by
  have p':=p.c B;have Y:ba a a.heap.size (sT X 1 1) [m]:=.inr ⟨X,0,1,rfl,H.f,fun j m' hj=>by
   match j,hj with
   | 0, hj =>
     simp only[AH,yA] at hj;subst hj;exact⟨.slice i k l,H.a 0 _ rfl,H.a 1 _ rfl,H.a 2 _ rfl,H.a 3 _ rfl,(ht.a B).d B.size⟩⟩
  refine(oH p' ⟨1,0,q,0,S.b,0,0,S.Ml,[],[m]⟩ hs (p'.e.a2 hr wf.num) (.inl ⟨⟨_,_,rfl⟩,rfl⟩) Y).mono ?_;rintro e x ⟨rfl,o',g⟩;have c:=g.c.a;rw[(Md.ak S ⟨1,0,q,0,S.b,0,0,S.Ml,[],[m]⟩).e] at c;exact⟨rfl,⟨o',(p.d B).a g⟩,g.e,c.a 6 _ rfl⟩
 have W:Hid (∀a,Below w w a->a.cell? (aT b 6)=some (J S.b)):=fun a B=>(p.c B).a.a 6 _ rfl;have O:Hid (¬o.M b w.heap.size):=fun e=>by have:=p.h e;omega
 obtain⟨v,t,mt,u⟩:=m;simp only at z;clear p hr wf ht;have HX:=af.d w _ rfl 179 #[J v,J t,.slice i k l,.string u];have A:Hid (∀a,Below (w.heap.size+1) (w.alloc (.cells #[J v,J t,.slice i k l,.string u] 179)) a->(a.cell? (aT b 6)=some (J S.b)/\a.cell? (aT w 0)=some (J v)/\a.cell? (aT w 1)=some (J t)/\a.cell? (aT w 2)=some (.slice i k l)/\a.cell? (aT w 3)=some (.string u))/\Below w w a):=fun a B=>by
  have H:=HX.c B ω;have hb:Below w w a:=((Below.refl _ _).alloc (yb _) _).trans (B.mono ω);exact⟨⟨W.out a hb,H.a 0 _ rfl,H.a 1 _ rfl,H.a 2 _ rfl,H.a 3 _ rfl⟩,hb⟩
 have y:Hid ((w.alloc (.cells #[J v,J t,.slice i k l,.string u] 179)).heap.size=w.heap.size+1):=by simp[Hid]
 clear HX W;unfold aU;go_enter Tryz.func141,Tryz.ntmps141
 go_wp2_with fail
 generalize w.alloc _=E at A y ⊢;refine wp_region_held_drew (S:=fun a=>a.cell? (aT b 6)=some (J S.b)/\a.cell? (aT w 0)=some (J v)/\a.cell? (aT w 1)=some (J t)/\a.cell? (aT w 2)=some (.slice i k l)/\a.cell? (aT w 3)=some (.string u)) rfl (A.out _ (Below.refl _ _).drew).1 (fun d=>?_)
 (iterate 7 refine ψ ?_);refine wk 8 ?_
 refine wpAnyH_ready κ ς (AllReadyH.cons (i:=7) rfl (fun K s=>?s7) (AllReadyH.cons (i:=9) rfl (fun K s=>?s9) AllReadyH.nil))
 case s7=>
  go_simp;refine(HR.out _ (A.out _ (Below.refl _ _).drew).2).mono ?_;rintro e P ⟨rfl,U, -⟩;have h:Hid (Below (w.heap.size+1) E P):=((Below.refl _ _).drew).trans (U.mono (by simp[y.out]));clear U;go_wp2_with fail
  refine s.out _ _ (A.out _ h.out).1 (fun d=>?_);clear s K;try simp only[pU]
  refine we 9 fun K s=>?_;go_simp;have f:Hid (Below (w.heap.size+1) E (P.alloc (.cells #[J v,J t,.slice i k l,.string u] 179))):=h.out.alloc (by have:=h.out.size;rw[y.out] at this;exact this) _;have N:Hid (af (P.alloc (.cells #[J v,J t,.slice i k l,.string u] 179)) P.heap.size 179 #[J v,J t,.slice i k l,.string u]):=af.d P P.heap.size rfl 179 _;generalize P.alloc (.cells #[J v,J t,.slice i k l,.string u] 179)=w3 at f N ⊢;refine s.out _ _ (A.out _ f.out).1 (fun d=>?_);clear s K;try simp only[pU]
  refine wk 10 ?_;refine we 11 fun K s=>?_;go_simp;refine(z.out _ _ (A.out _ f.out).2 N.out).mono ?_;rintro e D ⟨rfl,g,G,Z⟩;have R:Hid (D.cell? (aT b 6)=some (J S.b)/\D.cell? (aT w 0)=some (J v)/\D.cell? (aT w 1)=some (J t)/\D.cell? (aT w 2)=some (.slice i k l)/\D.cell? (aT w 3)=some (.string u)):=by
   have L:=G.block w.heap.size (by have:=f.out.size;rw[y.out] at this;omega) O.out;have I:=(A.out _ f.out).1;exact⟨Z,(World.cell?_of_block (a:=(aT w 0)) L).trans I.2.1,(World.cell?_of_block (a:=(aT w 1)) L).trans I.2.2.1,(World.cell?_of_block (a:=(aT w 2)) L).trans I.2.2.2.1,(World.cell?_of_block (a:=(aT w 3)) L).trans I.2.2.2.2⟩
  have C:=ah g;clear g G Z;go_wp2_with fail
  refine s.out _ _ R.out (fun d=>?_);clear s K;try simp only[pU]
  refine wpAnyH_done κ ?_ _;go_wp2_with fail
  go_end0
  exact⟨rfl,C.out⟩
 case s9=>
  go_simp;have h:Hid (Below (w.heap.size+1) E (E.alloc (.cells #[J v,J t,.slice i k l,.string u] 179)).drew):=((Below.refl _ _).alloc (by rw[y.out];omega) _).drew;have Q:Hid (af (E.alloc (.cells #[J v,J t,.slice i k l,.string u] 179)).drew E.heap.size 179 #[J v,J t,.slice i k l,.string u]):=(af.d E E.heap.size rfl 179 _).i;generalize (E.alloc (.cells #[J v,J t,.slice i k l,.string u] 179)).drew=P at h Q ⊢;refine s.out _ _ (A.out _ h.out).1 (fun d=>?_);clear s K;try simp only[pU]
  refine we 7 fun K s=>?_;go_simp;refine(HR.out _ (A.out _ h.out).2).mono ?_;rintro e w3 ⟨rfl,T,V⟩;have f:Hid (Below (w.heap.size+1) E w3):=h.out.trans (T.mono (by have:=h.out.size;rw[y.out] at this;exact this));have N:Hid (af w3 E.heap.size 179 #[J v,J t,.slice i k l,.string u]):=by
   have:=Q.out;unfold af at this;rw[<-V] at this;exact this
  clear T V Q;go_wp2_with fail
  refine s.out _ _ (A.out _ f.out).1 (fun d=>?_);clear s K;try simp only[pU]
  refine wk 10 ?_;refine we 11 fun K s=>?_;go_simp;refine(z.out _ _ (A.out _ f.out).2 N.out).mono ?_;rintro e D ⟨rfl,g,G,Z⟩;have R:Hid (D.cell? (aT b 6)=some (J S.b)/\D.cell? (aT w 0)=some (J v)/\D.cell? (aT w 1)=some (J t)/\D.cell? (aT w 2)=some (.slice i k l)/\D.cell? (aT w 3)=some (.string u)):=by
   have L:=G.block w.heap.size (by have:=f.out.size;rw[y.out] at this;omega) O.out;have I:=(A.out _ f.out).1;exact⟨Z,(World.cell?_of_block (a:=(aT w 0)) L).trans I.2.1,(World.cell?_of_block (a:=(aT w 1)) L).trans I.2.2.1,(World.cell?_of_block (a:=(aT w 2)) L).trans I.2.2.2.1,(World.cell?_of_block (a:=(aT w 3)) L).trans I.2.2.2.2⟩
  have C:=ah g;clear g G Z;go_wp2_with fail
  refine s.out _ _ R.out (fun d=>?_);clear s K;try simp only[pU]
  refine wpAnyH_done κ ?_ _;go_wp2_with fail
  go_end0
  exact⟨rfl,C.out⟩
def tR(p:PP w F b S o)(d:Wf S)(a:Int):Calls prog 164 #[pT b 0,J a] w fun e c=>∃v,e=.returned v/\c.ownsRow w 3 1 v (Md.iX a S.n).length (cz (Md.iX a S.n))/\Below w w c:=Gp p.e d.c a
def PP.head(p:PP w F b S o){S':PS}{vc':Value}{lb':Option Nat}(c:cW (fun x=>x=b) w w')(K:af w' b 159 ((zc S' vc' o.i lb').c (sT o.kb S.n S.n) (.map (some o.m)) o.g o.d))
 (G:S'.n=S.n) (s:S'.q=S.q) (l:S'.o=S.o) (y:S'.j=S.j) (t:S'.e=S.e) (z:S'.i=S.i)
 (H:aE w (o.R F b) vc' S'.a.a) (D:(lb'=o.c/\S'.d=S.d)\/(lb'=none/\S'.d=none)):To w F b o w' S' { o with h:=vc',c:=lb' }:=by
 have E:∀x,({ o with h:=vc',c:=lb' }:Pl).X x->o.X x:=fun x a=>by
  rcases D with ⟨e, -⟩|⟨e, -⟩
  ·rw[e] at a;exact a
  ·rw[e] at a;rcases a with i|i|i
   ·cases i
   ·cases i.1
   ·exact .inr (.inr i)
 have A:∀x,({ o with h:=vc',c:=lb' }:Pl).M b x->o.M b x:=fun x a=>a.elim .inl fun h=>.inr (E x h);have d:jo (o.R F b) (({ o with h:=vc',c:=lb' }:Pl).R F b) w w':=⟨c.size,fun g u f=>⟨⟨u.1,fun a=>u.2 (A g a)⟩,c.block g f fun e=>u.2 (.inl (.inl e))⟩⟩;have j:=fun x a=>c.block x (p.n a) fun e=>p.nx a (.inl e);have k:∀{e C:Nat}{v:Value}{n:Nat}{B:List Value},e≠159->eB w F e C v n B->eB w' F e C v n B:=fun I r=>r.i fun g f=>c.block g (r.k f) fun e=>r.o f p.e.a I (e▸rfl);refine⟨⟨?_,by rw[l];exact p.ms,fun x a=>p.fx x (E x a),fun x a=>p.up x (yr c.size a),H.f d,?_,by rw[z];exact p.left.c d fun g f=>j g (.inr (.inr f))⟩,c.e fun x _ a=>.inl (.inl a),fun x a=>.inl (A x a)⟩
 ·rw[s,y,t];exact p.e.p G K (fun x a m _ _=>c.block x a m) (k θ p.e.c) (k θ p.e.f)
 ·rcases D with ⟨e,q⟩|⟨e,q⟩
  ·subst e;rw[q];exact p.lead.a d j
  ·subst e;rw[q];trivial
def DX:((List.range 64).all fun a=>(List.range 64).all fun c=>decide (bits .andNot .i64 (a:Nat) (c:Nat)=Md.cX (a:Nat) (c:Nat)) && decide (bits .and .i64 (a:Nat) (c:Nat)=Md.fK (a:Nat) (c:Nat)) && decide (bits .or .i64 (a:Nat) (c:Nat)=Md.j9 (a:Nat) (c:Nat)) && decide (Md.cX (a:Nat) (c:Nat)<64) && decide (Md.fK (a:Nat) (c:Nat)<64) && decide (Md.j9 (a:Nat) (c:Nat)<64))=true:=κ
def cK{x y:Int}(d:Md.bj x)(e:Md.bj y):bits .andNot .i64 x y=Md.cX x y/\bits .and .i64 x y=Md.fK x y/\bits .or .i64 x y=Md.j9 x y/\Md.bj (Md.cX x y)/\Md.bj (Md.fK x y)/\Md.bj (Md.j9 x y):=by
 obtain⟨a,rfl⟩:=Fi d.1;obtain⟨c,rfl⟩:=Fi e.1;have m:a<64:=by have:=d.2;omega
 have k:c<64:=by have:=e.2;omega
 have n:=y5.1 DX a (zD.2 m);have f:=y5.1 n c (zD.2 k);simp only[yB,decide_eq_true_eq] at f;obtain⟨⟨⟨⟨⟨l,g⟩,i⟩,j⟩,h⟩,p⟩:=f;exact⟨l,g,i,⟨Int.natCast_nonneg _,j⟩,⟨Int.natCast_nonneg _,h⟩,⟨Int.natCast_nonneg _,p⟩⟩
def oE{q:Nat}(a:q<6):IntKind.i64.wrap (2 ^ min q 64)=Md.aO q/\Md.bj (Md.aO q):=by
 match q,a with
 |0,_=>exact⟨θ,θ,θ⟩
 |1,_=>exact⟨θ,θ,θ⟩
 |2,_=>exact⟨θ,θ,θ⟩
 |3,_=>exact⟨θ,θ,θ⟩
 |4,_=>exact⟨θ,θ,θ⟩
 |5,_=>exact⟨θ,θ,θ⟩
def Md.Wf.b2(a:Wf S):IntKind.i64.wrap (2 ^ min S.c 64)=Md.aO S.c/\Md.bj (Md.aO S.c):=oE (by have:=a.c;have:=a.num;omega)
def nm(p:PP w F b S o)(j:Wf S):Calls prog 110 #[pT b 0] w fun e a=>∃v,e=.returned v/\a.ownsRow w 3 1 v S.L8.length (cz S.L8)/\Below w w a:=by
 have r:Hid (∀a g,Below w w a->Calls prog 164 #[pT b 0,J g] a _):=fun a g l=>tR (p.c l) j g;have d:Hid (bits .andNot .i64 S.m (IntKind.i64.wrap (2 ^ min S.c 64))=Md.cX S.m (Md.aO S.c)):=by rw[Hid,j.b2.1,(cK j.mem j.b2.2).1]
 have n:Hid (∀a,Below _ w a->a.cell? (aT b 7)=some _/\a.cell? (aT b 0)=some _):=fun a l=>⟨(p.c l).a.a 7 _ rfl,(p.c l).a.a 0 _ rfl⟩;have q:0<=S.c:=ω;clear p j;go_enter Tryz.func110,Tryz.ntmps110
 go_wp2_with fail
 refine wp_region_held_drew (S:=fun a=>a.cell? (aT b 7)=some _/\a.cell? (aT b 0)=some (J S.c)) rfl (n.out _ (Below.refl _ _).drew) (fun f=>?_)
 (iterate 11 refine ψ ?_)
 refine we 11 fun K m=>?_;go_simp;refine(r.out _ _ (Below.refl _ _).drew).mono ?_;rintro e s ⟨v,rfl,c,i⟩;rw[d.out] at c;have k:Hid (Below w w s):=((Below.refl _ _).drew).trans (i.mono ς);have h:=ah c;clear c i d r;go_wp2_with fail
 refine m.out _ _ (n.out _ k.out) (fun f=>?_);clear m K;try simp only[pU]
 refine wk 12 ?_;refine wpAnyH_done κ ?_ _;go_wp2_with fail
 go_ret;exact⟨_,rfl,h.out,k.out⟩
def cW.a{w:World}{X:Nat}(j:Nat)(u:Value):cW (fun x=>x=X) w (w.setCell ⟨X,j,none⟩ u):=⟨rfl,rfl,rfl,ς,fun k _ a=>Below.heap_setCell _ _ _ _ a⟩
def qm(p:PP w F b S o)(g:Wf S){c:Int}(d:Md.bj c):Do 106 #[pT b 0,J c] (.tuple #[]) w F b o (S.suspect c):=by
 have e:=p.a;have q:=e.a 7 _ rfl;have y:=e.a 8 _ rfl;have s:=e.a 0 _ rfl;simp only[yf,yd,ye] at s q y;have n:0<=S.c:=ω;have x:=e.b 8;have l:=cK d g.mem;have j:=cK l.2.2.2.2.1 g.b2.2;have m:=cK g.sus j.2.2.2.1;have r:Hid (bits .or .i64 S.k (bits .andNot .i64 (bits .and .i64 c S.m) (IntKind.i64.wrap (2 ^ min S.c 64)))=(S.suspect c).k):=by rw[Hid,g.b2.1,l.2.1,j.1,m.2.2.1];rfl
 have i:Hid (∃u,To w F b o ((w.setCell ⟨b,8,none⟩ (J (S.suspect c).k)).drew) (S.suspect c) u):=⟨_,p.head ⟨rfl,rfl,rfl,ς,fun k _ v=>Below.heap_setCell _ _ _ _ v⟩ (e.e 8 _) rfl rfl rfl rfl rfl rfl p.vote (.inl ⟨rfl,rfl⟩)⟩;clear p g e l j m d;go_enter Tryz.func106,Tryz.ntmps106
 go_wp2_with fail
 refine gl.b (fun t=>t=w.drew) 19 rfl rfl (fun a=>?_)
 (iterate 17 refine χ ?_)
 refine te 17 fun K f=>?_;go_simp;refine f.out _ _ (fun _=>rfl) (fun a=>?_);clear f K;try simp only[pU]
 have a:=a θ;refine tk 18 ?_;refine te 19 fun K f=>?_;go_simp;refine f.out _ _ (fun h=>absurd rfl h) (fun _=>?_);clear f K;try simp only[pU]
 refine gl.done κ ?_ _;go_wp2_with fail
 go_end0
 rw[r.out];exact⟨rfl,i.out⟩
def pW(p:PP w F b S o)(a:Int):Calls prog 256 #[pT b 0,J a] w fun e j=>e=.returned (.bool (S.MY a))/\j=w:=by
 have c:=p.a.a 13 _ rfl;rcases p.lead.cases with ⟨f,d⟩|⟨x,B,f,d,h⟩
 ·have g:Hid (S.MY a=false):=by simp[Hid,PS.MY,d]
  rw[f] at c;simp only[eb,yf,yd,ye] at c;clear p f d;go_enter Tryz.func256,Tryz.ntmps256
  go_wp2
  go_ret;rw[g.out];exact⟨rfl,rfl⟩
 ·have g:Hid (S.MY a=decide (B.g=a)):=by simp only[Hid,PS.MY,d,Option.any_some];rfl
  have i:=h.c.a 0 _ rfl;rw[f] at c;simp only[eb,bu,yf,yd,ye] at c i;clear p f d h;go_enter Tryz.func256,Tryz.ntmps256
  go_wp2
  go_ret;rw[g.out];exact⟨rfl,rfl⟩
def qg(p:PP w F b S o)(a:Int):Do 236 #[pT b 0,J a] (.tuple #[]) w F b o (S.MH a):=by
 have d:=p.a;have c:To w F b o (w.setCell ⟨b,9,none⟩ (J a)) { S with g:=a } o:=p.head (cW.a 9 _) (d.e 9 _) rfl rfl rfl rfl rfl rfl p.vote (.inl ⟨rfl,rfl⟩);have f:Hid (Calls prog 256 #[pT b 0,J a] (w.setCell ⟨b,9,none⟩ (J a)) fun e l=>e=.returned (.bool (S.MY a))/\l=w.setCell ⟨b,9,none⟩ (J a)):=pW c.c a;have j:Hid (S.MY a=false->To w F b o ((w.setCell ⟨b,9,none⟩ (J a)).setCell ⟨b,13,none⟩ (.pointer none)) (S.MH a) { o with c:=none }):=fun e=>by
  have:S.MH a={ S with g:=a,d:=none }:=by unfold PS.MH;rw[e];rfl
  rw[this];exact c.a (c.c.head (S':={ S with g:=a,d:=none }) (vc':=o.h) (lb':=none) (cW.a 13 _) (c.c.a.e 13 _) rfl rfl rfl rfl rfl rfl c.c.vote (.inr ⟨rfl,rfl⟩))
 have q:Hid (S.MY a=true->To w F b o (w.setCell ⟨b,9,none⟩ (J a)) (S.MH a) o):=fun e=>by
  have:S.MH a={ S with g:=a }:=by unfold PS.MH;rw[e];rfl
  rw[this];exact c
 have m:=d.b 9;have k:=d.a 9 _ rfl;have i:=c.c.a.b 13;have h:=c.c.a.a 13 _ rfl;simp only[yf,yd,ye] at k h;clear p d c;cases g:S.MY a with
 | true =>
   rw[g] at f;go_enter Tryz.func236,Tryz.ntmps236
   go_wp2_with fail
   refine f.out.mono ?_;rintro e n ⟨rfl,rfl⟩;go_wp2_with fail
   go_end0
   exact⟨rfl,_,q.out g⟩
 | false =>
   rw[g] at f;go_enter Tryz.func236,Tryz.ntmps236
   go_wp2_with fail
   refine f.out.mono ?_;rintro e n ⟨rfl,rfl⟩;go_wp2_with fail
   go_end0
   exact⟨rfl,_,j.out g⟩
def tQ(p:PP w F b S o)(a:Int):Do 193 #[pT b 0,J a] (.tuple #[]) w F b o (S.Mx a):=by
 have g:=ah (qg p a);clear p;go_enter Tryz.func193,Tryz.ntmps193
 go_wp2_with fail
 refine g.out.mono ?_;rintro e l ⟨rfl,h,c⟩;have d:=c.c.a;have k:=d.b 5;have i:=d.a 5 _ rfl;simp only[yf,yd,ye] at i;have f:Hid (∃j,To w F b o _ _ j):=⟨_,c.a (c.c.head (S':=S.Mx a) (vc':=h.h) (lb':=h.c) (cW.a 5 _) (d.e 5 _) rfl rfl rfl rfl rfl rfl c.c.vote (.inl ⟨rfl,rfl⟩))⟩;clear c d g;go_wp2_with fail
 go_end0
 exact⟨rfl,f.out⟩
def Cm(x:Nat)(c:x<64)(w:World):Calls prog 294 #[.int .u64 x] w fun e a=>e=.returned (J (Md.ir x))/\a=w:=by
 go_enter Tryz.func294,Tryz.ntmps294
 go_wp2
 go_ret;refine⟨dN ?_,rfl⟩;clear w;revert x
 decide +kernel
def Ar(x:Nat)(a:x<64)(w:World):Calls prog 268 #[.int .u64 x] w fun e c=>e=.returned (J (Md.ir x))/\c=w:=by
 have h:=Cm x a;go_enter Tryz.func268,Tryz.ntmps268
 go_wp2_with (go_at_call 294;refine(h _).mono ?_;rintro e d ⟨rfl,rfl⟩)
 go_ret;exact⟨rfl,rfl⟩
def CH(w:World):Prop:=∀i:Nat,i<64->w.cell? (aT 1 i)=some (.int .u8 (Lib.deBruijn64tab.getD i 0:Nat))
def IC:∀x:Nat,x<64->x≠0->0<=(IntKind.u64.wrap (bits .and .u64 (x:Nat) (IntKind.u64.wrap (-(x:Nat))) * 285870213051353865) / 288230376151711744)/\(IntKind.u64.wrap (bits .and .u64 (x:Nat) (IntKind.u64.wrap (-(x:Nat))) * 285870213051353865) / 288230376151711744).toNat<64/\Lib.deBruijn64tab.getD (IntKind.u64.wrap (bits .and .u64 (x:Nat) (IntKind.u64.wrap (-(x:Nat))) * 285870213051353865) / 288230376151711744).toNat 0=Md.Ik x:=by decide +kernel
def K4:∀i:Nat,i<64->Lib.deBruijn64tab.getD i 0<64:=by decide +kernel
def EL(x:Nat)(f:x<64)(w:World)(c:CH w):Calls prog 235 #[.int .u64 x] w fun e i=>e=.returned (J (Md.Ik x))/\i=w:=by
 by_cases d:x=0
 ·subst d;go_enter Tryz.func235,Tryz.ntmps235
  go_wp2
  go_ret;exact⟨rfl,rfl⟩
 ·have g:¬x=0:=ω;have a:=IC x f d;have h:=c _ a.2.1;have k:=a.1;have l:(IntKind.u64.wrap (bits .and .u64 x (IntKind.u64.wrap (-(x:Nat))) * 285870213051353865) / 288230376151711744)<64:=by have:=a.2.1;omega
  rw[a.2.2] at h;have j:=ah (a.2.2▸K4 _ a.2.1);clear a c;go_enter Tryz.func235,Tryz.ntmps235
  go_wp2
  go_ret;refine⟨dN ?_,rfl⟩;have:=j.out;unfold wrap64;omega
def ID(x:Nat)(c:x<64)(w:World)(a:CH w):Calls prog 192 #[.int .u64 x] w fun e d=>e=.returned (J (Md.Ik x))/\d=w:=by
 have h:=EL x c w a;go_enter Tryz.func192,Tryz.ntmps192
 go_wp2_with (go_at_call 235;refine h.mono ?_;rintro e f ⟨rfl,rfl⟩)
 go_ret;exact⟨rfl,rfl⟩
def tX(s:Int):Md.ir s<=6:=by
 unfold Md.ir Md.iX;exact yr (G3 _ _) ς
def zx{x:Int}(h:Md.bj x):∃a:Nat,x=a/\a<64:=by
 obtain⟨a,rfl⟩:=Fi h.1;exact⟨a,rfl,by have:=h.2;omega⟩
def EM(p:PP w F b S o)(i:Wf S){d:Int}(c:Md.bj d):Calls prog 237 #[pT b 0,J d] w fun e q=>e=.returned (.bool (S.Nj d))/\Below w w q:=by
 have h:=p.a.a 7 _ rfl;simp only[yf,yd,ye] at h;obtain⟨a,rfl,n⟩:=zx c;obtain⟨m,g,f⟩:=zx i.mem;have k:Hid (S.Nj a=decide (Md.ir m<2 * Md.ir a)):=by unfold Hid PS.Nj;rw[g]
 rw[g] at h;have t:=tX a;have s:=tX (m:Nat);have l:=Ar a n;have j:=Ar m f;clear p i c g;generalize u:Md.ir _=A at *;generalize r:Md.ir _=M at *;go_enter Tryz.func237,Tryz.ntmps237
 go_wp2_with fail
 go_quiet (first|(go_at_call 268;exact Calls.quiet_of_same (l _))|(go_at_call 268;exact Calls.quiet_of_same (j _)))
 go_wp2_with fail
 go_ret;rw[k.out];refine⟨aB ?_,below_drewN (Below.refl _ _) _⟩;rw[Bool.eq_iff_iff];simp;omega
def Cq(p:PP w F b S o)(i:Wf S)(j:CH w):Calls prog 160 #[pT b 0] w fun e t=>e=.returned (.bool S.M4)/\Below w w t:=by
 have s:=p.a.a 0 _ rfl;have q:=p.a.a 7 _ rfl;have n:=p.a.a 8 _ rfl;simp only[yf,yd,ye] at s q n;have g:=cK i.mem i.sus;obtain⟨a,f,d⟩:=zx g.2.2.2.1;have c:=g.1.trans f;have l:=fun m=>ID a d (w.drewN m) j;have r:IntKind.u64.wrap (a:Int)=a:=by
  have:∀x:Nat,x<64->IntKind.u64.wrap (x:Int)=x:=by decide +kernel
  exact this a d
 by_cases h:S.k=0
 ·have k:Hid (S.M4=false):=by simp[Hid,PS.M4,h]
  rw[h] at n;clear p i j g f c l h;go_enter Tryz.func160,Tryz.ntmps160
  go_wp2_with fail
  go_quiet (fail)
  go_wp2_with fail
  go_ret;rw[k.out];exact⟨rfl,below_drewN (Below.refl _ _) _⟩
 ·have k:Hid (S.M4=decide (Md.Ik a=S.c)):=by simp[Hid,PS.M4,h,f]
  have u:(S.k == 0)=false:=by simpa using h
  clear p i j g f;go_enter Tryz.func160,Tryz.ntmps160
  go_wp2_with fail
  go_quiet ((go_at_call 192;exact Calls.quiet_of_same (l _)))
  go_wp2_with fail
  go_ret;rw[k.out];refine⟨aB ?_,below_drewN (Below.refl _ _) _⟩;rw[Bool.eq_iff_iff];simp;try omega
def ET(p:PP w F b S o):Calls prog 161 #[pT b 0] w fun e h=>e=.returned (.bool S.Nb)/\Below w w h:=by
 have a:=p.a.a 13 _ rfl;have j:=p.a.a 8 _ rfl;simp only[yf,yd,ye] at j;rcases p.lead.cases with ⟨d,c⟩|⟨x,B,d,c,g⟩
 ·have f:Hid (S.Nb=true):=by simp[Hid,PS.Nb,c]
  rw[d] at a;simp only[eb,yf,yd,ye] at a;clear p d c;go_enter Tryz.func161,Tryz.ntmps161
  go_wp2_with fail
  go_quiet (fail)
  go_wp2_with fail
  go_ret;rw[f.out];exact⟨rfl,below_drewN (Below.refl _ _) _⟩
 ·have f:Hid (S.Nb=decide (B.out≠S.k)):=by simp[Hid,PS.Nb,c]
  have i:=g.c.a 2 _ rfl;rw[d] at a;simp only[eb,bu,yf,yd,ye] at a i;clear p d c g;go_enter Tryz.func161,Tryz.ntmps161
  go_wp2_with fail
  go_quiet (fail)
  go_wp2_with fail
  go_ret;rw[f.out];refine⟨aB ?_,below_drewN (Below.refl _ _) _⟩;rw[Bool.eq_iff_iff];simp
section
structure cY (w:World) (Fn:Nat->Prop) (gb:Nat) (pv:Value) (lim:Nat) (pl:List bC) (nv:Value):Prop where
 a:af w gb 97 #[pv,J lim,nv]
 b:eB w Fn 111 2 nv pl.length (ar pl)
variable {w w':World}{Fn:Nat->Prop}{gb:Nat}{pv:Value}{lim:Nat}{pl:List bC}{nv:Value}
def cY.c(p:cY w Fn gb pv lim pl nv)(a:Below w w w'):cY w' Fn gb pv lim pl nv:=⟨p.a.c a p.a.f,p.b.i fun g b=>a.block g (p.b.k b)⟩
def cY.d(p:cY w Fn gb pv lim pl nv){F':Nat->Prop}(a:∀x,Fn x->F' x):cY w F' gb pv lim pl nv:=⟨p.a,p.b.d,fun g b=>a g (p.b.c g b)⟩
def cY.e(p:cY w Fn gb pv lim pl nv):some gb≠nv.ownBlock:=fun e=>p.b.o e.symm p.a θ rfl
def wC(p:cY w Fn gb pv lim pl nv):Calls prog 72 #[pT gb 1] w fun e b=>e=.returned (J pl.length)/\b=w:=by
 have c:=p.a.a 2 _ rfl;obtain⟨f,a,d⟩:=bG p.b.d;simp only[yf,yd,ye,d] at c;clear p;go_enter Tryz.func72,Tryz.ntmps72
 go_wp2_with fail
 go_ret;exact⟨rfl,rfl⟩
def kq(p:cY w Fn gb pv lim pl nv)(k:Nat)(h:k<pl.length):Calls prog 113 #[pT gb 1,J k] w fun e d=>e=.returned (.bool true)/\d=w:=by
 have f:=p.a.a 2 _ rfl;obtain⟨i,c,g⟩:=bG p.b.d;simp only[yf,yd,ye,g] at f;have b:0<=k:=ω;have a:k<pl.length:=ω;clear p;go_enter Tryz.func113,Tryz.ntmps113
 go_wp2_with fail
 go_ret;exact⟨rfl,rfl⟩
def je(lim:Nat)(pl:List bC)(c:bC):List bC:=if pl.length<lim then pl++[c] else pl
def qc(p:cY w Fn gb pv lim pl nv)(c:bC)(hl:pl.length<=1000000) :
 Calls prog 104 #[pT gb 1,.agg #[J c.1,.string c.2]] w fun e d=>e=.returned (.tuple #[])/\cW (fun x=>Fn x\/x=gb) w d/\∃a2,cY d (aY Fn w) gb pv lim (je lim pl c) a2:=by
 unfold je;obtain⟨k,m⟩:=c;simp only;obtain⟨i0,a4,a1,a3,a0⟩:=info_parts tP;have N:=ah p;obtain⟨C,E,hv⟩:=bG p.b.d;have G:Below w w (w.alloc (.cells #[J k,.string m] 111)):=(yi _ _).alloc (yb _) _;have hX:=af.d w _ rfl 111 #[J k,.string m];have P:Hid (∀d,Below (w.heap.size+1) (w.alloc (.cells #[J k,.string m] 111)) d->d.cell? (aT gb 1)=some (J lim)/\d.cell? (aT gb 2)=some (.slice C pl.length E)/\d.cell? (aT w 0)=some (J k)/\d.cell? (aT w 1)=some (.string m)):=fun d O=>by
  have hb:Below w w d:=G.trans (O.mono ω);have V:=(p.a.c hb p.a.f).a 2 _ rfl;simp only[yf,yd,ye,hv] at V;exact⟨(p.a.c hb p.a.f).a 1 _ rfl,V,(hX.c O ω).a 0 _ rfl,(hX.c O ω).a 1 _ rfl⟩
 have n:=ah G;have s:Hid ((w.alloc (.cells #[J k,.string m] 111)).heap.size=w.heap.size+1):=by simp[Hid]
 clear p G hX;obtain⟨Z,e2,e3,e4⟩:=P.out _ (yi _ _);by_cases Q:pl.length<lim
 ·have T:pl.length<lim:=ω;rw[if_pos Q];go_enter Tryz.func104,Tryz.ntmps104
  go_wp2_with fail
  generalize w.alloc _=W at P n s Z e2 e3 e4 ⊢;go_quiet (fail)
  go_wp2_with fail
  have t:Hid (Below (w.heap.size+1) W (W.drewN nq)):=below_drewN (yi _ _) nq;have v:Hid ((W.drewN nq).heap.size=w.heap.size+1):=by have:=s.out;simp[Hid,this]
  generalize W.drewN nq=l at t v ⊢;have B:Hid (cY l Fn gb pv lim pl nv/\Below w w l):=⟨N.out.c (n.out.trans (t.out.mono ω)),n.out.trans (t.out.mono ω)⟩;have r:Hid (∀d,Below l l d->d.cell? (aT gb 2)=some (.slice C pl.length E)/\d.cell? (aT w 0)=some (J k)/\d.cell? (aT w 1)=some (.string m)):=fun d O=>(P.out d (t.out.trans (O.mono (by rw[v.out];omega)))).2;have X:Hid (∀g,nv.ownBlock=some g->g<w.heap.size):=fun g hg=>N.out.b.k hg;subst hv;clear P n s Z e2 e3 e4;refine gl.b (fun d=>d.cell? (aT gb 2)=some (.slice C pl.length E)/\d.cell? (aT w 0)=some (J k)/\d.cell? (aT w 1)=some (.string m)) 10 rfl (r.out _ (yi _ _).drew) (fun a=>?_)
  (iterate 6 refine χ ?_)
  refine te 6 fun K o=>?_;go_simp;have j:Hid (Below l l (l.alloc (.cells #[J k,.string m] 111)).drew):=((yi _ _).alloc (yb _) _).drew;refine o.out _ _ (fun _=>r.out _ j.out) (fun a=>?_);clear o K;try simp only[pU]
  have HE:Hid (af (l.alloc (.cells #[J k,.string m] 111)).drew l.heap.size 111 #[J k,.string m]):=(af.d l l.heap.size rfl 111 _).i;have F:Hid ((l.alloc (.cells #[J k,.string m] 111)).drew.heap.size=l.heap.size+1):=by simp[Hid]
  generalize (l.alloc (.cells #[J k,.string m] 111)).drew=w4 at j HE F a ⊢;refine te 7 fun K o=>?_;refine step_append_lies w4 rfl (.tmp 18) (.tmp 20) 92 rfl 0 111 i0 _ 2 24 Tryz.underlying92 a4 a1 a3 a0 rfl θ (.slice C pl.length E) pl.length (ar pl) rfl (aQ B.out.1.b.d j.out) (aT l 0) 1 1 [J k,.string m] rfl rfl (IZ HE.out) (by intro u hu;simp only[yF,yU,or_false] at hu;rcases hu with rfl|rfl <;> rfl) ω (by simp[maxLen];omega) ω (oI _) (l.heap.size+1) F.out ?_;intro g H M A f b U;have Y:=B.out.1.e;have L:=yg B.out.1.a.f j.out.size;have I:Hid (M.cell? (aT gb 2)=some (.slice C pl.length E)/\M.cell? (aT w 0)=some (J k)/\M.cell? (aT w 1)=some (.string m)):=by
   have h4:=r.out _ j.out;have S:w.heap.size<w4:=by have:=j.out.size;rw[v.out] at this;omega
   have nx:some w.heap.size≠(Value.slice C pl.length E).ownBlock:=fun e=>by have:=X.out _ e.symm;omega
   exact⟨(f.cell_far ⟨gb,2,none⟩ L Y).trans h4.1,(f.cell_far ⟨w.heap.size,0,none⟩ S nx).trans h4.2.1,(f.cell_far ⟨w.heap.size,1,none⟩ S nx).trans h4.2.2⟩
  have q:af M gb 97 #[pv,J lim,.slice C pl.length E]:=(f.block gb L Y).trans (B.out.1.a.c j.out B.out.1.a.f);have y:g≠gb:=by
   rcases b with b|b
   ·exact fun e=>Y (by rw[<-e];exact b.symm)
   ·have:=B.out.1.a.f;omega
  have z:Hid (cW (fun x=>Fn x\/x=gb) w (M.setCell ⟨gb,2,none⟩ (sT g (pl.length+1) H))/\cY (M.setCell ⟨gb,2,none⟩ (sT g (pl.length+1) H)) (aY Fn w) gb pv lim (pl++[(k,m)]) (sT g (pl.length+1) H)):=by
   have R:=B.out.2;have i:=R.trans (j.out.mono R.size);refine⟨⟨f.os.trans i.os,f.tape.trans i.tape,f.output.trans i.output,by simpa using yr i.size f.size,fun x hx hF=>?_⟩,q.e 2 _,⟨?_,fun g' D=>?_⟩⟩
   ·rw[yT _ _ _ _ (fun e=>hF (.inr e))];exact(f.block x (yg hx i.size) fun e=>hF (.inl (N.out.b.c x e.symm))).trans (i.block x hx)
   ·rw[yC,kQ];refine aj A fun g' D=>?_;have:g'=g:=by simpa[Value.ownBlock] using D.symm
    subst this;exact yT _ _ _ _ y
   ·have:g'=g:=by simpa[Value.ownBlock] using D.symm
    subst this;rcases b with b|b
    ·exact .inl (N.out.b.c _ b)
    ·exact .inr (by rw[b,v.out];omega)
  have a5:=q.b 2;clear A f b U a HE F j r Y L q y B N X;refine o.out _ _ (fun _=>I.out) (fun a=>?_);clear o K;try simp only[pU]
  have a:=a θ;refine te 8 fun K o=>?_;go_simp;refine o.out _ _ (fun _=>I.out) (fun a=>?_);clear o K;try simp only[pU]
  refine te 9 fun K o=>?_;go_simp;refine o.out _ _ (fun _=>I.out) (fun a=>?_);clear o K;try simp only[pU]
  have a:=a θ;refine te 10 fun K o=>?_;go_simp;refine o.out _ _ (fun h=>absurd rfl h) (fun _=>?_);clear o K;try simp only[pU]
  refine gl.done κ ?_ _;go_wp2_with fail
  go_end0
  exact⟨rfl,z.out.1,_,z.out.2⟩
 ·have T:¬(pl.length:Int)<(lim:Int):=ω;rw[if_neg Q];go_enter Tryz.func104,Tryz.ntmps104
  go_wp2_with fail
  generalize w.alloc (.cells #[J k,.string m] 111)=W at P n s Z e2 e3 e4 ⊢;go_quiet (fail)
  go_wp2_with fail
  go_end0
  exact⟨rfl,cW.d (below_drewN n.out _),nv,(N.out.c (below_drewN n.out _)).d aY.c⟩
end

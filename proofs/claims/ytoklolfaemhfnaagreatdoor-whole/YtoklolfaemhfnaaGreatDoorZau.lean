import Derived.Deep.RegionLaw
import Derived.Test.YtoklolfaemhfnaaGreatDoorZat
set_option maxRecDepth 100000
set_option maxHeartbeats 8000000
open Go.Proofs.Tryz (prog)
namespace Go.Proofs.YtoklolfaemhfnaaGreatDoor
section
open Go.RowKit
theorem info50:(prog.info? 179).map (fun i=>(i.zero,i.size,i.bytes))=some (some (.agg #[J 0,J 0,sN,.string ⟨#[]⟩]),4,56):=by kernel_rfl
def msgCells:List Codec.Msg->List Value->List Value
 |m::ms,tv::tvs=>[J m.sender,J m.seq,tv,.string m.text]++msgCells ms tvs
 |_,_=>[]
theorem qg1(ms:List Codec.Msg):∀(tvs:List Value) (m:Codec.Msg) (tv:Value),tvs.length=ms.length->
 msgCells (ms++[m]) (tvs++[tv])=msgCells ms tvs++[J m.sender,J m.seq,tv,.string m.text]:=by
 induction ms with
 |nil=>intro tvs m tv h;have:tvs=[]:=yaz h;subst this;simp[msgCells]
 | cons x ms ih =>
   intro tvs m tv h;cases tvs with
   |nil=>simp at h
   |cons y tvs=>simp[msgCells,ih tvs m tv (by simpa using h)]
def Apart(vs:List Value):Prop:=vs.Pairwise (fun a b=>∀g,a.ownBlock=some g->b.ownBlock≠some g)
theorem Apart.snoc{vs:List Value}{tv:Value}(H:Nat)(h:Apart vs)(h1:∀v∈vs,∀g,v.ownBlock=some g->g<H)(h2:∀g,tv.ownBlock=some g->H<=g):Apart (vs++[tv]):=by
 unfold Apart;rw[List.pairwise_append];refine⟨h,List.pairwise_singleton _ _,fun a ha b hb g hg e=>?_⟩;simp at hb;subst hb;have:=h1 a ha g hg;have:=h2 g e;omega
theorem Apart.swap{vs:List Value}{v v':Value}(H:Nat)(h:Apart (v::vs))(h1:∀x∈vs,∀g,x.ownBlock=some g->g<H)(h2:v'.ownBlock=v.ownBlock\/∃g,v'.ownBlock=some g/\H<=g):Apart (v'::vs):=by
 unfold Apart at h ⊢;rw[ya5] at h ⊢;refine⟨fun b hb g hg e=>?_,h.2⟩;rcases h2 with e'|⟨g',e',hH⟩
 ·rw[e'] at hg;exact h.1 b hb g hg e
 ·rw[e'] at hg;injection hg with hg;subst hg;have:=h1 b hb _ e;omega
def MsgsOwn(w:World)(base:Nat)(v:Value)(ms:List Codec.Msg)(tvs:List Value):Prop:=
 tvs.length=ms.length/\w.ownsRow base 179 4 v ms.length (msgCells ms tvs)/\∀(k:Nat) (m:Codec.Msg) (tv:Value),ms[k]?=some m->tvs[k]?=some tv->w.ownsRow base 3 1 tv m.time.length (ints m.time)
structure FrameOwn (w:World) (base:Nat) (f:Codec.Frame) (rv cv mv:Value) (tvs:List Value):Prop where
 row:w.ownsRow base 3 1 rv f.row.length (ints f.row)
 cut:w.ownsRow base 3 1 cv f.cut.length (ints f.cut)
 msgs:MsgsOwn w base mv f.msgs tvs
 apart:Apart (mv::rv::cv::tvs)
theorem RdTo.drew{w w':World}{rb:Nat}{l:List UInt8}(h:RdTo w w' rb l):RdTo w w'.drew rb l:=⟨h.1,h.2.os,h.2.tape,h.2.output,h.2.size,h.2.block⟩
theorem RdTo.undrew{w w':World}{rb:Nat}{l:List UInt8}(h:RdTo w.drew w' rb l):RdTo w w' rb l:=⟨h.1,h.2.os,h.2.tape,h.2.output,h.2.size,h.2.block⟩
theorem qle{m:Nat}{l l2:List UInt8}{z:Codec.Msg}(h:Codec.msg l=(z,l2)):Codec.msgs (m+1) l=(z::(Codec.msgs m l2).1,(Codec.msgs m l2).2):=by
 rw[Codec.msgs,h]
theorem qlf(l:List UInt8):(Codec.msg l).2.length<=l.length:=by
 unfold Codec.msg;exact yr (qld _) (yr (qcl _).2 (yr (qh _).2.2 (qh _).2.2))
theorem qg2{wr w2 w3:World}{base rb n sz X j:Nat}{e:TypeId}{l3:List UInt8}{mv v u:Value}{xs:List Value}{o:Obj}(h:wr.ownsRow base e sz v n xs)(r2:RdTo wr w2 rb l3)(hrb:rb<base)
 (ha:∀g,mv.ownBlock=some g->v.ownBlock≠some g) (hgrow:(w2.alloc o).grownBy w3 mv.ownBlock) (hX:X<base):(w3.setCell ⟨X,j,none⟩ u).ownsRow base e sz v n xs:=by
 refine ownsRow_setCell_below (a:=(aT X j)) (((qa3 h r2 hrb).alloc o).kept hgrow ?_) hX u;rcases ho:v.ownBlock with _|g
 ·exact .inl rfl
 ·right;intro e;exact ha g e.symm ho
theorem qqg{wr w2 w3:World}{base rb X j n7 n8 g cap:Nat}{l3:List UInt8}{mv rv cv tv u:Value}{xs7 xs8:List Value}{acc:List Codec.Msg}{tvs:List Value}{m:Codec.Msg}{o:Obj}
 (HMO:MsgsOwn wr base mv acc tvs) (HAP:Apart (mv::rv::cv::tvs)) (O8:wr.ownsRow base 3 1 rv n7 xs7) (O9:wr.ownsRow base 3 1 cv n8 xs8) (r2:RdTo wr w2 rb l3) (hrb:rb<base)
 (O2:w2.ownsRow wr.heap.size 3 1 tv m.time.length (ints m.time)) (hbase:base<=wr.heap.size)
 (hown3:w3.ownsRow base 179 4 (sT g (acc.length+1) cap) (acc.length+1) (msgCells acc tvs++[J m.sender,J m.seq,tv,.string m.text]))
 (hgrow:(w2.alloc o).grownBy w3 mv.ownBlock) (hat:mv.ownBlock=some g\/g=w2.heap.size+1) (hX:X<base) :
 MsgsOwn (w3.setCell ⟨X,j,none⟩ u) base (sT g (acc.length+1) cap) (acc++[m]) (tvs++[tv])/\Apart (sT g (acc.length+1) cap::rv::cv::(tvs++[tv]))/\
  (w3.setCell ⟨X,j,none⟩ u).ownsRow base 3 1 rv n7 xs7/\(w3.setCell ⟨X,j,none⟩ u).ownsRow base 3 1 cv n8 xs8:=by
 obtain⟨hlen,hM,hT⟩:=HMO;have hs2:=r2.size;have hA:=HAP;unfold Apart at hA;rw[ya5] at hA;have tk:∀(k:Nat) (x:Value),tvs[k]?=some x->∃y:Codec.Msg,acc[k]?=some y:=fun k x hk=>by
  have:=(ym.1 hk).1;exact⟨acc[k],yh (by omega)⟩
 refine⟨⟨by simp[hlen],?_,?_⟩,?_,?_,?_⟩
 ·rw[qg1 acc tvs m tv hlen];have:=ownsRow_setCell_below (a:=(aT X j)) hown3 hX u;simpa using this
 ·intro k y x hy hx;by_cases hk:k<acc.length
  ·rw[y7 hk] at hy;rw[y7 (by omega)] at hx;exact qg2 (hT k y x hy hx) r2 hrb (fun g hg e=>hA.1 x (by simp;exact .inr (.inr (yy hx))) g hg e) hgrow hX
  ·rw[yaw (by omega)] at hy;rw[yaw (by omega)] at hx;have hk0:k - acc.length=0:=by
    rcases ybh (k - acc.length) with h|h
    ·exact h
    ·rw[List.getElem?_eq_none (by simp;omega)] at hy;cases hy
   rw[hk0] at hy;rw[show k - tvs.length=0 from by omega] at hx;simp at hy hx;subst hy hx;refine ownsRow_setCell_below (a:=(aT X j)) (((qf O2 hbase).alloc o).kept hgrow ?_) hX u;rcases ho:tv.ownBlock with _|g'
   ·exact .inl rfl
   ·right;intro e;have h1:=(O2.lt g' ho).1;have h2:=(hM.lt g' e.symm).2;omega
 ·have h1:∀x∈rv::cv::tvs,∀g,x.ownBlock=some g->g<wr.heap.size:=by
   intro x hx g hg;simp at hx;rcases hx with rfl|rfl|hx
   ·exact(O8.lt g hg).2
   ·exact(O9.lt g hg).2
   ·obtain⟨k,hk⟩:=yaP.1 hx;obtain⟨y,hy⟩:=tk k x hk;exact((hT k y x hy hk).lt g hg).2
  have s1:Apart (mv::rv::cv::(tvs++[tv])):=by
   have:Apart ((mv::rv::cv::tvs)++[tv]):=HAP.snoc wr.heap.size (fun x hx=>by
    rcases yF.1 hx with rfl|hx
    ·exact fun g hg=>(hM.lt g hg).2
    ·exact h1 x hx) (fun g hg=>(O2.lt g hg).1)
   simpa using this
  refine s1.swap (w2.heap.size+1) ?_ ?_
  ·intro x hx g hg;simp at hx;rcases hx with rfl|rfl|hx|rfl
   ·have:=h1 x (by simp) g hg;omega
   ·have:=h1 x (by simp) g hg;omega
   ·have:=h1 x (by simp[hx]) g hg;omega
   ·have:=(O2.lt g hg).2;omega
  ·rcases hat with e|e
   ·exact .inl (by rw[e];rfl)
   ·exact .inr ⟨g,rfl,by omega⟩
 ·exact qg2 O8 r2 hrb (fun g hg e=>hA.1 rv (by simp) g hg e) hgrow hX
 ·exact qg2 O9 r2 hrb (fun g hg e=>hA.1 cv (by simp) g hg e) hgrow hX
theorem qlg{o:Oper}{a:Act}(w:World)(x:Operand)(hop:o.op=Op.call { callee:=.value (.func 203),args:=#[x],argTypes:=#[241] }) :
 (execOp a.eval o).run prog w=.ok (.enter 203 #[a.eval x]) w:=by
 unfold execOp;rw[hop];simp[go_sem]
theorem qjl{ops:Array Oper}{o:Oper}{a:Act}{w:World}{K:Act->World->Prop}{Q:Exit->Act->World->Prop}{E:Prop}(hg:o.guard=none)(x:Operand)
 (hop:o.op=Op.call { callee:=.value (.func 203),args:=#[x],argTypes:=#[241] }) (v:Value) (hx:a.eval x=v) (R:Ending->World->Prop) (hc:Calls prog 203 #[v] w R)
 (h:∀e w',R e w'->∃r,e=.returned r/\K (a.put o.dst r) w') :
 if Region.wanted o (yielded ops a.tmps)=true then Oper.wp prog o a w K Q else E:=by
 have hw:Region.wanted o (yielded ops a.tmps)=true:=by simp[Region.wanted,hg]
 rw[if_pos hw];unfold Oper.wp;rw[qlg w x hop,hx];refine hc.mono (fun e w' hr=>?_);obtain⟨r,rfl,hk⟩:=h e w' hr;exact hk
theorem qct(l l2:List UInt8)(f:Codec.Frame)(rb:Nat)(w:World)(hz:Codec.frame l=(f,l2))(h:RdAt w rb l)(hl:l.length<=140737488351232) :
 Calls prog 167 #[pT rb 0] w fun e w'=>∃rv cv mv tvs,e=.returned (.agg #[J f.kind,J f.src,J f.dst,J f.members,J f.view,J f.ballot,J f.voted,rv,cv,mv])/\
  FrameOwn w' w.heap.size f rv cv mv tvs/\RdTo w w' rb l2:=by
 obtain⟨x0,l0,h0⟩:∃n r,Codec.oct l=(n,r):=⟨_,_,rfl⟩;obtain⟨x1,l1,h1⟩:∃n r,Codec.oct l0=(n,r):=⟨_,_,rfl⟩;obtain⟨x2,l2',h2⟩:∃n r,Codec.oct l1=(n,r):=⟨_,_,rfl⟩;obtain⟨x3,l3,h3⟩:∃n r,Codec.oct l2'=(n,r):=⟨_,_,rfl⟩;obtain⟨x4,l4,h4⟩:∃n r,Codec.word l3=(n,r):=⟨_,_,rfl⟩;obtain⟨x5,l5,h5⟩:∃n r,Codec.word l4=(n,r):=⟨_,_,rfl⟩;obtain⟨x6,l6,h6⟩:∃n r,Codec.word l5=(n,r):=⟨_,_,rfl⟩;obtain⟨x7,l7,h7⟩:∃n r,Codec.nums l6=(n,r):=⟨_,_,rfl⟩;obtain⟨x8,l8,h8⟩:∃n r,Codec.nums l7=(n,r):=⟨_,_,rfl⟩;obtain⟨x9,l9,h9⟩:∃n r,Codec.oct l8=(n,r):=⟨_,_,rfl⟩;have hb0:=(qh l).2.2;have hb1:=(qh l0).2.2;have hb2:=(qh l1).2.2;have hb3:=(qh l2').2.2;have hb4:=qdn l3;have hb5:=qdn l4;have hb6:=qdn l5;have hb7:=(qcl l6).2;have hb8:=(qcl l7).2;have hb9:=qh l8;rw[h0] at hb0;rw[h1] at hb1;rw[h2] at hb2;rw[h3] at hb3;rw[h4] at hb4;rw[h5] at hb5;rw[h6] at hb6;rw[h7] at hb7;rw[h8] at hb8;rw[h9] at hb9;obtain⟨hn0,hn1,hb9⟩:=hb9;simp only at hb0 hb1 hb2 hb3 hb4 hb5 hb6 hb7 hb8 hb9 hn0 hn1;obtain⟨n,rfl⟩:=yal hn0;obtain⟨ms,l10,h10⟩:∃ms r,Codec.msgs n l9=(ms,r):=⟨_,_,rfl⟩;have e:Codec.frame l=(⟨x0,x1,x2,x3,x4,x5,x6,x7,x8,ms⟩,l10):=by simp only[Codec.frame,h0,h1,h2,h3,h4,h5,h6,h7,h8,h9,yai,h10]
 rw[e] at hz;injection hz with hm hl2;subst hm;subst hl2;simp only;have H0:Hid (_=_):=h0;have H1:Hid (_=_):=h1;have H2:Hid (_=_):=h2;have H3:Hid (_=_):=h3;have H4:Hid (_=_):=h4;have H5:Hid (_=_):=h5;have H6:Hid (_=_):=h6;have H7:Hid (_=_):=h7;have H8:Hid (_=_):=h8;have H9:Hid (_=_):=h9;have H10:Hid (_=_):=h10;clear h0 h1 h2 h3 h4 h5 h6 h7 h8 h9 h10 e hn0;have hrlt:=h.lt;have nX:w.heap.size+1≠rb:=by omega
 have nD:w.heap.size≠rb:=by omega
 have nXD:w.heap.size+1≠w.heap.size:=by omega
 obtain⟨i0,hi,hz0,hz1,hz2⟩:=info_parts info50;obtain⟨Z,hZ⟩:∃Z:Array Value,Z=#[J 0,J 0,J 0,J 0,J 0,J 0,J 0,sN,sN,sN]:=⟨_,rfl⟩;have R0:RdTo w ((w.alloc (.cells Z 165)).alloc (.cells Z 165)) rb l:=((RdTo.refl h).alloc _).alloc _;have V0:=BlkAt.new (w.alloc (.cells Z 165)) (w.heap.size+1) (by simp) 165 Z;have D0:=(BlkAt.new w w.heap.size rfl 165 Z).alloc (.cells Z 165);rw[hZ] at R0 V0 D0;clear hZ;go_enter Tryz.func167,Tryz.ntmps167
 go_wp2_with fail
 refine(qak l x0 l0 rb _ H0.out R0.1 hl).mono ?_;rintro e w1 ⟨rfl,r1⟩;have R1:=R0.trans r1;have V1:=V0.rd r1 nX;have D1:=D0.rd r1 nD;clear R0 V0 D0 r1;have c:=V1.cell 0 _ rfl;have f:=V1.frozen 0;go_wp2_with fail
 replace R1:=R1.setNew (show w.heap.size<=w.heap.size+1 by omega) nX 0 (J x0);replace V1:BlkAt _ _ 165 #[J x0,J 0,J 0,J 0,J 0,J 0,J 0,sN,sN,sN]:=V1.set 0 (J x0);replace D1:=D1.other nXD.symm 0 (J x0);refine(qak l0 x1 l1 rb _ H1.out R1.1 (by omega)).mono ?_;rintro e w2 ⟨rfl,r2⟩;have R2:=R1.trans r2;have V2:=V1.rd r2 nX;have D2:=D1.rd r2 nD;clear R1 V1 D1 r2 c f;have c:=V2.cell 1 _ rfl;have f:=V2.frozen 1;go_wp2_with fail
 replace R2:=R2.setNew (show w.heap.size<=w.heap.size+1 by omega) nX 1 (J x1);replace V2:BlkAt _ _ 165 #[J x0,J x1,J 0,J 0,J 0,J 0,J 0,sN,sN,sN]:=V2.set 1 (J x1);replace D2:=D2.other nXD.symm 1 (J x1);refine(qak l1 x2 l2' rb _ H2.out R2.1 (by omega)).mono ?_;rintro e w3 ⟨rfl,r3⟩;have R3:=R2.trans r3;have V3:=V2.rd r3 nX;have D3:=D2.rd r3 nD;clear R2 V2 D2 r3 c f;have c:=V3.cell 2 _ rfl;have f:=V3.frozen 2;go_wp2_with fail
 replace R3:=R3.setNew (show w.heap.size<=w.heap.size+1 by omega) nX 2 (J x2);replace V3:BlkAt _ _ 165 #[J x0,J x1,J x2,J 0,J 0,J 0,J 0,sN,sN,sN]:=V3.set 2 (J x2);replace D3:=D3.other nXD.symm 2 (J x2);refine(qak l2' x3 l3 rb _ H3.out R3.1 (by omega)).mono ?_;rintro e w4 ⟨rfl,r4⟩;have R4:=R3.trans r4;have V4:=V3.rd r4 nX;have D4:=D3.rd r4 nD;clear R3 V3 D3 r4 c f;have c:=V4.cell 3 _ rfl;have f:=V4.frozen 3;go_wp2_with fail
 replace R4:=R4.setNew (show w.heap.size<=w.heap.size+1 by omega) nX 3 (J x3);replace V4:BlkAt _ _ 165 #[J x0,J x1,J x2,J x3,J 0,J 0,J 0,sN,sN,sN]:=V4.set 3 (J x3);replace D4:=D4.other nXD.symm 3 (J x3);refine(qjk l3 l4 x4 rb _ H4.out R4.1 (by omega)).mono ?_;rintro e w5 ⟨rfl,r5⟩;have R5:=R4.trans r5;have V5:=V4.rd r5 nX;have D5:=D4.rd r5 nD;clear R4 V4 D4 r5 c f;have c:=V5.cell 4 _ rfl;have f:=V5.frozen 4;go_wp2_with fail
 replace R5:=R5.setNew (show w.heap.size<=w.heap.size+1 by omega) nX 4 (J x4);replace V5:BlkAt _ _ 165 #[J x0,J x1,J x2,J x3,J x4,J 0,J 0,sN,sN,sN]:=V5.set 4 (J x4);replace D5:=D5.other nXD.symm 4 (J x4);refine(qjk l4 l5 x5 rb _ H5.out R5.1 (by omega)).mono ?_;rintro e w6 ⟨rfl,r6⟩;have R6:=R5.trans r6;have V6:=V5.rd r6 nX;have D6:=D5.rd r6 nD;clear R5 V5 D5 r6 c f;have c:=V6.cell 5 _ rfl;have f:=V6.frozen 5;go_wp2_with fail
 replace R6:=R6.setNew (show w.heap.size<=w.heap.size+1 by omega) nX 5 (J x5);replace V6:BlkAt _ _ 165 #[J x0,J x1,J x2,J x3,J x4,J x5,J 0,sN,sN,sN]:=V6.set 5 (J x5);replace D6:=D6.other nXD.symm 5 (J x5);refine(qjk l5 l6 x6 rb _ H6.out R6.1 (by omega)).mono ?_;rintro e w7 ⟨rfl,r7⟩;have R7:=R6.trans r7;have V7:=V6.rd r7 nX;have D7:=D6.rd r7 nD;clear R6 V6 D6 r7 c f;have c:=V7.cell 6 _ rfl;have f:=V7.frozen 6;go_wp2_with fail
 replace R7:=R7.setNew (show w.heap.size<=w.heap.size+1 by omega) nX 6 (J x6);replace V7:BlkAt _ _ 165 #[J x0,J x1,J x2,J x3,J x4,J x5,J x6,sN,sN,sN]:=V7.set 6 (J x6);replace D7:=D7.other nXD.symm 6 (J x6);have hX7:=V7.lt;refine(qg0 l6 l7 x7 rb _ H7.out R7.1 (by omega)).mono ?_;rintro e w8 ⟨rv,rfl,O8,r8⟩;have R8:=R7.trans r8;have V8:=V7.rd r8 nX;have D8:=D7.rd r8 nD;replace O8:=qf (base':=w.heap.size+2) O8 (by omega);clear R7 V7 D7 r8 c f;obtain⟨ro,rn,rc,rfl⟩:=qi O8;have c:=V8.cell 7 _ rfl;have f:=V8.frozen 7;go_wp2_with fail
 replace R8:=R8.setNew (show w.heap.size<=w.heap.size+1 by omega) nX 7 (.slice ro rn rc);replace V8:BlkAt _ _ 165 #[J x0,J x1,J x2,J x3,J x4,J x5,J x6,.slice ro rn rc,sN,sN]:=V8.set 7 (.slice ro rn rc);replace D8:=D8.other nXD.symm 7 (.slice ro rn rc);replace O8:=ownsRow_setCell_below O8 (a:=⟨w.heap.size+1,7,none⟩) (by show w.heap.size+1<w.heap.size+2;omega) (.slice ro rn rc);have hO8:=fun g hg=>(O8.lt g hg).2;refine(qg0 l7 l8 x8 rb _ H8.out R8.1 (by omega)).mono ?_;rintro e w9 ⟨cv,rfl,O9,r9⟩;have R9:=R8.trans r9;have V9:=V8.rd r9 nX;have D9:=D8.rd r9 nD;have hO9:=fun g hg=>(O9.lt g hg).1;have hX8:=V8.lt;replace O9:=qf (base':=w.heap.size+2) O9 (by omega);replace O8:=qa3 O8 r9 (by omega);clear R8 V8 D8 r9 c f;obtain⟨co,cn,cc,rfl⟩:=qi O9;have AP:Apart [sN,.slice ro rn rc,.slice co cn cc]:=by
  unfold Apart;simp only[ya5,yF,List.mem_nil_iff,or_false,forall_eq_or_imp,forall_eq];refine⟨⟨fun g hg=>by simp[Value.ownBlock] at hg,fun g hg=>by simp[Value.ownBlock] at hg⟩,fun g hg e=>?_,by simp,List.Pairwise.nil⟩;have:=hO8 g hg;have:=hO9 g e;omega
 clear hO8 hO9;have c:=V9.cell 8 _ rfl;have f:=V9.frozen 8;go_wp2_with fail
 replace R9:=R9.setNew (show w.heap.size<=w.heap.size+1 by omega) nX 8 (.slice co cn cc);replace V9:BlkAt _ _ 165 #[J x0,J x1,J x2,J x3,J x4,J x5,J x6,.slice ro rn rc,.slice co cn cc,sN]:=V9.set 8 (.slice co cn cc);replace D9:=D9.other nXD.symm 8 (.slice co cn cc);replace O8:=ownsRow_setCell_below O8 (a:=⟨w.heap.size+1,8,none⟩) (by show w.heap.size+1<w.heap.size+2;omega) (.slice co cn cc);replace O9:=ownsRow_setCell_below O9 (a:=⟨w.heap.size+1,8,none⟩) (by show w.heap.size+1<w.heap.size+2;omega) (.slice co cn cc);refine(qak l8 _ l9 rb _ H9.out R9.1 (by omega)).mono ?_;rintro e w10 ⟨rfl,r10⟩;have R:=R9.trans r10;have V:=V9.rd r10 nX;have D:=D9.rd r10 nD;replace O8:=qa3 O8 r10 (by omega);replace O9:=qa3 O9 r10 (by omega);clear R9 V9 D9 r10 c f;have MO:MsgsOwn w10 (w.heap.size+2) (sN) [] []:=⟨rfl,y9 _ _ _ _,fun k m tv hk=>by simp at hk⟩;have hXs:=V.lt;go_wp2
 go_loopw [33] (fun i wr=>∃(k:Nat) (acc:List Codec.Msg) (tvs:List Value) (l':List UInt8) (mo:Option Addr) (mn mc:Nat),k<=n/\i=J k/\acc.length=k/\l'.length<=140737488351232/\
  Hid (Codec.msgs n l9=(acc++(Codec.msgs (n - k) l').1,(Codec.msgs (n - k) l').2))/\Hid (MsgsOwn wr (w.heap.size+2) (.slice mo mn mc) acc tvs)/\Hid (Apart (.slice mo mn mc::.slice ro rn rc::.slice co cn cc::tvs))/\
  wr.ownsRow (w.heap.size+2) 3 1 (.slice ro rn rc) x7.length (ints x7)/\wr.ownsRow (w.heap.size+2) 3 1 (.slice co cn cc) x8.length (ints x8)/\
  BlkAt wr (w.heap.size+1) 165 #[J x0,J x1,J x2,J x3,J x4,J x5,J x6,.slice ro rn rc,.slice co cn cc,.slice mo mn mc]/\
  BlkAt wr w.heap.size 165 #[J 0,J 0,J 0,J 0,J 0,J 0,J 0,sN,sN,sN]/\RdTo w wr rb l') (fun i _=>n - (intOf i).toNat)
 case atStart=>exact⟨0,[],[],l9,none,0,0,by omega,rfl,rfl,by omega,by show _=_;simp,MO,AP,O8,O9,V,D,R⟩
 case round=>
  clear MO AP O8 O9 V D R hXs;obtain⟨k,acc,tvs,l',mo,mn,mc,hk,rfl,hacc,hl',HL,HMO,HAP,O8,O9,V,D,R⟩:=hrel;have hsz:=R.size;have hXs:=V.lt;by_cases hlt:k<n
  ·obtain⟨m,l3',hml⟩:∃m r,Codec.msg l'=(m,r):=⟨_,_,rfl⟩;have hmb:=qlf l';rw[hml] at hmb;simp only at hmb;have HS:Hid (Codec.msgs n l9=((acc++[m])++(Codec.msgs (n - (k+1)) l3').1,(Codec.msgs (n - (k+1)) l3').2)):=by
    show _=_;rw[HL.out,show n - k=(n - (k+1))+1 from by omega,qle hml];simp
   have HML:Hid (_=_):=hml;have HACC:Hid (_=_):=hacc;have HV:Hid (_:Prop):=V;clear hml hacc;have c9:=V.cell 9 _ rfl;have f9:=V.frozen 9;have hrb2:rb<w.heap.size+2:=by omega
   have HmX:Hid ((Value.slice mo mn mc).ownBlock≠some (w.heap.size+1)):=fun e=>by have:=(HMO.out.2.1.lt _ e).1;omega
   go_wp2_with fail
   go_region_law (first|(refine step_append_lies _ (by rfl) _ _ _ (by rfl) (w.heap.size+2) 179 i0 _ 4 56 Tryz.underlying163 hi hz0 hz1 hz2 rfl (by omega) (.slice mo mn mc) acc.length (msgCells acc tvs) (by rfl) (M2.alloc _) (aT w2.heap.size 0) 1 1 [J m.sender,J m.seq,.slice tao tn tc,.string m.text] (by rfl) (by rfl) (yaB (cs:=#[J m.sender,J m.seq,.slice tao tn tc,.string m.text]) (t:=179) (fr:=(0,0)) (heap_alloc_new w2 _)) (by simp[Value.oneCell']) (by omega) (by unfold maxLen;rw[HACC.out];omega) (by rw[HACC.out];omega) (by simp;omega) (w2.heap.size+1) (by simp) ?_;intro gg cap w3 hown3 hgrow hat hlt3;have V3:=(V2.alloc _).grown hgrow HmX.out;have c3:=V3.cell 9 _ rfl;have f3:=V3.frozen 9)|(refine qjl (by rfl) _ (by rfl) (pT rb 0) (by rfl) _ (qqf l' l3' m rb wr.drew HML.out R.1 hl') ?_;rintro e w2 ⟨tv,rfl,O2,r2d⟩;obtain⟨tao,tn,tc,rfl⟩:=qi O2;refine⟨_,rfl,?_⟩;have r2:=r2d.undrew;have V2:BlkAt w2 _ 165 _:=BlkAt.rd V r2 nX;have c2:=V2.cell 9 _ rfl;have f2:=V2.frozen 9;have c2a:=fun o=>(V2.alloc o).cell 9 _ rfl;have s2:=r2.size;have M2:=qa3 HMO.out.2.1 r2 hrb2))
   all_goals
    have HF:Hid (_/\_):=qqg (X:=w.heap.size+1) (j:=9) (u:=sT gg (acc.length+1) cap) HMO.out HAP.out O8 O9 r2 hrb2 O2 (by omega) hown3 hgrow hat (by omega);have R4:Hid (RdTo _ _ _ _):=(((R.trans r2).alloc _).grown hgrow (fun q hq=>by have:=(HMO.out.2.1.lt q hq).1;omega)).setNew (show w.heap.size<=w.heap.size+1 by omega) nX 9 (sT gg (acc.length+1) cap);have V4:Hid (BlkAt _ _ 165 #[J x0,J x1,J x2,J x3,J x4,J x5,J x6,.slice ro rn rc,.slice co cn cc,sT gg (acc.length+1) cap]):=V3.set 9 (sT gg (acc.length+1) cap);have D4:Hid (BlkAt _ _ _ _):=(((D.rd r2 nD).alloc _).grown hgrow (fun q=>by have:=(HMO.out.2.1.lt _ q).1;omega)).other nXD.symm 9 (sT gg (acc.length+1) cap);clear hown3 hgrow hat hlt3 V3 c3 f3 c2 f2 c2a M2 V2 r2 r2d O2 V D R O8 O9;go_wp2
    go_roundw
    case rel=>exact⟨k+1,acc++[m],_,l3',some ⟨gg,0,none⟩,_,cap,by omega,by go_num,by simp[HACC.out],by omega,HS,HF.out.1,HF.out.2.1,HF.out.2.2.1,HF.out.2.2.2,V4.out,D4.out,R4.out⟩
    case measure=>simp[intOf];omega
  ·have hkn:k=n:=by omega
   subst hkn;have e1:=H10.out.symm.trans HL.out;rw[Nat.sub_self] at e1;simp only[Codec.msgs,ya0,yau] at e1;obtain⟨e1,e2⟩:=e1;have HE1:Hid (_=_):=e1;have HE2:Hid (_=_):=e2;have HACC:Hid (_=_):=hacc;clear e1 e2 hacc;have hD2:w.heap.size<w.heap.size+2:=by omega
   have c0:=V.cell 0 _ rfl;have g0:=D.cell 0 _ rfl;have q0:=D.frozen 0;have c1:=V.cell 1 _ rfl;have g1:=D.cell 1 _ rfl;have q1:=D.frozen 1;have c2:=V.cell 2 _ rfl;have g2:=D.cell 2 _ rfl;have q2:=D.frozen 2;have c3:=V.cell 3 _ rfl;have g3:=D.cell 3 _ rfl;have q3:=D.frozen 3;have c4:=V.cell 4 _ rfl;have g4:=D.cell 4 _ rfl;have q4:=D.frozen 4;have c5:=V.cell 5 _ rfl;have g5:=D.cell 5 _ rfl;have q5:=D.frozen 5;have c6:=V.cell 6 _ rfl;have g6:=D.cell 6 _ rfl;have q6:=D.frozen 6;have c7:=V.cell 7 _ rfl;have g7:=D.cell 7 _ rfl;have q7:=D.frozen 7;have c8:=V.cell 8 _ rfl;have g8:=D.cell 8 _ rfl;have q8:=D.frozen 8;have c9:=V.cell 9 _ rfl;have g9:=D.cell 9 _ rfl;have q9:=D.frozen 9;have RF:Hid (RdTo _ _ _ _):=((((((((((R.setNew (yb _) nD 0 (J x0)).setNew (yb _) nD 1 (J x1)).setNew (yb _) nD 2 (J x2)).setNew (yb _) nD 3 (J x3)).setNew (yb _) nD 4 (J x4)).setNew (yb _) nD 5 (J x5)).setNew (yb _) nD 6 (J x6)).setNew (yb _) nD 7 (.slice ro rn rc)).setNew (yb _) nD 8 (.slice co cn cc)).setNew (yb _) nD 9 (.slice mo mn mc));have OR:Hid (World.ownsRow _ _ _ _ _ _ _):=(ownsRow_setCell_below (ownsRow_setCell_below (ownsRow_setCell_below (ownsRow_setCell_below (ownsRow_setCell_below (ownsRow_setCell_below (ownsRow_setCell_below (ownsRow_setCell_below (ownsRow_setCell_below (ownsRow_setCell_below O8 (a:=(aT w.heap.size 0)) hD2 (J x0)) (a:=(aT w.heap.size 1)) hD2 (J x1)) (a:=(aT w.heap.size 2)) hD2 (J x2)) (a:=(aT w.heap.size 3)) hD2 (J x3)) (a:=(aT w.heap.size 4)) hD2 (J x4)) (a:=(aT w.heap.size 5)) hD2 (J x5)) (a:=(aT w.heap.size 6)) hD2 (J x6)) (a:=(aT w.heap.size 7)) hD2 (.slice ro rn rc)) (a:=(aT w.heap.size 8)) hD2 (.slice co cn cc)) (a:=(aT w.heap.size 9)) hD2 (.slice mo mn mc));have OC:Hid (World.ownsRow _ _ _ _ _ _ _):=(ownsRow_setCell_below (ownsRow_setCell_below (ownsRow_setCell_below (ownsRow_setCell_below (ownsRow_setCell_below (ownsRow_setCell_below (ownsRow_setCell_below (ownsRow_setCell_below (ownsRow_setCell_below (ownsRow_setCell_below O9 (a:=(aT w.heap.size 0)) hD2 (J x0)) (a:=(aT w.heap.size 1)) hD2 (J x1)) (a:=(aT w.heap.size 2)) hD2 (J x2)) (a:=(aT w.heap.size 3)) hD2 (J x3)) (a:=(aT w.heap.size 4)) hD2 (J x4)) (a:=(aT w.heap.size 5)) hD2 (J x5)) (a:=(aT w.heap.size 6)) hD2 (J x6)) (a:=(aT w.heap.size 7)) hD2 (.slice ro rn rc)) (a:=(aT w.heap.size 8)) hD2 (.slice co cn cc)) (a:=(aT w.heap.size 9)) hD2 (.slice mo mn mc));have OM:Hid (World.ownsRow _ _ _ _ _ _ _):=(ownsRow_setCell_below (ownsRow_setCell_below (ownsRow_setCell_below (ownsRow_setCell_below (ownsRow_setCell_below (ownsRow_setCell_below (ownsRow_setCell_below (ownsRow_setCell_below (ownsRow_setCell_below (ownsRow_setCell_below HMO.out.2.1 (a:=(aT w.heap.size 0)) hD2 (J x0)) (a:=(aT w.heap.size 1)) hD2 (J x1)) (a:=(aT w.heap.size 2)) hD2 (J x2)) (a:=(aT w.heap.size 3)) hD2 (J x3)) (a:=(aT w.heap.size 4)) hD2 (J x4)) (a:=(aT w.heap.size 5)) hD2 (J x5)) (a:=(aT w.heap.size 6)) hD2 (J x6)) (a:=(aT w.heap.size 7)) hD2 (.slice ro rn rc)) (a:=(aT w.heap.size 8)) hD2 (.slice co cn cc)) (a:=(aT w.heap.size 9)) hD2 (.slice mo mn mc));have OT:Hid (∀(q:Nat) (y:Codec.Msg) (z:Value),acc[q]?=some y->tvs[q]?=some z->World.ownsRow _ _ _ _ _ _ _):=fun q y z hy hz=>(ownsRow_setCell_below (ownsRow_setCell_below (ownsRow_setCell_below (ownsRow_setCell_below (ownsRow_setCell_below (ownsRow_setCell_below (ownsRow_setCell_below (ownsRow_setCell_below (ownsRow_setCell_below (ownsRow_setCell_below (HMO.out.2.2 q y z hy hz) (a:=(aT w.heap.size 0)) hD2 (J x0)) (a:=(aT w.heap.size 1)) hD2 (J x1)) (a:=(aT w.heap.size 2)) hD2 (J x2)) (a:=(aT w.heap.size 3)) hD2 (J x3)) (a:=(aT w.heap.size 4)) hD2 (J x4)) (a:=(aT w.heap.size 5)) hD2 (J x5)) (a:=(aT w.heap.size 6)) hD2 (J x6)) (a:=(aT w.heap.size 7)) hD2 (.slice ro rn rc)) (a:=(aT w.heap.size 8)) hD2 (.slice co cn cc)) (a:=(aT w.heap.size 9)) hD2 (.slice mo mn mc));clear R V D O8 O9;go_wp2
   refine bodyPost_ret (v:=.agg #[J x0,J x1,J x2,J x3,J x4,J x5,J x6,.slice ro rn rc,.slice co cn cc,.slice mo mn mc]) (by simp[results,Tryz.results167,go_sem,g0,g1,g2,g3,g4,g5,g6,g7,g8,g9]) rfl ⟨_,_,_,tvs,rfl,⟨qf OR.out (by omega),qf OC.out (by omega),⟨?_,?_,?_⟩,HAP.out⟩,?_⟩
   ·rw[HE1.out];exact HMO.out.1
   ·rw[HE1.out];exact qf OM.out (by omega)
   ·intro q y z hy hz;rw[HE1.out] at hy;exact qf (OT.out q y z hy hz) (by omega)
   ·rw[HE2.out];exact RF.out
theorem qad{w:World}{base n:Nat}{v:Value}{l:List Int}(h:w.ownsRow base 3 1 v n (ints l)):NumsAt w w.heap.size v l:=by
 have hn:l.length=n:=by have:=h.1;rw[qex] at this;omega
 rcases h.2 with ⟨hv,h0⟩|⟨g,cap,cur,hv,hb,hg,_⟩
 ·exact .inl ⟨⟨_,_,hv⟩,yaz (by omega)⟩
 ·refine .inr ⟨g,0,cap,by rw[hv,hn],(h.lt g (by rw[hv];rfl)).2,fun j hj=>?_⟩;rw[yS];subst hv;exact qom h hn j (by omega)
theorem qjm(ms:List Codec.Msg):∀(tvs:List Value) (j:Nat) (m:Codec.Msg) (tv:Value),ms[j]?=some m->tvs[j]?=some tv->
 (msgCells ms tvs)[j * 4]?=some (J m.sender)/\(msgCells ms tvs)[j * 4+1]?=some (J m.seq)/\(msgCells ms tvs)[j * 4+2]?=some tv/\(msgCells ms tvs)[j * 4+3]?=some (.string m.text):=by
 induction ms with
 |nil=>intro tvs j m tv h;simp at h
 | cons x ms ih =>
   intro tvs j m tv h1 h2;cases tvs with
   |nil=>simp at h2
   | cons t tvs =>
     cases j with
     |zero=>simp at h1 h2;subst h1 h2;simp[msgCells]
     | succ j =>
       simp at h1 h2;have:=ih tvs j m tv h1 h2;have e:∀q,(msgCells (x::ms) (t::tvs))[(j+1) * 4+q]?=(msgCells ms tvs)[j * 4+q]?:=by
        intro q;rw[show (j+1) * 4+q=4+(j * 4+q) from by omega,msgCells,yaw (by simp)];simp
       have e0:=e 0;simp only[ya4] at e0;rw[e0,e 1,e 2,e 3];exact this
theorem qcu{w:World}{base:Nat}{v:Value}{ms:List Codec.Msg}{tvs:List Value}(h:MsgsOwn w base v ms tvs):MsgsAt w w.heap.size v ms:=by
 obtain⟨hl,hM,hT⟩:=h;rcases hM.2 with ⟨hv,h0⟩|⟨g,cap,cur,hv,hb,hg,_⟩
 ·exact .inl ⟨⟨_,_,hv⟩,yaz h0⟩
 ·refine .inr ⟨g,0,cap,hv,(hM.lt g (by rw[hv];rfl)).2,fun j m hj=>?_⟩;have hjl:=(ym.1 hj).1;have ht:tvs[j]?=some (tvs[j]'(by omega)):=yh (by omega);refine⟨tvs[j]'(by omega),?_⟩;have hc:=qjm ms tvs j m _ hj ht;subst hv;have hcell:∀q,q<4->w.cell? ⟨g,0+j * 4+q,none⟩=(msgCells ms tvs)[j * 4+q]?:=fun q hq=>by
   rw[yS];exact hM.cellAt (j * 4+q) (by omega)
  have c0:=hcell 0 (by omega);simp only[ya4] at c0;exact⟨c0.trans hc.1,(hcell 1 (by omega)).trans hc.2.1,(hcell 2 (by omega)).trans hc.2.2.1,(hcell 3 (by omega)).trans hc.2.2.2,qad (hT j m _ hj ht)⟩
theorem FrameOwn.later{w w':World}{base:Nat}{f:Codec.Frame}{rv cv mv:Value}{tvs:List Value}(h:FrameOwn w base f rv cv mv tvs)(hb:Below w.heap.size w w'):FrameOwn w' base f rv cv mv tvs:=
 ⟨qo h.row hb,qo h.cut hb,⟨h.msgs.1,qo h.msgs.2.1 hb,fun k m tv hk ht=>qo (h.msgs.2.2 k m tv hk ht) hb⟩,h.apart⟩
theorem FrameOwn.setBelow{w:World}{base:Nat}{f:Codec.Frame}{rv cv mv:Value}{tvs:List Value}(h:FrameOwn w base f rv cv mv tvs){a:Addr}(ha:a.block<base)(u:Value):FrameOwn (w.setCell a u) base f rv cv mv tvs:=
 ⟨ownsRow_setCell_below h.row ha u,ownsRow_setCell_below h.cut ha u,⟨h.msgs.1,ownsRow_setCell_below h.msgs.2.1 ha u,fun k m tv hk ht=>ownsRow_setCell_below (h.msgs.2.2 k m tv hk ht) ha u⟩,h.apart⟩
theorem FrameOwn.base{w:World}{base base':Nat}{f:Codec.Frame}{rv cv mv:Value}{tvs:List Value}(h:FrameOwn w base f rv cv mv tvs)(hb:base'<=base):FrameOwn w base' f rv cv mv tvs:=
 ⟨qf h.row hb,qf h.cut hb,⟨h.msgs.1,qf h.msgs.2.1 hb,fun k m tv hk ht=>qf (h.msgs.2.2 k m tv hk ht) hb⟩,h.apart⟩
theorem qlh(s:List UInt8)(f:Codec.Frame)(l2:List UInt8)(w:World)(hl:s.length<=140737488351232)(hfl:Codec.frame s=(f,l2))(hfit:Codec.fits f=true)(henc:Codec.encB f=s) :
 Calls prog 115 #[.string ⟨s.toArray⟩] w fun e w'=>∃rv cv mv tvs,e=.returned (.tuple #[.agg #[J f.kind,J f.src,J f.dst,J f.members,J f.view,J f.ballot,J f.voted,rv,cv,mv],J 0])/\
  FrameOwn w' w.heap.size f rv cv mv tvs/\Below w.heap.size w w':=by
 have HFL:Hid (_=_):=hfl;have HE:Hid (_=_):=henc;clear hfl henc;go_enter Tryz.func115,Tryz.ntmps115
 go_wp2_with fail
 have RA:RdAt ((w.alloc (.cells #[J 0,J 0,J 0,J 0,J 0,J 0,J 0,sN,sN,sN] 165)).alloc (.cells #[.string ⟨s.toArray⟩] 207)) (w.heap.size+1) s:=by
  have V0:=BlkAt.new (w.alloc (.cells #[J 0,J 0,J 0,J 0,J 0,J 0,J 0,sN,sN,sN] 165)) (w.heap.size+1) (by simp) 207 #[.string ⟨s.toArray⟩];exact⟨V0.cell 0 _ rfl,V0.frozen 0⟩
 have D0:=(BlkAt.new w w.heap.size rfl 165 #[J 0,J 0,J 0,J 0,J 0,J 0,J 0,sN,sN,sN]).alloc (.cells #[.string ⟨s.toArray⟩] 207);refine(qct s l2 f (w.heap.size+1) _ HFL.out RA hl).mono ?_;rintro e w1 ⟨rv,cv,mv,tvs,rfl,FO,r1⟩;have D1:=D0.rd r1 (by omega);have s1:=r1.size;simp at s1;have b1:Below w.heap.size w w1:=(((yi w.heap.size w).alloc (yb _) _).alloc (by simp) _).trans (r1.below (by simp;omega) (by omega));replace FO:=FO.base (base':=w.heap.size+2) (by simp);clear RA D0 r1;obtain⟨ro,rn,rc,rfl⟩:=qi FO.row;obtain⟨co,cn,cc,rfl⟩:=qi FO.cut;obtain⟨mo,mn,mc,rfl⟩:=qi FO.msgs.2.1;have N1:=qad FO.row;have N2:=qad FO.cut;have N3:=qcu FO.msgs;have bo:Below w1.heap.size w1 (w1.alloc (.cells #[J f.kind,J f.src,J f.dst,J f.members,J f.view,J f.ballot,J f.voted,.slice ro rn rc,.slice co cn cc,.slice mo mn mc] 165)):=(yi _ _).alloc (yb _) _;have F1:=BlkAt.new w1 w1.heap.size rfl 165 #[J f.kind,J f.src,J f.dst,J f.members,J f.view,J f.ballot,J f.voted,.slice ro rn rc,.slice co cn cc,.slice mo mn mc];have FO1:=FO.later bo;have HN1:Hid (NumsAt _ _ _ _):=N1.below bo;have HN2:Hid (NumsAt _ _ _ _):=N2.below bo;have HN3:Hid (MsgsAt _ _ _ _):=N3.below bo;have D1':=D1.alloc (.cells #[J f.kind,J f.src,J f.dst,J f.members,J f.view,J f.ballot,J f.voted,.slice ro rn rc,.slice co cn cc,.slice mo mn mc] 165);have hbA:=b1.trans (bo.mono (by omega));clear N1 N2 N3 FO bo b1 D1;go_wp2_with fail
 refine(qdm f _ _ _ w1.heap.size _ HN1.out HN2.out HN3.out (by simp) hfit).mono ?_;rintro e w2 ⟨rfl,hb2⟩;have D2:=D1'.below hb2 (by simp;omega);have F2:=F1.below hb2 (by simp);have FO2:=FO1.later hb2;have hbB:=hbA.trans (hb2.mono (by simp;omega));clear D1' F1 FO1 hb2 hbA HN1 HN2 HN3;rw[HE.out];have g0:=D2.cell 0 _ rfl;have q0:=D2.frozen 0;have c0:=F2.cell 0 _ rfl;have g1:=D2.cell 1 _ rfl;have q1:=D2.frozen 1;have c1:=F2.cell 1 _ rfl;have g2:=D2.cell 2 _ rfl;have q2:=D2.frozen 2;have c2:=F2.cell 2 _ rfl;have g3:=D2.cell 3 _ rfl;have q3:=D2.frozen 3;have c3:=F2.cell 3 _ rfl;have g4:=D2.cell 4 _ rfl;have q4:=D2.frozen 4;have c4:=F2.cell 4 _ rfl;have g5:=D2.cell 5 _ rfl;have q5:=D2.frozen 5;have c5:=F2.cell 5 _ rfl;have g6:=D2.cell 6 _ rfl;have q6:=D2.frozen 6;have c6:=F2.cell 6 _ rfl;have g7:=D2.cell 7 _ rfl;have q7:=D2.frozen 7;have c7:=F2.cell 7 _ rfl;have g8:=D2.cell 8 _ rfl;have q8:=D2.frozen 8;have c8:=F2.cell 8 _ rfl;have g9:=D2.cell 9 _ rfl;have q9:=D2.frozen 9;have c9:=F2.cell 9 _ rfl;have hD2:w.heap.size<w.heap.size+2:=by omega
 have HF:Hid (FrameOwn _ _ _ _ _ _ _):=((((((((((FO2.setBelow (a:=(aT w.heap.size 0)) hD2 (J f.kind)).setBelow (a:=(aT w.heap.size 1)) hD2 (J f.src)).setBelow (a:=(aT w.heap.size 2)) hD2 (J f.dst)).setBelow (a:=(aT w.heap.size 3)) hD2 (J f.members)).setBelow (a:=(aT w.heap.size 4)) hD2 (J f.view)).setBelow (a:=(aT w.heap.size 5)) hD2 (J f.ballot)).setBelow (a:=(aT w.heap.size 6)) hD2 (J f.voted)).setBelow (a:=(aT w.heap.size 7)) hD2 (.slice ro rn rc)).setBelow (a:=(aT w.heap.size 8)) hD2 (.slice co cn cc)).setBelow (a:=(aT w.heap.size 9)) hD2 (.slice mo mn mc));have HB:Hid (Below _ _ _):=((((((((((hbB.setCell (p:=(aT w.heap.size 0)) (yb _) (J f.kind)).setCell (p:=(aT w.heap.size 1)) (yb _) (J f.src)).setCell (p:=(aT w.heap.size 2)) (yb _) (J f.dst)).setCell (p:=(aT w.heap.size 3)) (yb _) (J f.members)).setCell (p:=(aT w.heap.size 4)) (yb _) (J f.view)).setCell (p:=(aT w.heap.size 5)) (yb _) (J f.ballot)).setCell (p:=(aT w.heap.size 6)) (yb _) (J f.voted)).setCell (p:=(aT w.heap.size 7)) (yb _) (.slice ro rn rc)).setCell (p:=(aT w.heap.size 8)) (yb _) (.slice co cn cc)).setCell (p:=(aT w.heap.size 9)) (yb _) (.slice mo mn mc));clear hbB FO2 F2 D2;go_wp2
 exact bodyPost_ret (v:=.tuple #[.agg #[J f.kind,J f.src,J f.dst,J f.members,J f.view,J f.ballot,J f.voted,.slice ro rn rc,.slice co cn cc,.slice mo mn mc],J 0]) (by simp[results,Tryz.results115,go_sem,g0,g1,g2,g3,g4,g5,g6,g7,g8,g9]) rfl ⟨_,_,_,tvs,rfl,HF.out.base (by omega),HB.out⟩
theorem qic(s:List UInt8)(f:Codec.Frame)(l2:List UInt8)(w:World)(hl:s.length<=140737488351232)(hfl:Codec.frame s=(f,l2))(hfit:Codec.fits f=false) :
 Calls prog 115 #[.string ⟨s.toArray⟩] w fun e w'=>e=.returned (.tuple #[.agg #[J 0,J 0,J 0,J 0,J 0,J 0,J 0,sN,sN,sN],J 3])/\Below w.heap.size w w':=by
 have HFL:Hid (_=_):=hfl;clear hfl;go_enter Tryz.func115,Tryz.ntmps115
 go_wp2_with fail
 have RA:RdAt ((w.alloc (.cells #[J 0,J 0,J 0,J 0,J 0,J 0,J 0,sN,sN,sN] 165)).alloc (.cells #[.string ⟨s.toArray⟩] 207)) (w.heap.size+1) s:=by
  have V0:=BlkAt.new (w.alloc (.cells #[J 0,J 0,J 0,J 0,J 0,J 0,J 0,sN,sN,sN] 165)) (w.heap.size+1) (by simp) 207 #[.string ⟨s.toArray⟩];exact⟨V0.cell 0 _ rfl,V0.frozen 0⟩
 have D0:=(BlkAt.new w w.heap.size rfl 165 #[J 0,J 0,J 0,J 0,J 0,J 0,J 0,sN,sN,sN]).alloc (.cells #[.string ⟨s.toArray⟩] 207);refine(qct s l2 f (w.heap.size+1) _ HFL.out RA hl).mono ?_;rintro e w1 ⟨rv,cv,mv,tvs,rfl,FO,r1⟩;have D1:=D0.rd r1 (by omega);have s1:=r1.size;simp at s1;have b1:Below w.heap.size w w1:=(((yi w.heap.size w).alloc (yb _) _).alloc (by simp) _).trans (r1.below (by simp;omega) (by omega));replace FO:=FO.base (base':=w.heap.size+2) (by simp);clear RA D0 r1;obtain⟨ro,rn,rc,rfl⟩:=qi FO.row;obtain⟨co,cn,cc,rfl⟩:=qi FO.cut;obtain⟨mo,mn,mc,rfl⟩:=qi FO.msgs.2.1;have N1:=qad FO.row;have N2:=qad FO.cut;have N3:=qcu FO.msgs;have bo:Below w1.heap.size w1 (w1.alloc (.cells #[J f.kind,J f.src,J f.dst,J f.members,J f.view,J f.ballot,J f.voted,.slice ro rn rc,.slice co cn cc,.slice mo mn mc] 165)):=(yi _ _).alloc (yb _) _;have F1:=BlkAt.new w1 w1.heap.size rfl 165 #[J f.kind,J f.src,J f.dst,J f.members,J f.view,J f.ballot,J f.voted,.slice ro rn rc,.slice co cn cc,.slice mo mn mc];have FO1:=FO.later bo;have HN1:Hid (NumsAt _ _ _ _):=N1.below bo;have HN2:Hid (NumsAt _ _ _ _):=N2.below bo;have HN3:Hid (MsgsAt _ _ _ _):=N3.below bo;have D1':=D1.alloc (.cells #[J f.kind,J f.src,J f.dst,J f.members,J f.view,J f.ballot,J f.voted,.slice ro rn rc,.slice co cn cc,.slice mo mn mc] 165);have hbA:=b1.trans (bo.mono (by omega));clear N1 N2 N3 FO bo b1 D1;go_wp2_with fail
 refine(qmw f _ _ _ w1.heap.size _ HN1.out HN2.out HN3.out (by simp) hfit).mono ?_;rintro e w2 ⟨rfl,hb2⟩;have D2:=D1'.below hb2 (by simp;omega);have hbB:=hbA.trans (hb2.mono (by simp;omega));clear D1' F1 FO1 hb2 hbA HN1 HN2 HN3;have g0:=D2.cell 0 _ rfl;have q0:=D2.frozen 0;have g1:=D2.cell 1 _ rfl;have q1:=D2.frozen 1;have g2:=D2.cell 2 _ rfl;have q2:=D2.frozen 2;have g3:=D2.cell 3 _ rfl;have q3:=D2.frozen 3;have g4:=D2.cell 4 _ rfl;have q4:=D2.frozen 4;have g5:=D2.cell 5 _ rfl;have q5:=D2.frozen 5;have g6:=D2.cell 6 _ rfl;have q6:=D2.frozen 6;have g7:=D2.cell 7 _ rfl;have q7:=D2.frozen 7;have g8:=D2.cell 8 _ rfl;have q8:=D2.frozen 8;have g9:=D2.cell 9 _ rfl;have q9:=D2.frozen 9;have HB:Hid (Below _ _ _):=((((((((((hbB.setCell (p:=(aT w.heap.size 0)) (yb _) (J 0)).setCell (p:=(aT w.heap.size 1)) (yb _) (J 0)).setCell (p:=(aT w.heap.size 2)) (yb _) (J 0)).setCell (p:=(aT w.heap.size 3)) (yb _) (J 0)).setCell (p:=(aT w.heap.size 4)) (yb _) (J 0)).setCell (p:=(aT w.heap.size 5)) (yb _) (J 0)).setCell (p:=(aT w.heap.size 6)) (yb _) (J 0)).setCell (p:=(aT w.heap.size 7)) (yb _) (sN)).setCell (p:=(aT w.heap.size 8)) (yb _) (sN)).setCell (p:=(aT w.heap.size 9)) (yb _) (sN));clear hbB D2;go_wp2
 exact bodyPost_ret (v:=.tuple #[.agg #[J 0,J 0,J 0,J 0,J 0,J 0,J 0,sN,sN,sN],J 3]) (by simp[results,Tryz.results115,go_sem,g0,g1,g2,g3,g4,g5,g6,g7,g8,g9]) rfl ⟨rfl,HB.out⟩
theorem qq5{a b:List UInt8}(h:a≠b):(a == b)=false:=by
 simpa using h
theorem qjn(s:List UInt8)(f:Codec.Frame)(l2:List UInt8)(w:World)(hl:s.length<=140737488351232)(hfl:Codec.frame s=(f,l2))(hfit:Codec.fits f=true)(henc:Codec.encB f≠s) :
 Calls prog 115 #[.string ⟨s.toArray⟩] w fun e w'=>e=.returned (.tuple #[.agg #[J 0,J 0,J 0,J 0,J 0,J 0,J 0,sN,sN,sN],J 3])/\Below w.heap.size w w':=by
 have HFL:Hid (_=_):=hfl;have hne:=qq5 henc;clear hfl;go_enter Tryz.func115,Tryz.ntmps115
 go_wp2_with fail
 have RA:RdAt ((w.alloc (.cells #[J 0,J 0,J 0,J 0,J 0,J 0,J 0,sN,sN,sN] 165)).alloc (.cells #[.string ⟨s.toArray⟩] 207)) (w.heap.size+1) s:=by
  have V0:=BlkAt.new (w.alloc (.cells #[J 0,J 0,J 0,J 0,J 0,J 0,J 0,sN,sN,sN] 165)) (w.heap.size+1) (by simp) 207 #[.string ⟨s.toArray⟩];exact⟨V0.cell 0 _ rfl,V0.frozen 0⟩
 have D0:=(BlkAt.new w w.heap.size rfl 165 #[J 0,J 0,J 0,J 0,J 0,J 0,J 0,sN,sN,sN]).alloc (.cells #[.string ⟨s.toArray⟩] 207);refine(qct s l2 f (w.heap.size+1) _ HFL.out RA hl).mono ?_;rintro e w1 ⟨rv,cv,mv,tvs,rfl,FO,r1⟩;have D1:=D0.rd r1 (by omega);have s1:=r1.size;simp at s1;have b1:Below w.heap.size w w1:=(((yi w.heap.size w).alloc (yb _) _).alloc (by simp) _).trans (r1.below (by simp;omega) (by omega));replace FO:=FO.base (base':=w.heap.size+2) (by simp);clear RA D0 r1;obtain⟨ro,rn,rc,rfl⟩:=qi FO.row;obtain⟨co,cn,cc,rfl⟩:=qi FO.cut;obtain⟨mo,mn,mc,rfl⟩:=qi FO.msgs.2.1;have N1:=qad FO.row;have N2:=qad FO.cut;have N3:=qcu FO.msgs;have bo:Below w1.heap.size w1 (w1.alloc (.cells #[J f.kind,J f.src,J f.dst,J f.members,J f.view,J f.ballot,J f.voted,.slice ro rn rc,.slice co cn cc,.slice mo mn mc] 165)):=(yi _ _).alloc (yb _) _;have F1:=BlkAt.new w1 w1.heap.size rfl 165 #[J f.kind,J f.src,J f.dst,J f.members,J f.view,J f.ballot,J f.voted,.slice ro rn rc,.slice co cn cc,.slice mo mn mc];have FO1:=FO.later bo;have HN1:Hid (NumsAt _ _ _ _):=N1.below bo;have HN2:Hid (NumsAt _ _ _ _):=N2.below bo;have HN3:Hid (MsgsAt _ _ _ _):=N3.below bo;have D1':=D1.alloc (.cells #[J f.kind,J f.src,J f.dst,J f.members,J f.view,J f.ballot,J f.voted,.slice ro rn rc,.slice co cn cc,.slice mo mn mc] 165);have hbA:=b1.trans (bo.mono (by omega));clear N1 N2 N3 FO bo b1 D1;go_wp2_with fail
 refine(qdm f _ _ _ w1.heap.size _ HN1.out HN2.out HN3.out (by simp) hfit).mono ?_;rintro e w2 ⟨rfl,hb2⟩;have D2:=D1'.below hb2 (by simp;omega);have hbB:=hbA.trans (hb2.mono (by simp;omega));clear D1' F1 FO1 hb2 hbA HN1 HN2 HN3;have g0:=D2.cell 0 _ rfl;have q0:=D2.frozen 0;have g1:=D2.cell 1 _ rfl;have q1:=D2.frozen 1;have g2:=D2.cell 2 _ rfl;have q2:=D2.frozen 2;have g3:=D2.cell 3 _ rfl;have q3:=D2.frozen 3;have g4:=D2.cell 4 _ rfl;have q4:=D2.frozen 4;have g5:=D2.cell 5 _ rfl;have q5:=D2.frozen 5;have g6:=D2.cell 6 _ rfl;have q6:=D2.frozen 6;have g7:=D2.cell 7 _ rfl;have q7:=D2.frozen 7;have g8:=D2.cell 8 _ rfl;have q8:=D2.frozen 8;have g9:=D2.cell 9 _ rfl;have q9:=D2.frozen 9;have HB:Hid (Below _ _ _):=((((((((((hbB.setCell (p:=(aT w.heap.size 0)) (yb _) (J 0)).setCell (p:=(aT w.heap.size 1)) (yb _) (J 0)).setCell (p:=(aT w.heap.size 2)) (yb _) (J 0)).setCell (p:=(aT w.heap.size 3)) (yb _) (J 0)).setCell (p:=(aT w.heap.size 4)) (yb _) (J 0)).setCell (p:=(aT w.heap.size 5)) (yb _) (J 0)).setCell (p:=(aT w.heap.size 6)) (yb _) (J 0)).setCell (p:=(aT w.heap.size 7)) (yb _) (sN)).setCell (p:=(aT w.heap.size 8)) (yb _) (sN)).setCell (p:=(aT w.heap.size 9)) (yb _) (sN));clear hbB D2;go_wp2
 exact bodyPost_ret (v:=.tuple #[.agg #[J 0,J 0,J 0,J 0,J 0,J 0,J 0,sN,sN,sN],J 3]) (by simp[results,Tryz.results115,go_sem,g0,g1,g2,g3,g4,g5,g6,g7,g8,g9]) rfl ⟨rfl,HB.out⟩
theorem qm0(s:List UInt8)(w:World)(hl:s.length<=140737488351232)(h:Codec.isFrame s=false) :
 Calls prog 115 #[.string ⟨s.toArray⟩] w fun e w'=>e=.returned (.tuple #[.agg #[J 0,J 0,J 0,J 0,J 0,J 0,J 0,sN,sN,sN],J 3])/\Below w.heap.size w w':=by
 obtain⟨f,l2,hfl⟩:∃f r,Codec.frame s=(f,r):=⟨_,_,rfl⟩;cases hfit:Codec.fits f with
 |false=>exact qic s f l2 w hl hfl hfit
 | true =>
   refine qjn s f l2 w hl hfl hfit (fun e=>?_);simp[Codec.isFrame,hfl,hfit,e] at h
end
end Go.Proofs.YtoklolfaemhfnaaGreatDoor

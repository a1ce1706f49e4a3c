import Derived.Test.YtoklolfaemhfnaaGreatDoorZaz
import Derived.Test.YtoklolfaemhfnaaGreatDoorZbc
set_option maxRecDepth 100000
set_option maxHeartbeats 0
set_option linter.defProp false
open Go.Proofs.Tryz
namespace Go.Proofs.Y
section
open Go.Shelf Go.RowKit Go.Lib Go.Sort
open Go.ChangeMaps (setBlock)
variable {w w':Δ}{F:ϑ}{b:Nat}{h:Hd}{kn:List (Υ)}{l:aL}{evs:List Ev}{snt:List bC}{kb mb:Nat}{rbs:Ϙ}{es:Array MapEntry}{clk:Nat}{ev sv:Θ}
def vl(xs l:aL):Prop:=xs.Perm l/\xs.Pairwise λx y=>ltOf iZ (y.1.a,y.1.seq) (x.1.a,x.1.seq)=false
def fu(w:Δ)(M:Nat)(xs:aL)(k:Nat):Prop:=∃cur:ϡ,w.heap[M]?=some (.cells cur 179 (0,0))/\cur.size=4*xs.length/\∀i x,i<k->xs[i]?=some x->cur[4*i]?=some (J x.1.a)/\cur[4*i+1]?=some (J x.1.seq)/\cur[4*i+2]?=some x.2/\cur[4*i+3]?=some (.string x.1.b)
def jQ(p:PA w F b h kn l evs snt kb mb rbs es clk ev sv)(hl:l.length<=100000):ϖ 166 #[pT b 0] w λe w'=>Ϟ w w'/\∃M z,w.heap.size<=M/\vl z l/\ϱ e (sT M l.length l.length)/\fu w' M z l.length:=by
 let ⟨i0,h4,m4,k8,p0⟩:=info_parts Gj
 let ⟨i1,p4,p3,n3,q3⟩:=info_parts Gl
 have H:Hid (∀w',Ϟ w w'->ε w' b 15 (.map (some mb))/\w'.heap[mb]?=some (.map es clk)):=λw' hw=>⟨(p.a.c hw p.a.f).a 15 _ rfl,(hw.block mb p.q).trans p.map⟩;have V:=p.o.a;have C:=p.o.born;have HK:=ah (vU p.o);have e8:Hid (∀e∈es.toList,∃v,e.key=.agg #[J (oh e.key).1,J (oh e.key).2]/\e.val=v):=λe he=>by
  obtain⟨i,hi,rfl⟩:=y4 he
  let ⟨x,_,hk,_⟩:=p.o.at (yh hi)
  exact⟨_,by rw[hk];rfl,rfl⟩
 have a6:Hid (∀w'(x:ϥ×Θ),Ϟ w w'->x∈l->(Instr.lookup 156 (.map (some mb)) (.agg #[J x.1.a,J x.1.seq]) false).run prog w'=.ok (aU x.1 x.2) w'):=λw' x hw hx=>mz w' x.1.a x.1.seq ((hw.block mb p.q).trans p.map) p.o p.i hx (by simp[gL]) false;have HT:=ah λx hx=>(p.d x hx).1.a
 let ⟨t,b4,n,B⟩:=run_make_own w _ 238 186 i0 _ 2 underlying238 h4 m4 k8 .i64 .i64 l.length ν (by simp[maxLen];lia) Ϫ
 have A:Ϟ w t:={B with block:=λk hk=>B.block k hk (λe=>by cases e)};have p2:Hid (Ϟ w t):=A
 let ⟨c2,d2⟩:=H w Ϡ
 let ⟨k6,a7⟩:=H t A
 have a8:Hid (t.ownsRow w 186 2 (sT w 0 l.length) 0 []):=n;have m2:(Builtin.len_ #[156] 3 #[.map (some mb)]).run prog w=.ok (J l.length) w:=by have:=run_len_map (P:=prog) w 156 3 mb es clk κ d2;rwa [V]at this
 go_enter func166,ntmps166;go_wp2_with (at_range;apply eO _ rfl _ 156 186 179 rfl underlying156 rfl a7 p.o.b C;intro e2);go_frame;have e7:Hid (w.heap.size<=t):=A.size;generalize k0:t.heap.size=Y at e2 e7|-;have n2:Hid (cm (t.alloc (.mapIter (some mb) clk #[] clk)) mb Y es clk #[]):=e2;have n0:Hid (Ϟ w (t.alloc (.mapIter (some mb) clk #[] clk))):=A.alloc (by rwa [k0]) _;have Z:Hid ((t.alloc (.mapIter (some mb) clk #[] clk)).ownsRow w 186 2 (sT w 0 l.length) 0 []):=a8.alloc _;go_loopw [3] (λv wr=>∃seen vs I g P,cm wr mb Y es clk seen/\Ϟ w wr/\gY es seen vs I/\v=sT g (aH vs).length P/\wr.ownsRow w 186 2 (sT g (aH vs).length P) (aH vs).length (bU (aH vs))) λ_ wr=>eN wr mb Y
 case atStart=>exact⟨#[],[],es.toList,w.heap.size,l.length,n2,n0,⟨List.Perm.refl _,λe _=>ς,λe he=>by cases he⟩,rfl,Z⟩
 case round=>
  obtain⟨seen,vs,I,g,P,hR,hB,hV,rfl,c7⟩:=hrel;have d7:=hR.b;have HB:Hid (Ϟ w wr):=hB;have HV:Hid (gY es seen vs I):=hV;have q:Hid (wr.ownsRow w 186 2 (sT g (aH vs).length P) (aH vs).length (bU (aH vs))):=c7;go_wp2_with (at_next;refine fB _ rfl _ rfl mb Y rfl hR ?_ ?_)
  .intro h0;have f8:(aH vs).Perm (l.map λx=>(x.1.a,x.1.seq)):=HK▸(HV.d (ϰ h0)).map _;have O:(aH vs).length=l.length:=by rw[f8.length_eq,yL]
   let ⟨k7,m3,e3⟩:=zh q
   have f9:Hid (w.heap.size<=g/\g<wr):=⟨m3,e3⟩;have h2:=wQ wr g P (aH vs) k7 e3 ω;have h7:Hid (ϖ 198 #[sT g l.length P,.func (.func 199) #[] #[]] wr λe w'=>ϱ e ϳ/\Ϟ w w'/\g<w'/\∃z:aL,vl z l/\gm w' g (z.map λx=>(x.1.a,x.1.seq))):=by
    rw[Hid,<-O];apply h2.m;rintro w'⟨m1,q7,n5,p5,k4⟩
    let ⟨z,U,S⟩:=qU (λx:ϥ×Θ=>(x.1.a,x.1.seq)) (n5.trans f8) rfl
    exact⟨rfl,ia HB f9.1 m1,yg f9.2 m1.size,z,⟨U,List.pairwise_map.1 (by rwa [S])⟩,by rwa [S]⟩
   rw[O];go_wp21;apply h7.m;rintro o⟨b2,T,z,U,c8⟩;have m9:Hid (Ϟ w o/\g<o):=⟨b2,T⟩;have e9:Hid (vl z l):=U;have m5:Hid (z.length=l.length):=U.1.length_eq;have b4:=run_make (P:=prog) o 163 179 i1 _ underlying163 p4 p3 .i64 .i64 (l.length:Int) (l.length:Int) ω (Ld _) ν ω;rw[CM,n3]at b4;have e5:Hid (gm (o.alloc (.cells (madeCells (Value.agg #[J 0,J 0,sN,.string ⟨#[]⟩]).cells (l.length*4)) 179)) g (z.map λx=>(x.1.a,x.1.seq))):=λi x hx=>
    let ⟨a1,a2,a3,a4⟩:=c8 i x hx
    ⟨(I4 _ _ _ T).trans a1,(I4 _ _ _ T).trans a2,(G4 (a:=⟨g,2*i,none⟩) (yQ _ _ _ T)).trans a3,(G4 (a:=⟨g,2*i+1,none⟩) (yQ _ _ _ T)).trans a4⟩
   have c5:Hid (fu (o.alloc (.cells (madeCells (Value.agg #[J 0,J 0,sN,.string ⟨#[]⟩]).cells (l.length*4)) 179)) o.heap.size z 0):=⟨_,heap_alloc_new o _,by rw[size_madeCells,U.1.length_eq,Nat.mul_comm],λi x hi=>absurd hi ω⟩;have f4:Hid (Ϟ w (o.alloc (.cells (madeCells (Value.agg #[J 0,J 0,sN,.string ⟨#[]⟩]).cells (l.length*4)) 179))):=b2.alloc b2.size _;have g9:Hid (o.heap.size<(o.alloc (.cells (madeCells (Value.agg #[J 0,J 0,sN,.string ⟨#[]⟩]).cells (l.length*4)) 179)).heap.size):=by simp[Hid]
   have f7:Hid (w.heap.size<=o):=b2.size;generalize o.alloc (.cells (madeCells (Value.agg #[J 0,J 0,sN,.string ⟨#[]⟩]).cells (l.length*4)) 179)=w4 at b4 e5 c5 f4 g9;go_wp21;have k9:Hid (g≠o.heap.size):=by have:=m9.2;simp only[Hid];lia
   generalize o.heap.size=M at c5 g9 k9 f7|-;go_loopw [34] (λi wr=>∃k:Nat,k<=l.length/\i=J k/\gm wr g (z.map λx=>(x.1.a,x.1.seq))/\fu wr M z k/\Ϟ w wr) λi _=>l.length-(intOf i).toNat
   case atStart=>exact⟨0,ω,rfl,e5,c5,f4⟩
   case round=>
    obtain⟨k,hk,rfl,c3,f6,hB⟩:=hrel;by_cases n9:k<l.length
    .obtain⟨N,m7⟩:∃N,z[k]?=some N:=⟨_,yh (by rwa [m5])⟩;have S:N∈l:=e9.1.mem_iff.1 (yy m7)
     let ⟨q0,q1,_,_⟩:=c3 k (N.1.a,N.1.seq) ν
     let ⟨ao,tn,tc,m0⟩:=HT _ S
     have HY:Hid (∀w',Ϟ w w'->(Instr.lookup 156 (.map (some mb)) (.agg #[J N.1.a,J N.1.seq]) false).run prog w'=.ok (.agg #[J N.1.a,J N.1.seq,.slice ao tn tc,.string N.1.b]) w'):=λw' hw=>by have:=a6 w' N hw S;rwa [m0]at this
     let ⟨cur,m,h8,n7⟩:=f6
     have n8:M<wr:=(yk.1 m).1;have h5:cur.size=4*l.length:=by rw[h8,m5]
     have s:Hid (∀w',w'.heap[M]?=some (.cells ((((cur.setIfInBounds (k*4) (J N.1.a)).setIfInBounds (k*4+1) (J N.1.seq)).setIfInBounds (k*4+2) (.slice ao tn tc)).setIfInBounds (k*4+3) (.string N.1.b)) 179 (0,0))->fu w' M z (k+1)):=λw' hw=>by refine⟨_,hw,ν,λi x hi hx=>?_⟩;simp only[LK,Array.size_setIfInBounds];rcases Kq.1 hi with hi|rfl;grind;grind
     have a9:Hid (gm wr g (z.map λx=>(x.1.a,x.1.seq))/\g<wr):=⟨c3,yI wr _ q0⟩;have HB:Hid (Ϟ w wr):=hB;have Q:Hid (wr.heap[M]?=some (.cells cur 179 (0,0))/\k*4+3<cur.size):=⟨m,ω⟩;have p9:(k:Int)<(l.length:Int):=ω;have q2:(0:Int)<=(k:Int):=ω;simp only[show 2*k=k*2 by lia]at q0 q1;generalize N.1.a=L at q0 HY s;generalize N.1.seq=G at q1 HY s;generalize N.1.b=d9 at HY s;go_wp21;have b8:Hid (Ϟ w (wr.alloc (.cells #[J L,J G] 186))):=HB.alloc HB.size _;have hX:=af.d wr wr.heap.size rfl 186 #[J L,J G];have d0:=hX.z 0;have d1:=hX.z 1;have r:Hid (af (wr.alloc (.cells #[J L,J G] 186)) M 179 cur):=(yQ _ _ _ (yk.1 Q.1).1).trans Q.1;have e6:Hid (∀w',ej M (wr.alloc (.cells #[J L,J G] 186)) w'->gm w' g (z.map λx=>(x.1.a,x.1.seq))):=λw' hw i x hx=>
      let ⟨a1,a2,a3,a4⟩:=a9.1 i x hx
      have b6:w'.heap[g]?=wr.heap[g]?:=(hw.block g k9).trans (yQ _ _ _ a9.2)
      ⟨(yq (a:=⟨g,2*i,none⟩) b6).trans a1,(yq (a:=⟨g,2*i+1,none⟩) b6).trans a2,(G4 (a:=⟨g,2*i,none⟩) b6).trans a3,(G4 (a:=⟨g,2*i+1,none⟩) b6).trans a4⟩
     have W:=HY _ b8.drew;have c2:=(H _ b8).1;have f0:=r.b (k*4);have f1:=r.b (k*4+1);have f2:=r.b (k*4+2);have f3:=r.b (k*4+3);have n6:=Q.2;have g0:=r.a (k*4) cur[k*4] (yl ω);have g1:=r.a (k*4+1) cur[k*4+1] (yl ω);have g2:=r.a (k*4+2) cur[k*4+2] (yl ω);have g3:=r.a (k*4+3) cur[k*4+3] (yl ω);generalize cur[k*4]=q9 at g0;generalize cur[k*4+1]=q5 at g1;generalize cur[k*4+2]=r0 at g2;generalize cur[k*4+3]=q8 at g3;generalize wr.alloc (.cells #[J L,J G] 186)=w5 at b8 r e6 W c2 f0 f1 f2 f3 g0 g1 g2 g3 d0 d1|-;refine gl.b (λw'=>w'=w5.drew) 9 rfl rfl λf5=>?_;(iterate 9 refine χ ?_);refine te 9 λK hK=>?_;go_simp;refine hK.out _ _ (λh=>absurd rfl h) λ_=>?_;refine gl.done κ ?_ _;have e1:ej M w5 ((((w5.setCell ⟨M,k*4,none⟩ (J L)).setCell ⟨M,k*4+1,none⟩ (J G)).setCell ⟨M,k*4+2,none⟩ (.slice ao tn tc)).setCell ⟨M,k*4+3,none⟩ (.string d9)):=((((ej.d M w5).a _ _).a _ _).a _ _).a _ _;have h9:=(((r.e (k*4) (J L)).e (k*4+1) (J G)).e (k*4+2) (.slice ao tn tc)).e (k*4+3) (.string d9);have c4:Hid (gm _ g (z.map λx=>(x.1.a,x.1.seq))/\fu _ M z (k+1)/\Ϟ w _):=⟨e6 _ e1,s _ h9,b8.trans (e1.c f7)⟩;generalize ((((w5.setCell ⟨M,k*4,none⟩ (J L)).setCell ⟨M,k*4+1,none⟩ (J G)).setCell ⟨M,k*4+2,none⟩ (.slice ao tn tc)).setCell ⟨M,k*4+3,none⟩ (.string d9))=w6 at c4|-;go_wp21;exact⟨⟨k+1,ω,by go_num,c4.1,c4.2.1,c4.2.2.drew⟩,by simp[intOf];lia⟩
    have q4:¬(k:Int)<(l.length:Int):=ω;have O:k=l.length:=ω;have a5:Hid (Ϟ w wr/\∃M' c1,w.heap.size<=M'/\vl c1 l/\Ending.returned (sT M l.length l.length)=.returned (sT M' l.length l.length)/\fu wr M' c1 l.length):=⟨hB,M,z,f7,e9,rfl,by rwa [<-O]⟩;go_wp21;go_ret
    let ⟨a0,M',c1,a1,a2,a3,a4⟩:=a5
    exact⟨a0,M',a1,c1,a2,a3,a4⟩
  intro e t he m6 h1 e4 b7 g5;have b9:e∈es.toList:=ϰ he;have b0:seen.contains e.born=false:=ϰ m6
  let ⟨v,hk,hv⟩:=e8 e b9
  rw[hk,hv]at g5|-
  let ⟨X,k5⟩:=HV.c C b9 b0
  have d4:Hid (gY es (seen.push e.born) (vs++[e]) X):=k5;have e0:aH (vs++[e])=aH vs++[oh e.key]:=by simp[aH]
  obtain⟨cur,m⟩:∃cur,wr.heap[g]?=some (.cells cur 186 (0,0)):=by rcases q.2 with ⟨h0,-⟩|⟨g',y,cur,h0,-,q6,-⟩;cases h0;grind
  have b1:g≠Y:=λe=>by rw[e,hR.d]at m;grind
  have d5:t.heap[g]?=some (.cells cur 186 (0,0)):=(e4.block g ((yk.1 m).1) λe=>b1 ν).trans m;have n:t.ownsRow w 186 2 (sT g (aH vs).length P) (aH vs).length (bU (aH vs)):=aj q λg' p1=>by
   have:g'=g:=by simpa[Value.ownBlock]using p1.symm
   grind
  have A:Ϟ w t:=ia HB e7 e4;have HL:Hid ((aH vs).length<=100000):=by have:=d4.a.length_eq;simp only[Hid,aH,yL];simp only[yC]at this;rw[show es.toList.length=es.size from AG,V]at this;lia
  have k3:Hid ((leftOf es (seen.push e.born)).size<eN wr mb Y):=by rw[Hid,d7];exact iI b9 b0
  generalize oh e.key=kk at g5 e0|-
  let ⟨E,D⟩:=kk
  have c0:Hid (aH (vs++[e])=aH vs++[(E,D)]):=e0;generalize n4:aH vs=ks at q n c0 HL|-;have d6:Ϟ t ((t.alloc (.cells #[J E,J D] 186)).alloc (.cells #[J E,J D] 186)):=(Ϡ.alloc Ϫ _).alloc ς _;have h6:Hid (((t.alloc (.cells #[J E,J D] 186)).alloc (.cells #[J E,J D] 186)).ownsRow w 186 2 (sT g ks.length P) ks.length (bU ks)):=(n.alloc _).alloc _;have m8:Hid (af ((t.alloc (.cells #[J E,J D] 186)).alloc (.cells #[J E,J D] 186)) (wr.heap.size+1) 186 #[J E,J D]):=af.d _ _ (by simp[b7]) 186 _;have d0:=((af.d t wr.heap.size b7 186 #[J E,J D])).a 0 _ rfl;have d1:=((af.d t wr.heap.size b7 186 #[J E,J D])).a 1 _ rfl;have a5:Hid (∀o g' y,o.ownsRow w 186 2 (sT g' (ks.length+1) y) (ks.length+1) (bU ks++[J E,J D])->((t.alloc (.cells #[J E,J D] 186)).alloc (.cells #[J E,J D] 186)).grownBy o (some g)->(∃seen vs I g8 b3,cm o mb Y es clk seen/\Ϟ w o/\gY es seen vs I/\Value.slice (some ⟨g',0,none⟩) (ks.length+1) y=sT g8 (aH vs).length b3/\o.ownsRow w 186 2 (sT g8 (aH vs).length b3) (aH vs).length (bU (aH vs)))/\eN o mb Y<eN wr mb Y):=λo g' y ho hg=>by
   have R:=h1.c d6;have g6:cm o mb Y es clk (seen.push e.born):=⟨(hg.block mb (yk.1 R.map).1 λe=>(cq m hR.map) ν).trans R.map,(hg.block Y (yk.1 R.d).1 λe=>b1 ν).trans R.d,R.f,R.born⟩;have O:(aH (vs++[e])).length=ks.length+1:=by rw[c0];simp
   refine⟨⟨_,vs++[e],X,g',y,g6,?_,d4,by rw[O],?_⟩,?_⟩;exact ia (A.trans (d6.mono A.size)) (q.lt g rfl).1 hg;rwa [O,c0,qM];rwa [g6.b]
  have d3:Hid (ks.length+1<=maxLen/\(ks.length+1)*16<=140737488355328):=by have:=HL.out;simp only[Hid,maxLen];lia
  have h3:Hid (w.heap.size<=((t.alloc (.cells #[J E,J D] 186)).alloc (.cells #[J E,J D] 186)).heap.size):=by have:=A.size;simp only[Hid,World.size_alloc];lia
  have p8:Hid (((t.alloc (.cells #[J E,J D] 186)).alloc (.cells #[J E,J D] 186)).heap.size=wr.heap.size+1+1):=by simp[Hid,b7]
  go_wp2_with (at_builtin;refine wpList_append_lies _ rfl (.tmp 23) (.tmp 25) 238 rfl w.heap.size 186 i0 _ 2 16 underlying238 h4 m4 k8 p0 rfl θ _ _ (bU ks) rfl h6 ⟨wr.heap.size+1,0,none⟩ 1 1 [J E,J D] rfl rfl (IZ m8) (by intro u hu;simp only[yF,yU,or_false]at hu;rcases hu with rfl|rfl<;>rfl) ω d3.1 d3.2 h3 _ rfl ?_;intro g' y o d8 g4 p6 p7);exact a5 o g' y d8 g4
end
section
open Go.RowKit
open Go.ChangeMaps (setBlock)
variable {w w':Δ}{F:ϑ}{b:Nat}{h:Hd}{kn:List (Υ)}{l:aL}{evs:List Ev}{snt:List bC}{kb mb:Nat}{rbs:Ϙ}{es:Array MapEntry}{clk:Nat}{ev sv:Θ}
def bD(set:Int)(n:Nat):Ϙ:=(List.range n).filter (jc set)
def mB(a:Int)(k:Nat):bD a (k+1)=if jc a k=true then bD a k++[k] else bD a k:=by unfold bD;rw[List.range_succ,La];cases c:jc a k<;>simp[c]
def cz(l:Ϙ):Ϣ:=l.map λ(q:Nat)=>Value.int .i64 (q:Int)
def zf:(prog.info? 3).map (λi=>(i.zero,i.size,i.bytes))=some (some (J 0),1,8):=κ
def Gp(p:PA w F b h kn l evs snt kb mb rbs es clk ev sv)(Y:h.n<=6)(a:Int):ϖ 164 #[pT b 0,J a] w λe L=>∃v,ϱ e v/\L.ownsRow w 3 1 v (bD a h.n).length (cz (bD a h.n))/\Ϟ w L:=by
 obtain⟨Q,H,D,I,A⟩:=info_parts zf;have W:=p.a.a 1 _ rfl;simp only[Hd.c,yf,yd,ye]at W;clear p;go_enter func164,ntmps164;go_wp2_with fail;go_loopw [5,11] (λv i wr=>∃k:Nat,k<=h.n/\i=J k/\wr.ownsRow _ 3 1 v (bD a k).length (cz (bD a k))/\Ϟ w wr) λ_ i _=>h.n-(intOf i).toNat
 case atStart=>exact⟨0,ω,rfl,(by have:=y9 w w.heap.size 3 1;simpa[bD,cz]using this),yi _ _⟩
 case round=>
  obtain⟨k,Z,rfl,o,K⟩:=hrel;have c:=ah o;have r:=ah K;clear o K;obtain⟨M,P,T⟩:=bG c;subst T;by_cases S:k<h.n
  .have N:(k:Int)<(h.n:Int):=ω;have V:Hid ((bD a k).length<=6):=by have:(bD a k).length<=(List.range k).length:=G3 _ _;simp only[Hid];simp at this;lia
   cases z:jc a k
   .have B:Hid (bD a (k+1)=bD a k):=by rw[Hid,mB,z];rfl
    go_wp2_with (go_at_call 173;apply (gE _ _ _ ω).mono;rintro e X⟨rfl,rfl⟩;rw[z]);exact⟨⟨k+1,ω,by go_num,by rwa [B],r⟩,by simp[intOf];lia⟩
   have B:Hid (bD a (k+1)=bD a k++[k]):=by rw[Hid,mB,z];rfl
   have q:Hid ((wr.alloc (.cells #[J k] 3)).ownsRow w 3 1 (.slice M (bD a k).length P) (bD a k).length (cz (bD a k))):=c.alloc _;have y:Hid (af (wr.alloc (.cells #[J k] 3)) wr.heap.size 3 #[J k]):=af.d wr wr.heap.size rfl 3 _;have g:Hid ((bD a k).length+1<=maxLen/\((bD a k).length+1)*8<=140737488355328):=by have:=V.out;simp only[Hid,maxLen];lia
   have m:Hid (w.heap.size<=(wr.alloc (.cells #[J k] 3)).heap.size):=by have:=r.size;simp only[Hid,World.size_alloc];lia
   have E:Hid (∀t,(wr.alloc (.cells #[J k] 3)).grownBy t (Value.slice M (bD a k).length P).ownBlock->Ϟ w t):=λt x=>
    have C:Ϟ w (wr.alloc (.cells #[J k] 3)):=r.alloc r.size _
    C.trans {x with block:=λj R=>x.block j (yg R m) (λe=>ϕ ((c.lt j e.symm).1))}
   go_wp2_with (first|(go_at_call 173;apply (gE _ _ _ ω).mono;rintro e X⟨rfl,rfl⟩;rw[z])|(at_builtin;refine wpList_append_own_at _ rfl (.tmp 17) (.tmp 19) 69 rfl w.heap.size 3 Q _ 1 8 underlying69 H D I A rfl θ _ _ (cz (bD a k)) rfl q ⟨_,0,none⟩ 1 1 [J k] rfl rfl (IZ y) (by intro u O;simp only[yF,yU,or_false]at O;rcases O with rfl;rfl) g.1 g.2 m ?_;intro v' t d s _ _));exact⟨⟨k+1,ω,by go_num,(by rw[B];simp only[cz,y8,yC,yN,Cx,yx,yD]at d|-;exact d),E t s⟩,by simp[intOf];lia⟩
  have U:¬(k:Int)<(h.n:Int):=ω;have G:k=h.n:=ω;go_wp2_with fail;go_ret;subst G;exact⟨_,rfl,c,r⟩



variable {n j:Nat}{ms:List ϥ}{out:List Codec.Frame}{qs:Ϙ}

variable{f:Codec.Frame}

def tF(g c:Nat)(a:Υ)(w:Δ)(s:af w g 3 (ints a).toArray)(C:a.length<=6)(D:1<=a.length):ϖ 118 #[sT g a.length c] w λe i=>∃k d,ϱ e (sT k a.length d)/\i.ownsRow w 3 1 (sT k a.length d) a.length (ints a)/\Ϟ w i:=by
 let ⟨t,B,o,p,m⟩:=info_parts zf
 have y:Hid ((w.alloc (.cells #[] 3)).ownsRow w 3 1 (sT w 0 0) 0 []):=⟨rfl,.inr ⟨_,_,#[],rfl,Ϫ,heap_alloc_new w _,Ϫ,oI _,rfl,rfl⟩⟩;have z:Hid (af (w.alloc (.cells #[] 3)) g 3 (ints a).toArray):=s.g _;have n:=λi:Δ=>Lib.run_eql_slice_nil i 69 3 (some ⟨g,0,none⟩) a.length c 0 0 underlying69;simp at n;go_enter func118,ntmps118;go_wp2_with (at_builtin;refine wpList_append_own_at _ rfl _ _ 69 rfl _ 3 t (J 0) 1 8 underlying69 B o p m rfl θ _ _ _ rfl y ⟨g,0,none⟩ a.length c (ints a) rfl ?c0 ?c1 ?c2 ?c3 ?c4 ?c5 ?_)
 case c0=>rw[fe];simp
 case c1=>intro j u A;rw[lu];exact z.a j u (ϰ A)
 case c2=>intro u r;simp[ints]at r;obtain⟨_,_,rfl⟩:=r;rfl
 case c3=>unfold maxLen;lia
 case c4=>lia
 case c5=>simp
 intro v G q f _ _;obtain⟨k,d,rfl,_,_⟩:=World.ownsRow.form q ω;go_wp2;go_ret;refine⟨k,d,rfl,q,?_⟩;exact(Ϡ.alloc Ϫ _).trans {f with block:=λx E=>f.block x (by simp;lia) (λe=>by injection e with e;simp at e;lia)}
def wD(C:h.a<h.n)(d0:h.n<=6)(p:PA w F b h kn l evs snt kb mb rbs es clk ev sv)(P:Ab h.n (kn.getD h.a []))(t:ϝ)(ht:t.size<=4000000):ϖ 137 #[pT b 0,.string t] w λe j=>∃g a,ϱ e (aU ⟨h.a,(kn.getD h.a []).getD h.a 0+1,(kn.getD h.a []).set h.a ((kn.getD h.a []).getD h.a 0+1),t⟩ (sT g h.n a))/\eB j (λx=>w<=x) 3 1 (sT g h.n a) h.n (ints ((kn.getD h.a []).set h.a ((kn.getD h.a []).getD h.a 0+1)))/\Ϟ w j:=by
 let ⟨r,hr,Z,I,_⟩:=p.m C
 have V:Ϟ w (w.alloc (.cells #[J 0,J 0,sN,.string ⟨#[]⟩] 179)):=Ϡ.alloc Ϫ _;have HR:Hid (ϖ 119 #[pT b 0] (w.alloc (.cells #[J 0,J 0,sN,.string ⟨#[]⟩] 179)) λe X=>ϱ e (sT r h.n h.n)/\Below (w.heap.size+1) (w.alloc (.cells #[J 0,J 0,sN,.string ⟨#[]⟩] 179)) X/\Ϟ w X):=(iM (p.j V) hr).mono λe X hh=>by obtain⟨rfl,hb,-⟩:=hh;exact⟨rfl,hb.mono ς,V.trans (hb.mono ς)⟩
 have a1:=ah (λj hw=>by have:=tF r h.n (kn.getD h.a []) j (Z.c hw Z.f) ω ω;rwa [I]at this)
 have a2:Hid (∀j,Ϟ w j->ε j b 0 (J h.a)):=λj hw=>(p.a.c hw p.a.f).a 0 _ rfl;have hx:=P h.a C;have b0:Hid (af (w.alloc (.cells #[J 0,J 0,sN,.string ⟨#[]⟩] 179)) w 179 #[J 0,J 0,sN,.string ⟨#[]⟩]):=af.d w w rfl 179 _;have a0:Hid ((w.alloc (.cells #[J 0,J 0,sN,.string ⟨#[]⟩] 179))=w.heap.size+1):=by simp[Hid]
 have c8:0<=h.a:=ω;have c9:h.a<h.n:=ω;generalize S:(kn.getD h.a []).getD h.a 0=x at hx|-;generalize b9:kn.getD h.a []=E at I a1 S|-;have c1:wrap64 (x+1)=x+1:=by unfold wrap64;lia
 go_enter func137,ntmps137;go_wp21;generalize w.alloc _=w1 at HR b0 a0|-;apply HR.m;rintro w2⟨a4,U⟩;have N:Hid (Below (w.heap.size+1) w1 w2/\Ϟ w w2):=⟨a4,U⟩;have R:=ah ((a1 w2 U));go_wp21;apply R.mono;rintro e m⟨g,a,rfl,i,W⟩;have M:Hid (w.heap.size+1<=w2):=by have:=N.1.size;rwa [a0]at this
 have H:Hid (Below (w.heap.size+1) w1 m/\Ϟ w m):=⟨N.1.trans (W.mono M),N.2.trans (W.mono N.2.size)⟩;have a6:=i.lt g rfl;obtain⟨c,O,B,b5,z⟩:∃c:ϡ,h.n<=a/\m.heap[g]?=some _/\c.size=a*1/\c.toList.take _=ints E:=by rcases i.2 with ⟨o,-⟩|⟨v,f,c,o,-,G,b7,-,c5,c3⟩;cases o;injection o with o _ h2;injection o with o;injection o with o;subst o h2;exact⟨c,b7,G,c5,c3⟩
 have a3:=ah i;have cx:ε m g h.a (J x):=by
  have:=i.cells rfl h.a (J x) (by
   have:E[h.a]?=some x:=by rw[getD_some ω,(ah S)]
   simp[ints,this])
  rwa [lu]at this
 have c2:m.frozen? (aT g h.a)=false:=frozen_of_row m g _ c 3 B;have s:Hid ((m.setCell ⟨g,h.a,none⟩ (J (x+1))).ownsRow w 3 1 (sT g h.n a) h.n (ints (E.set h.a (x+1)))):=by
  have b6:a<=maxLen:=by rcases i.2 with ⟨o,-⟩|⟨v,f,c7,o,-,-,-,c6,-⟩;cases o;injection o with _ _ h2;subst h2;exact c6
  refine⟨by simp[ints,I],.inr ⟨g,a,_,rfl,?_,((show af m g 3 c from B).e h.a (J (x+1))),O,b6,ϰ b5,?_⟩⟩
  .have:=M.out;lia
  rw[Array.toList_setIfInBounds,List.take_set,z];simp[ints,List.map_set]
 have b4:=ah a6.1;have c0:=a2 m H.2;go_wp21;have Y:Below (w.heap.size+1) m (m.setCell ⟨g,h.a,none⟩ (J (x+1))):=((ej.d g m).a _ _).c (ϵ M.out b4);have q:Hid (Below (w.heap.size+1) w1 (m.setCell ⟨g,h.a,none⟩ (J (x+1)))/\Ϟ w (m.setCell ⟨g,h.a,none⟩ (J (x+1)))):=⟨H.1.trans (Y.mono Ϫ),H.2.trans (Y.mono ω)⟩;have y1:(m.setCell ⟨g,h.a,none⟩ (J (x+1))).cell? (aT g h.a)=some (J (x+1)):=by
  obtain⟨v,f,c,o,-,G,-⟩:∃v f c,Value.slice (some ⟨g,0,none⟩) h.n a=sT v h.n f/\w<=v/\(m.setCell ⟨g,h.a,none⟩ (J (x+1))).heap[v]?=some (.cells c 3 (0,0))/\True:=by rcases s.2 with ⟨o,-⟩|⟨v,f,c,o,h1,G,-⟩;cases o;exact⟨v,f,c,o,h1,G,trivial⟩
  have:=s.cells rfl h.a (J (x+1)) (by simp[ints,I,C]);rwa [lu]at this
 have Q:=ah (yI _ _ y1);generalize m.setCell ⟨g,h.a,none⟩ (J (x+1))=w4 at s q y1 Q|-;have HS:Hid (∀j,Ϟ w4 j->ε j b 0 (J h.a)/\ε j g h.a (J (x+1))):=λj hw=>⟨a2 j (q.2.trans (hw.mono q.2.size)),(hw.cell (p:=(aT g h.a)) Q).trans y1⟩;refine gl.b (λj=>ε j b 0 (J h.a)/\ε j g h.a (J (x+1))) 15 rfl (HS _ Ϡ.drew) λk=>?_;(iterate 13 refine χ ?_);refine te 13 λK hK=>?_;go_simp;refine((ah λj=>jW t j ht) _).m ?_;rintro w5 a9;have L:Hid (Ϟ w4 w5):=(Ϡ.drew).trans (a9.mono ς);have d:Hid (af w5 w 179 #[J 0,J 0,sN,.string ⟨#[]⟩]):=b0.c (q.1.trans (L.mono (by have:=q.1.size;rwa [a0]at this))) ω;have a7:=ah (aQ s L);go_wp21;refine hK.out _ _ (λ_=>HS _ L) λk=>?_;have k:=k θ;apply tw 14;have f0:=d.b 0;have f1:=d.b 1;have f2:=d.b 2;have f3:=d.b 3;have z0:=d.z 0;have z1:=d.z 1;have z2:=d.z 2;have z3:=d.z 3;refine te 15 λK hK=>?_;go_simp;refine hK.out _ _ (λh=>absurd rfl h) λ_=>?_;refine gl.done κ ?_ _
 let ⟨u,D⟩:=ql d (J h.a) (J (x+1)) (sT g h.n a) (.string t)
 have A:Hid (eB _ (λy=>w<=y) 3 1 (sT g h.n a) h.n (ints (E.set h.a (x+1)))/\Ϟ w _):=⟨⟨aD (aj a7 λv T=>D.block v (λe=>by
  have:v=g:=by simpa[Value.ownBlock]using T.symm
  have h1:=M.out;have h2:=b4;lia)) (oI _),λv T=>(a7.lt v T).1⟩,(ah (q.2.trans (L.mono q.2.size))).trans (D.c Ϫ)⟩
 generalize ((((w5.setCell ⟨w,0,none⟩ (J h.a)).setCell ⟨w,1,none⟩ (J (x+1))).setCell ⟨w,2,none⟩ (sT g h.n a)).setCell ⟨w,3,none⟩ (.string t))=w6 at u D A|-;have q2:=u.z 2;go_wp21;(try simp);apply bodyPost_ret (v:=.agg #[J h.a,J (x+1),sT g h.n a,.string t]) (by simp[results,results137,go_sem,(u.z 0),(u.z 1),q2,(u.z 3)]) rfl;refine⟨g,a,rfl,?_⟩;exact⟨A.1,A.2⟩


def rM(b mb n:Nat)(t:ϝ)(M:ϥ)(m:Ϙ)(c0:m.length<=6)(w:Δ)(R9 S1:Ξ)(S2:Δ->Nat->ϑ)(S4 S6 S7:Nat->Nat->Nat->Ξ)(C:Nat->Nat->Nat->ϣ->Nat->Ξ)(o:Ξ)(N:ϖ 136 #[pT b 0,.string t] w λe A=>(ϱ e (J 9)/\R9 A)\/(ϱ e (J 10)/\R9 A)\/(ϱ e (J 0)/\S1 A))(I:∀A,S1 A->ϖ 137 #[pT b 0,.string t] A λe x=>∃g a,ϱ e (aU M (sT g n a))/\S2 x g a)(P:∀x g a,S2 x g a->ϖ 138 #[pT b 0,aU M (sT g n a),J 1] (x.alloc (.cells #[J M.a,J M.seq,sT g n a,.string M.b] 179)) λe u=>ϱ e ϳ/\S4 x.heap.size g a u)(R:∀X g a u,S4 X g a u->(∀d,Ϟ u d->ε d b 15 (.map (some mb))/\af d X 179 #[J M.a,J M.seq,sT g n a,.string M.b]/\∃F,(Instr.mapUpdate 156 (.map (some mb)) (bQ M.a M.seq) (aU M (sT g n a))).run prog d=.ok () F/\S6 X g a F))(H:∀X g a F,S6 X g a F->ϖ 140 #[pT b 0] F λe w7=>ϱ e ϳ/\S7 X g a w7)(S:∀X g a w7,S7 X g a w7->ϖ 110 #[pT b 0] w7 λe v=>∃l c,ϱ e (.slice l m.length c)/\C X g a l 0 v)(a3:∀X g a l k v,C X g a l k v->af v X 179 #[J M.a,J M.seq,sT g n a,.string M.b]/\∀q:Nat,m[k]?=some q->∃g',l=some ⟨g',0,none⟩/\ε v g' k (J q))(a9:∀X g a l k v(q:Nat),C X g a l k v->m[k]?=some q->ϖ 141 #[pT b 0,J q,aU M (sT g n a)] v λe G=>ϱ e ϳ/\C X g a l (k+1) G)(B:∀X g a l G,C X g a l m.length G->o G):ϖ 97 #[pT b 0,.string t] w λe w'=>((ϱ e (J 9)\/ϱ e (J 10))/\R9 w')\/(ϱ e (J 0)/\o w'):=by
 have y:=ah N;have a5:Hid _:=I;have L:Hid _:=P;have a7:Hid _:=R;have W:Hid _:=H;have U:Hid _:=S;have E:Hid _:=a3;have D:Hid _:=a9;have r:Hid _:=B;clear N I P R H S a3 a9 B;obtain⟨ms,mq,mt,mx⟩:=M;unfold aU bQ at*;simp only at*;go_enter func97,ntmps97;go_wp2_with fail;apply y.mono;rintro e A(⟨rfl,hr⟩|⟨rfl,hr⟩|⟨rfl,b0⟩)
 .have HR:=ah hr;clear hr y;go_wp2_with fail;go_ret;exact .inl ⟨.inl rfl,HR⟩
 .have HR:Hid (R9 A):=hr;clear hr y;go_wp2_with fail;go_ret;exact .inl ⟨.inr rfl,HR⟩
 have a8:Hid (ϖ 137 _ _ _):=a5 A b0;clear b0 y a5;go_wp2_with fail;apply a8.mono;rintro e x⟨g,a,rfl,b3⟩;have a4:Hid (ϖ 138 _ _ _):=L x g a b3;clear b3 a8 L;have p:=af.d x x.heap.size rfl 179 #[J ms,J mq,sT g n a,.string mx];have d0:=p.a 0 _ rfl;have d1:=p.a 1 _ rfl;have d2:=p.a 2 _ rfl;have d3:=p.a 3 _ rfl;simp only[yf,yd,ye]at d0 d1 d2 d3;clear p;go_wp2_with fail;apply a4.mono;rintro e u⟨rfl,O⟩;clear d0 d1 d2 d3 a4;have z:Hid _:=a7 _ _ _ _ O;generalize x.heap.size=X at z|-;clear O a7;go_wp2_with fail;have HS:Hid (∀d,Ϟ u d->ε d b 15 (.map (some mb))/\ε d X 0 (J ms)/\ε d X 1 (J mq)/\ε d X 2 (sT g n a)/\ε d X 3 (.string mx)):=λd hw=>by obtain⟨a1,a2,-⟩:=z d hw;exact⟨a1,a2.a 0 _ rfl,a2.a 1 _ rfl,a2.a 2 _ rfl,a2.a 3 _ rfl⟩
 refine gl.b (λd=>ε d b 15 (.map (some mb))/\ε d X 0 (J ms)/\ε d X 1 (J mq)/\ε d X 2 (sT g n a)/\ε d X 3 (.string mx)) 7 rfl (HS _ Ϡ.drew) λf=>?_;(iterate 5 refine χ ?_);apply tw 6;refine te 5 λK Q=>?_;go_simp;apply (jR ⟨ms,mq,mt,mx⟩ (sT g n a) _).mono;rintro e d⟨rfl,Z⟩;have b1:Hid (Ϟ u d):=(Ϡ.drew).trans (Z.mono ς);clear Z;unfold bQ;simp only;go_wp2_with fail;refine Q.out _ _ (λ_=>HS _ b1) λf=>?_;clear Q K;try simp only[pU]
 have f:=f θ;obtain⟨-,-,F,b6,b2⟩:=z d b1;have V:Hid (ϖ 140 _ _ _):=W _ _ _ _ b2;clear b2 z W;refine te 7 λK Q=>?_;go_simp;refine Q.out _ _ (λh=>absurd rfl h) λ_=>?_;clear Q K;try simp only[pU]
 refine gl.done κ ?_ _;clear b6 HS f;go_wp2_with fail;apply V.mono;rintro e w7⟨rfl,Y⟩;have a0:Hid (ϖ 110 _ _ _):=U _ _ _ _ Y;clear Y V U;go_wp2_with fail;apply a0.mono;rintro e v⟨l,c,rfl,j⟩;have H8:Hid (C X g a l 0 v):=j;clear j a0;go_wp2_with fail;go_loopw [33] (λi wr=>∃k:Nat,k<=m.length/\i=J k/\C X g a l k wr) λi _=>m.length-(intOf i).toNat
 case atStart=>exact⟨0,ω,rfl,H8⟩
 case round=>
  obtain⟨k,hk,rfl,j⟩:=hrel;by_cases b4:k<m.length
  .obtain⟨q,hq⟩:∃q,m[k]?=some q:=⟨_,yh b4⟩;obtain⟨p,s⟩:=E _ _ _ _ _ _ j;obtain⟨g',rfl,cg⟩:=s q hq;have T:Hid (ϖ 141 _ _ _):=D _ _ _ _ _ _ q j hq;have d0:=p.a 0 _ rfl;have d1:=p.a 1 _ rfl;have d2:=p.a 2 _ rfl;have d3:=p.a 3 _ rfl;simp only[yf,yd,ye]at d0 d1 d2 d3;have b7:(k:Int)<(m.length:Int):=ω;have b9:(0:Int)<=(k:Int):=ω;clear p s j hq H8 E D r;go_wp2_with fail;apply T.mono;rintro e G⟨rfl,a6⟩;have H9:Hid (C X g a (some ⟨g',0,none⟩) (k+1) G):=a6;clear a6 T;go_wp2_with fail;exact⟨⟨k+1,ω,by go_num,H9⟩,by simp[intOf];lia⟩
  have b8:¬(k:Int)<(m.length:Int):=ω;have b5:k=m.length:=ω;subst b5;have HP:Hid (o wr):=r _ _ _ _ _ j;clear j H8 E D r;go_wp2_with fail;go_ret;exact .inr ⟨rfl,HP⟩
def PA.a3(p:PA w F b h kn l evs snt kb mb rbs es clk ev sv)(m:ϥ)(a:Θ)(i:∀x∈l,gL m.a m.seq x.1=false)(n:eB w F 3 1 a m.c.length (ints m.c))(o:∀g,a.ownBlock=some g->g∉rbs):(Instr.mapUpdate 156 (.map (some mb)) (bQ m.a m.seq) (aU m a)).run prog w=.ok () (setBlock w mb (.map (es.push {key:=bQ m.a m.seq,val:=aU m a,born:=clk}) (clk+1)))/\w.grownBy (setBlock w mb (.map (es.push {key:=bQ m.a m.seq,val:=aU m a,born:=clk}) (clk+1))) (some mb)/\PA (setBlock w mb (.map (es.push {key:=bQ m.a m.seq,val:=aU m a,born:=clk}) (clk+1))) F b h kn (l++[(m,a)]) evs snt kb mb rbs (es.push {key:=bQ m.a m.seq,val:=aU m a,born:=clk}) (clk+1) ev sv:=by
 have k:=ep p.map (.map (es.push {key:=bQ m.a m.seq,val:=aU m a,born:=clk}) (clk+1));refine⟨Au w m.a m.seq _ p.map p.o i,k,p.y k (jV p.map _) (p.o.put m a) ?_ ?_⟩;refine List.pairwise_append.2 ⟨p.i,ς,λx c y q=>?_⟩;rw[yu]at q;subst q;have:=i x c;rw[<-Kr]at this|-;intro e;rw[cu]at e this;exact this ⟨e.1.symm,e.2.symm⟩;intro x c j;rcases yz.1 c with c|c;exact absurd c j;rw[yu]at c;subst c;refine⟨n.i λg d=>?_,o⟩;obtain⟨r,f⟩:=n.m d;exact k.block g (n.k d) λe=>cq f p.map (by injection e)
section
structure cY(w:Δ)(Fn:ϑ)(gb:Nat)(pv:Θ)(lim:Nat)(pl:List bC)(nv:Θ):Prop where
 a:af w gb 97 #[pv,J lim,nv]
 b:eB w Fn 111 2 nv pl.length (ar pl)
variable {w w':Δ}{Fn:ϑ}{gb:Nat}{pv:Θ}{lim:Nat}{pl:List bC}{nv:Θ}
def cY.c(p:cY w Fn gb pv lim pl nv)(a:Ϟ w w'):cY w' Fn gb pv lim pl nv:=⟨p.a.c a p.a.f,p.b.i λg b=>a.block g (p.b.k b)⟩
def cY.d(p:cY w Fn gb pv lim pl nv){F':ϑ}(a:∀x,Fn x->F' x):cY w F' gb pv lim pl nv:=⟨p.a,p.b.d,λg b=>a g (p.b.c g b)⟩
def cY.e(p:cY w Fn gb pv lim pl nv):some gb≠nv.ownBlock:=λe=>p.b.o e.symm p.a θ rfl
def wC(p:cY w Fn gb pv lim pl nv):ϖ 72 #[pT gb 1] w λe b=>ϱ e (J pl.length)/\b=w:=by have c:=p.a.z 2;obtain⟨f,a,d⟩:=bG p.b.d;simp only[d]at c;go_enter func72,ntmps72;go_wp21;go_ret;simp
def kq(p:cY w Fn gb pv lim pl nv)(k:Nat)(h:k<pl.length):ϖ 113 #[pT gb 1,J k] w λe d=>ϱ e (.bool true)/\d=w:=by have f:=p.a.z 2;obtain⟨i,c,g⟩:=bG p.b.d;simp only[g]at f;have b:0<=k:=ω;have a:k<pl.length:=ω;go_enter func113,ntmps113;go_wp21;go_ret;simp
def je(lim:Nat)(pl:List bC)(c:bC):List bC:=if pl.length<lim then pl++[c] else pl
def qc(p:cY w Fn gb pv lim pl nv)(c:bC)(hl:pl.length<=1000000):ϖ 104 #[pT gb 1,.agg #[J c.1,.string c.2]] w λe d=>ϱ e ϳ/\cW (λx=>Fn x\/x=gb) w d/\∃a2,cY d (aY Fn w) gb pv lim (je lim pl c) a2:=by
 unfold je;obtain⟨k,m⟩:=c;simp only;obtain⟨i0,a4,a1,a3,a0⟩:=info_parts tP;have N:=ah p;obtain⟨C,E,hv⟩:=bG p.b.d;have G:Ϟ w (w.alloc (.cells #[J k,.string m] 111)):=Ϡ.alloc Ϫ _;have hX:=af.d w _ rfl 111 #[J k,.string m];have P:Hid (∀d,Below (w.heap.size+1) (w.alloc (.cells #[J k,.string m] 111)) d->ε d gb 1 (J lim)/\ε d gb 2 (.slice C pl.length E)/\ε d w 0 (J k)/\ε d w 1 (.string m)):=λd O=>by have hb:Ϟ w d:=G.trans (O.mono ω);have V:=(p.a.c hb p.a.f).a 2 _ rfl;simp only[yf,yd,ye,hv]at V;exact⟨(p.a.c hb p.a.f).a 1 _ rfl,V,(hX.c O ω).a 0 _ rfl,(hX.c O ω).a 1 _ rfl⟩
 have n:=ah G;have s:Hid ((w.alloc (.cells #[J k,.string m] 111))=w.heap.size+1):=by simp[Hid]
 obtain⟨Z,e2,e3,e4⟩:=P _ Ϡ;by_cases Q:pl.length<lim
 .have T:pl.length<lim:=ω;rw[if_pos Q];go_enter func104,ntmps104;go_wp21;generalize w.alloc _=W at P n s Z e2 e3 e4|-;go_quiet (fail);go_wp21;have t:Hid (Below (w.heap.size+1) W (W.drewN nq)):=below_drewN Ϡ nq;have v:Hid ((W.drewN nq)=w.heap.size+1):=by have:=s.out;simp[Hid,this]
  generalize W.drewN nq=l at t v|-;have B:Hid (cY l Fn gb pv lim pl nv/\Ϟ w l):=⟨N.c (n.trans (t.mono ω)),n.trans (t.mono ω)⟩;have r:Hid (∀d,Ϟ l d->ε d gb 2 (.slice C pl.length E)/\ε d w 0 (J k)/\ε d w 1 (.string m)):=λd O=>(P d (t.trans (O.mono (by rw[v];lia)))).2;have X:Hid (∀g,nv.ownBlock=some g->g<w):=λg hg=>N.b.k hg;subst hv;refine gl.b (λd=>ε d gb 2 (.slice C pl.length E)/\ε d w 0 (J k)/\ε d w 1 (.string m)) 10 rfl (r _ Ϡ.drew) λa=>?_;(iterate 6 refine χ ?_);refine te 6 λK o=>?_;go_simp;have j:Hid (Ϟ l (l.alloc (.cells #[J k,.string m] 111)).drew):=(Ϡ.alloc Ϫ _).drew;refine o.out _ _ (λ_=>r _ j) λa=>?_;have HE:Hid (af (l.alloc (.cells #[J k,.string m] 111)).drew l 111 #[J k,.string m]):=(af.d l l rfl 111 _).i;have F:Hid ((l.alloc (.cells #[J k,.string m] 111)).drew=l.heap.size+1):=by simp[Hid]
  generalize (l.alloc (.cells #[J k,.string m] 111)).drew=w4 at j HE F a|-;refine te 7 λK o=>?_;apply step_append_lies w4 rfl (.tmp 18) (.tmp 20) 92 rfl 0 111 i0 _ 2 24 underlying92 a4 a1 a3 a0 rfl θ (.slice C pl.length E) pl.length (ar pl) rfl (aQ B.1.b.d j) (aT l 0) 1 1 [J k,.string m] rfl rfl (IZ HE) (by intro u hu;simp only[yF,yU,or_false]at hu;rcases hu with rfl|rfl<;>rfl) ω (by simp[maxLen];lia) ω (oI _) (l.heap.size+1) F;intro g H M A f b U;have Y:=B.1.e;have L:=yg B.1.a.f j.size;have I:Hid (ε M gb 2 (.slice C pl.length E)/\ε M w 0 (J k)/\ε M w 1 (.string m)):=
   have h4:=r _ j;have S:w.heap.size<w4:=by have:=j.size;rw[v]at this;lia
   have nx:some w.heap.size≠(Value.slice C pl.length E).ownBlock:=λe=>ϕ (X _ e.symm)
   ⟨(f.cell_far ⟨gb,2,none⟩ L Y).trans h4.1,(f.cell_far ⟨w.heap.size,0,none⟩ S nx).trans h4.2.1,(f.cell_far ⟨w.heap.size,1,none⟩ S nx).trans h4.2.2⟩
  have q:af M gb 97 #[pv,J lim,.slice C pl.length E]:=(f.block gb L Y).trans (B.1.a.c j B.1.a.f);have y:g≠gb:=by rcases b with b|b;grind;have:=B.1.a.f;lia
  have z:Hid (cW (λx=>Fn x\/x=gb) w (M.setCell ⟨gb,2,none⟩ (sT g (pl.length+1) H))/\cY (M.setCell ⟨gb,2,none⟩ (sT g (pl.length+1) H)) (aY Fn w) gb pv lim (pl++[(k,m)]) (sT g (pl.length+1) H)):=by
   have R:=B.2;have i:=R.trans (j.mono R.size);refine⟨⟨f.os.trans i.os,f.tape.trans i.tape,f.output.trans i.output,ϰ (yr i.size f.size),λx hx hF=>?_⟩,q.e 2 _,⟨?_,λg' D=>?_⟩⟩;rw[yT _ _ _ _ λe=>hF (.inr e)];exact(f.block x (yg hx i.size) λe=>hF (.inl (N.b.c x e.symm))).trans (i.block x hx)
   .rw[yC,kQ];refine aj A λg' D=>?_;have:g'=g:=by simpa[Value.ownBlock]using D.symm
    grind[yT]
   have:g'=g:=by simpa[Value.ownBlock]using D.symm
   subst this;rcases b with b|b;exact .inl (N.b.c _ b);exact .inr (by rw[b,v];lia)
  have a5:=q.b 2;refine o.out _ _ (λ_=>I) λa=>?_;have a:=a θ;refine te 8 λK o=>?_;go_simp;refine o.out _ _ (λ_=>I) λa=>?_;refine te 9 λK o=>?_;go_simp;refine o.out _ _ (λ_=>I) λa=>?_;have a:=a θ;refine te 10 λK o=>?_;go_simp;refine o.out _ _ (λh=>absurd rfl h) λ_=>?_;refine gl.done κ ?_ _;go_wp21;go_end0;exact⟨rfl,z.1,_,z.2⟩
 have T:¬(pl.length:Int)<(lim:Int):=ω;rw[if_neg Q];go_enter func104,ntmps104;go_wp21;generalize w.alloc (.cells #[J k,.string m] 111)=W at P n s Z e2 e3 e4|-;go_quiet (fail);go_wp21;go_end0;exact⟨rfl,cW.d (below_drewN n _),nv,(N.c (below_drewN n _)).d aY.c⟩
end
variable {Fn:ϑ}{gb:Nat}{pv:Θ}{lim:Nat}{pl:List bC}{nv:Θ}
def nT:∀{pl:List bC}{i:Nat}{x:bC},pl[i]?=some x->(ar pl)[i*2]?=some (J x.1)/\(ar pl)[i*2+1]?=some (.string x.2)
 |[],i,x,h=>by cases h
 |y::a,0,x,h=>by simp only[AH,yA]at h;subst h;exact⟨rfl,rfl⟩
 |y::a,i+1,x,h=>by have:=nT (by simpa using h);have e:ar (y::a)=[J y.1,.string y.2]++ar a:=rfl;rwa [e,show (i+1)*2=i*2+1+1 by lia]
def kt{F:ϑ}{v:Θ}(r:eB w F 111 2 v pl.length (ar pl)){k:Nat}{x:bC}(l:pl[k]?=some x):∃g d,v=sT g pl.length d/\F g/\g<w.heap.size/\w.cell? ⟨g,k*2,none⟩=some (J x.1)/\w.cell? ⟨g,k*2+1,none⟩=some (.string x.2)/\∃e,w.heap[g]?=some (.cells e 111 (0,0)):=by
 have m:=(ym.1 l).1;rcases r.d.2 with ⟨-,h⟩|⟨g,d,e,h,-,f,-⟩
 .lia
 have b:v.ownBlock=some g:=by rw[h];rfl
 obtain⟨a,c⟩:=nT l;have j:=r.d.cells b _ _ a;have i:=r.d.cells b _ _ c;rw[lu]at j i;exact⟨g,d,h,r.c g b,r.k b,j,i,e,f⟩
def qR(p:cY w Fn gb pv lim pl nv):ϖ 59 #[pT gb 1] w λe a=>ϱ e nv/\a=w.setCell ⟨gb,2,none⟩ (sN):=by have b:=p.a.a 2 _ rfl;have c:=p.a.b 2;simp only[yf,yd,ye]at b;clear p;go_enter func59,ntmps59;go_wp21;go_ret;exact⟨rfl,rfl⟩
def wB(p:cY w Fn gb pv lim pl nv)(k:Nat)(x:bC)(b:pl[k]?=some x):ϖ 135 #[pT gb 1,J k] w λe j=>ϱ e (.tuple #[.string x.2,J 0])/\j=w:=by have a:=(ym.1 b).1;have d:=ah (kq p k a);obtain⟨g,c,f,-,-,n,m,-⟩:=kt p.b b;have l:=p.a.a 2 _ rfl;simp only[yf,yd,ye,f]at l;have i:0<=k:=ω;have h:k<pl.length:=ω;clear p b;go_enter func135,ntmps135;go_wp21;apply d.mono;rintro e o⟨rfl,rfl⟩;go_wp21;go_ret2;exact⟨rfl,rfl⟩
def zr(p:cY w Fn gb pv lim pl nv)(q:pl.length<=1000000)(k:Nat)(x:bC)(d:pl[k]?=some x):ϖ 125 #[pT gb 1,J k] w λe j=>ϱ e (J 0)/\cW (λx=>Fn x\/x=gb) w j/\∃f,cY j (aY Fn w) gb pv lim (je lim pl x) f:=by have c:=(ym.1 d).1;have i:=ah (kq p k c);have h:=ah (qc p x q);obtain⟨g,l,m,-,-,u,s,-⟩:=kt p.b d;have r:=p.a.a 2 _ rfl;simp only[yf,yd,ye,m]at r;have o:0<=k:=ω;have n:k<pl.length:=ω;clear p d;go_enter func125,ntmps125;go_wp21;apply i.mono;rintro e v⟨rfl,rfl⟩;go_wp21;apply h.mono;rintro e t⟨rfl,b⟩;have a:=ah b;clear b h i;go_wp21;go_ret;exact⟨rfl,a.1,a.2⟩
def Ix(w:Δ)(g o c:Nat){a:ϡ}(h:w.heap[g]?=some (.cells a 111 (0,0)))(i:o+1<a.size):(Builtin.clear_ #[92] 0 #[.slice (some ⟨g,o,none⟩) 1 c]).run prog w=.ok ϳ (w.setRow g (a.toList.take o++[Value.int .i64 0,Value.string ⟨#[]⟩]++a.toList.drop (o+2)).toArray):=by
 have b:=run_storeCells_at prog g o 111 [J 0,.string ⟨#[]⟩] 0 a w h (by simp;lia) (by intro v d;simp at d;rcases d with rfl|rfl<;>rfl);have e:(Builtin.zeroCells (Value.agg #[Value.int .i64 0,.string ⟨#[]⟩]).cells 1).toList=[J 0,.string ⟨#[]⟩]:=κ;simp[Builtin.clear_,run_underlying _,(zeroValue111 w),e];simp at b;rw[b];rfl
theorem bg(a:List bC):(ar a).length=a.length*2:=by
 induction a with
 |nil=>rfl
 |cons x a b=>
  have e:ar (x::a)=[J x.1,.string x.2]++ar a:=rfl;grind
theorem fA(a c:List bC):ar (a++c)=ar a++ar c:=by simp[ar]
def tT:∀u∈ar pl,u.oneCell'=true:=by intro u b;unfold ar at b;obtain⟨x,-,a⟩:=Km.1 b;simp at a;rcases a with rfl|rfl<;>rfl
def qT(k:Nat):(ar pl).take (k*2)=ar (pl.take k):=by
 by_cases b:k<=pl.length
 grind[fA,List.take_append_drop,bg]
 rw[yX (by grind[bg]),yX ω]
def qS(k:Nat):(ar pl).drop (k*2)=ar (pl.drop k):=by
 by_cases b:k<=pl.length
 have a:=fA (pl.take k) (pl.drop k);grind[List.take_append_drop,bg];rw[Lf (by grind[bg]),Lf ω];rfl
def oq{P:ϛ}{b:Array Oper}{o:Oper}{a:Act}{w d:Δ}{K:Act->Ξ}{Q:Exit->Act->Ξ}{E:Prop}(c:o.guard=none)(s x:Operand)(t:ϟ)(j:o.op=.call {callee:=.builtin .append,args:=#[s,x],argTypes:=#[t,t]})(v u r:Θ)(i:a.eval s=v)(e:a.eval x=u)(g:(Builtin.append_ #[t,t] o.type #[v,u]).run P w=.ok r d)(h:K (a.put o.dst r) d):if Region.wanted o (yielded b a.tmps)=true then Oper.wp P o a w K Q else E:=by
 rw[if_pos (by simp[Region.wanted,c]:Region.wanted o (yielded b a.tmps)=true)];unfold Oper.wp execOp;simp only[j,resolve,invoke,builtin,Sem.run_bind,Sem.run_pure,Result.andThen_ok,Fj,yN,Cx,i,e,g];exact h
def BU{g a:Nat}(r:eB w Fn 111 2 (sT g pl.length a) pl.length (ar pl))(k:Nat)(hk:k<pl.length)(hl:pl.length<=1000000):ϖ 114 #[sT g pl.length a,J k,J (k+1:Nat)] w λe d=>ϱ e (sT g (pl.length-1) a)/\w.grownBy d (some g)/\eB d Fn 111 2 (sT g (pl.length-1) a) (pl.eraseIdx k).length (ar (pl.eraseIdx k)):=by
 obtain⟨i0,Y,a6,C,a5⟩:=info_parts tP;obtain⟨c,N,F,o,v,t⟩:∃c:ϡ,pl.length<=a/\a<=maxLen/\w.heap[g]?=some _/\c.size=a*2/\c.toList.take _=ar pl:=by rcases r.d.2 with ⟨m,-⟩|⟨g',Z,c,m,-,T,N,F,v,t⟩;cases m;injection m with m _ H;injection m with m;injection m with m;subst m H;exact⟨c,N,F,T,v,t⟩
 have E:Fn g:=r.c g rfl;obtain⟨b,O,G,P⟩:∃b:ϡ,b=(c.toList.take (k*2)++ar (pl.drop (k+1))++c.toList.drop (k*2+(ar (pl.drop (k+1))).length)).toArray/\b.size=a*2/\b.toList.take ((pl.length-1)*2)=ar (pl.eraseIdx k):=by
  refine⟨_,rfl,?_,?_⟩;grind[bg];have h3:c.toList.take (k*2)=ar (pl.take k):=by rw[<-qT,<-t,List.take_take];congr 1;lia
  grind[fA,bg]
 have y:Hid (∀d U V,d.heap[g]?=some (.cells c 111 (0,0))->(∃s,∃A:Addr,(if a=k+1 then some (⟨g,0,none⟩:Addr) else some ⟨g,(k+1)*2,none⟩)=some A/\(Builtin.append_ #[92,92] U #[sT g k a,.slice (some A) (pl.length-(k+1)) V]).run prog d=.ok (sT g (pl.length-1) a) s/\d.grownBy s (some g)/\s.heap[g]?=some (.cells b 111 (0,0)))):=λd U V i=>by
  obtain⟨A,X,L⟩:∃A:Addr,(if a=k+1 then some (⟨g,0,none⟩:Addr) else some ⟨g,(k+1)*2,none⟩)=some A/\∀j u,(ar (pl.drop (k+1)))[j]?=some u->d.cell? (A.add j)=some u:=by
   by_cases z:a=k+1
   refine⟨_,if_pos z,λj u I=>?_⟩;rw[(Lf ω)]at I;cases I;refine⟨_,if_neg z,λj u I=>?_⟩;have hj:=(ym.1 I).1;rw[bg,I5]at hj;rw[<-qS,List.getElem?_drop,<-t,List.getElem?_take,if_pos ω]at I;grind[Addr.add_lit,cell_of_row]
  have f:=run_append_room (P:=prog) d 92 U 111 i0 underlying92 Y g k a c i A (pl.length-(k+1)) V (ar (pl.drop (k+1))) (by grind[bg]) L tT ω (by grind[bg]);rw[C,<-O,show k+(pl.length-(k+1))=pl.length-1 by lia]at f;exact⟨_,A,X,f,⟨rfl,rfl,rfl,by simp,λx _ D=>setRow_other _ _ _ _ λe=>D (by rw[e])⟩,(by grind[setRow_heap])⟩
 have R:Hid (∀d,d.heap[g]?=some (.cells b 111 (0,0))->∃s,(Builtin.clear_ #[92] 0 #[.slice (some ⟨g,(pl.length-1)*2,none⟩) 1 (a-(pl.length-1))]).run prog d=.ok ϳ s/\d.grownBy s (some g)/\s.ownsRow 0 111 2 (sT g (pl.length-1) a) (pl.eraseIdx k).length (ar (pl.eraseIdx k))):=λd i=>by
  have q:(pl.eraseIdx k).length=pl.length-1:=by rw[List.length_eraseIdx,if_pos hk]
  refine⟨_,Ix d g ((pl.length-1)*2) (a-(pl.length-1)) i ω,⟨rfl,rfl,rfl,by simp,λx _ D=>setRow_other _ _ _ _ λe=>D (by rw[e])⟩,⟨by rw[bg],.inr ⟨g,a,_,by rw[q],oI _,setRow_heap d g _ _ 111 _ i,by rw[q];lia,F,?_,?_⟩⟩⟩;grind;grind
 have a0:=ah ((yk.1 o).1);have b3:(0:Int)<=(k:Int):=ω;have b2:(k:Int)<=((k+1:Nat):Int):=ω;have b4:((k+1:Nat):Int)<=(pl.length:Int):=ω;have b6:(pl.length:Int)<=(a:Int):=ω;have a9:¬(k:Int)=((k+1:Nat):Int):=ω;have b0:(k:Int)+1<=(pl.length:Int):=ω;have a1:(0:Int)<=(k:Int)+1:=ω;have a8:(k:Int)<=(a:Int):=ω;go_enter func114,ntmps114;go_wp21;have a4:((k:Int)==(k:Int)+1)=false:=by rw[beq_eq_false_iff_ne];lia
 refine wp_region_held_drew (S:=λ_=>True) rfl trivial λn=>?_;(iterate 6 refine ψ ?_);obtain⟨s,A,X,f,l,S⟩:=y w.drew 92 (a-(k+1)) (ah o);rw[X];refine we 6 λK hK=>?_;apply oq rfl (.tmp 22) (.tmp 25) 92 rfl _ _ _ rfl rfl f;refine hK.out _ _ trivial λn=>?_;refine wpAnyH_take (i:=7) (v:=?v7_7) rfl κ κ κ (λ_ _ _ h=>h) (Or.inl ⟨by rfl,?y7_7⟩) (by assumption) ?r7_7
 case y7_7=>(intro d W;(try dsimp only at W);go_simp;(try with_reducible rfl))
 refine wpAnyH_done κ ?_ _;obtain⟨w3,b1,Q,p⟩:=R s S;have M:=ah p;have b5:(0:Int)<=((pl.length-1:Nat):Int):=ω;have a7:((pl.length-1:Nat):Int)<=(pl.length:Int):=ω;have a3:(pl.length:Int)<=(a:Int):=ω;have a2:pl.length-(pl.length-1)=1:=ω;go_wp21;go_ret;exact⟨rfl,(ah (({l with}:w.grownBy s (some g)).trans Q)),M,λg' i=>by
  have:g'=g:=by simpa[Value.ownBlock]using i.symm
  rwa [this]⟩
def IR{w:Δ}{X:Nat}{T:ϟ}{f d:Θ}(h:af w X T #[f,d])(a b:Θ):af ((w.setCell ⟨X,0,none⟩ a).setCell ⟨X,1,none⟩ b) X T #[a,b]/\ej X w ((w.setCell ⟨X,0,none⟩ a).setCell ⟨X,1,none⟩ b):=
 have e:=h.e 0 a;have c:=e.e 1 b
 ⟨c,((ej.d X w).a 0 a).a 1 b⟩
def qd(p:cY w Fn gb pv lim pl nv)(hl:pl.length<=1000000)(k:Nat)(x:bC)(V:pl[k]?=some x):ϖ 73 #[pT gb 1,J k] w λe w'=>ϱ e (.tuple #[.agg #[J x.1,.string x.2],J 0])/\cW (λy=>Fn y\/y=gb) w w'/\∃P,cY w' Fn gb pv lim (pl.eraseIdx k) P:=by
 have C:=(ym.1 V).1;obtain⟨f,d⟩:=x;simp only;obtain⟨g,a,hv,S,H,d0,d1,-⟩:=kt p.b V;subst hv;have T:g≠gb:=λe=>p.e (by rw[<-e];rfl);have c:Ϟ w (w.alloc (.cells #[J 0,.string ⟨#[]⟩] 111)):=Ϡ.alloc Ϫ _;have HH:=ah (kq (p.c c) k C);have M:=ah p;have W:=ah c;have R:Hid (af (w.alloc (.cells #[J 0,.string ⟨#[]⟩] 111)) w.heap.size 111 #[J 0,.string ⟨#[]⟩]):=af.d w w.heap.size rfl 111 _;have c2:=(p.c c).a.a 2 _ rfl;have e0:=(c.cell H).trans d0;have e1:=(c.cell H).trans d1;simp only[yf,yd,ye]at c2;have a6:0<=k:=ω;have a5:k<pl.length:=ω;have a4:wrap64 ((k:Int)+1)=((k+1:Nat):Int):=by unfold wrap64;lia
 have a3:Hid ((w.alloc (.cells #[J 0,.string ⟨#[]⟩] 111)).heap.size=w.heap.size+1):=by simp[Hid]
 have a1:Hid ((pl.eraseIdx k).length=pl.length-1):=by rw[Hid,List.length_eraseIdx,if_pos C]
 clear p c d0 d1 V;go_enter func73,ntmps73;go_wp21;apply HH.mono;rintro e w1⟨rfl,Y⟩;subst Y;have a2:g≠w.heap.size:=ω;have a0:=M.a.f;have B:Hid (af ((w.alloc (.cells #[J 0,.string ⟨#[]⟩] 111)).alloc (.cells #[J f,.string d] 111)) (w.heap.size+1) 111 #[J f,.string d]):=af.d _ _ ς 111 _;have q:Ϟ w ((w.alloc (.cells #[J 0,.string ⟨#[]⟩] 111)).alloc (.cells #[J f,.string d] 111)):=W.alloc ς _;have A:=ah q;have i:Hid (af ((w.alloc (.cells #[J 0,.string ⟨#[]⟩] 111)).alloc (.cells #[J f,.string d] 111)) w.heap.size 111 #[J 0,.string ⟨#[]⟩]):=R.g _;have D:=(M.c q).a.a 2 _ rfl;simp only[yf,yd,ye]at D;have r:Hid (((w.alloc (.cells #[J 0,.string ⟨#[]⟩] 111)).alloc (.cells #[J f,.string d] 111)).heap.size=w.heap.size+1+1):=by simp[Hid]
 have h:((k+1:Nat):Int)=k+1:=ω;have O:=ah (h▸BU (M.c q).b k C hl);clear q HH h;go_wp21;generalize ((w.alloc _).alloc _)=w2 at B A i D r O|-;apply O.mono;rintro e j⟨rfl,E,u⟩;have o:∀y,y<w2.heap.size->y≠g->j.heap[y]?=w2.heap[y]?:=λy G U=>E.block y G (λe=>U (by injection e));have I:af j w.heap.size 111 #[J 0,.string ⟨#[]⟩]:=(o _ (by rw[r];lia) ω).trans i;have F:af j (w.heap.size+1) 111 #[J f,.string d]:=(o _ (by rw[r];lia) ω).trans B;have s:af j gb 97 #[pv,J lim,sT g pl.length a]:=(o gb (by rw[r];lia) T.symm).trans (M.c A).a;have f2:=s.b 2;have b2:=s.a 2 _ rfl;have v:=s.e 2 (sT g (pl.length-1) a);have n:ej gb j (j.setCell ⟨gb,2,none⟩ (sT g (pl.length-1) a)):=(ej.d _ _).a _ _;have l:af (j.setCell ⟨gb,2,none⟩ (sT g (pl.length-1) a)) (w.heap.size+1) 111 #[J f,.string d]:=(n.block _ ω).trans F;have b:Hid (af (j.setCell ⟨gb,2,none⟩ (sT g (pl.length-1) a)) w.heap.size 111 #[J 0,.string ⟨#[]⟩]):=(n.block _ ω).trans I;have r0:=l.a 0 _ rfl;have r1:=l.a 1 _ rfl;have g0:=b.b 0;have g1:=b.b 1;have q0:=b.a 0 _ rfl;have q1:=b.a 1 _ rfl;simp only[yf,yd,ye]at r0 r1 q0 q1 b2;have m:Hid (cY (j.setCell ⟨gb,2,none⟩ (sT g (pl.length-1) a)) Fn gb pv lim (pl.eraseIdx k) (sT g (pl.length-1) a)):=⟨v,u.i λK z=>n.block K (λe=>by
  have:K=g:=by simpa[Value.ownBlock]using z.symm
  lia)⟩
 have t:Hid (cW (λy=>Fn y\/y=gb) w (j.setCell ⟨gb,2,none⟩ (sT g (pl.length-1) a))):=(cW.d A).c ((cW.f E λy G=>by injection G with G;subst G;exact .inl (.inl S)).c (cW.i n (.inl (.inl (.inr rfl)))));clear o I F s v n l E u O B i D;go_wp21;generalize j.setCell ⟨gb,2,none⟩ (sT g (pl.length-1) a)=N at b r0 r1 g0 g1 q0 q1 m t|-;obtain⟨Q,L⟩:=IR b (J f) (.string d);have X:Hid (cW (λy=>Fn y\/y=gb) w ((N.setCell ⟨w.heap.size,0,none⟩ (J f)).setCell ⟨w.heap.size,1,none⟩ (.string d))/\cY ((N.setCell ⟨w.heap.size,0,none⟩ (J f)).setCell ⟨w.heap.size,1,none⟩ (.string d)) Fn gb pv lim (pl.eraseIdx k) (sT g (pl.length-1) a)):=by
  refine⟨t.c (cW.i L (.inr Ϫ)),(L.block gb ω).trans m.a,m.b.i λK z=>L.block K λe=>?_⟩;have:K=g:=by simpa[Value.ownBlock]using z.symm
  lia
 generalize ((N.setCell ⟨w.heap.size,0,none⟩ (J f)).setCell ⟨w.heap.size,1,none⟩ (.string d))=w5 at Q L X|-;have s0:=Q.a 0 _ rfl;have Z:=Q.a 1 _ rfl;simp only[yf,yd,ye]at s0 Z;(try simp only[Exit.inBlock,Exit.then]);apply bodyPost_ret (v:=.tuple #[.agg #[J f,.string d],J 0]) (by simp[results,results73,go_sem,s0,Z]) rfl;exact⟨rfl,X.1,_,X.2⟩
variable {cs:List bC}
section
def GE(p:PA w F b h kn l evs snt kb mb rbs es clk ev sv):ϖ 103 #[pT b 0] w λe i=>ϱ e sv/\ej b w i/\PA i F b h kn l evs [] kb mb rbs es clk ev (sN)/\eB i F 111 2 sv snt.length (ar snt):=by
 have f:=p.a.z 18;have o:=p.a.b 18;simp only[Hd.c,yf,yd,ye]at f;have c:ej b w (w.setCell ⟨b,18,none⟩ (sN)):=(ej.d _ _).a _ _;have a:∀{e:ϟ}{k:Nat}{v:Θ}{n:Nat}{j:Ϣ},eB w F e k v n j->e≠159->eB _ F e k v n j:=λr q=>r.i λg d=>c.block g (r.o d p.a q);have s:Hid (ej b w (w.setCell ⟨b,18,none⟩ (sN))/\PA (w.setCell ⟨b,18,none⟩ (sN)) F b h kn l evs [] kb mb rbs es clk ev (sN)/\eB (w.setCell ⟨b,18,none⟩ (sN)) F 111 2 sv snt.length (ar snt)):=
  ⟨c,p.p rfl (p.a.e 18 _) (λx _ m _ _=>c.block x m) (a p.c θ) ⟨y9 _ _ _ _,λg d=>by cases d⟩,a p.f θ⟩
 go_enter func103,ntmps103;go_wp21;go_ret;exact⟨rfl,s⟩
def dO(lim:Nat)(pl:List bC)(cs:List bC):List bC:=cs.foldl (je lim) pl
def tV(a:Nat)(e d:List bC)(c:bC):dO a e (d++[c])=je a (dO a e d) c:=by simp[dO]
theorem zw(a:Nat)(d:List bC)(c:bC):(je a d c).length<=d.length+1:=by grind[je]
def wP(a:Nat)(e:List bC):∀d:List bC,(dO a d e).length<=d.length+e.length:=by
 induction e with
 |nil=>intro d;exact Ϫ
 |cons c e f=>
  grind[zw,dO]
variable {Fn:ϑ}{gb:Nat}{pv:Θ}{lim:Nat}{pl:List bC}{nv:Θ}
def FY(p:PA w F b h kn l evs snt kb mb rbs es clk ev sv)(R:cY w Fn gb pv lim pl nv)(t:∀x,F x->¬Fn x)(H:¬F gb)(hl:pl.length+snt.length<=1000000):ϖ 62 #[pT gb 0,pT b 0] w λe M=>ϱ e ϳ/\cW (λx=>x=b\/Fn x\/x=gb) w M/\PA M F b h kn l evs [] kb mb rbs es clk ev (sN)/\∃nv',cY M (aY Fn w) gb pv lim (dO lim pl snt) nv':=by
 have O:b≠gb:=λe=>H (e▸p.t);obtain⟨ao,vc,hv⟩:=bG p.f.d;have s:Hid (∀f wr k nv' c,f.heap.size=w.heap.size->eB f F 111 2 sv snt.length (ar snt)->cW (λx=>Fn x\/x=gb) f wr->cY wr (aY Fn f) gb pv lim (dO lim pl (snt.take k)) nv'->snt[k]?=some c->(∃g,ao=some ⟨g,0,none⟩/\wr.cell? ⟨g,k*2,none⟩=some (J c.1)/\wr.cell? ⟨g,k*2+1,none⟩=some (.string c.2))/\∀Z,Ϟ wr Z->ϖ 104 #[pT gb 1,.agg #[J c.1,.string c.2]] Z λe Y=>ϱ e ϳ/\cW (λx=>Fn x\/x=gb) f Y/\∃nv',cY Y (aY Fn f) gb pv lim (dO lim pl (snt.take (k+1))) nv'):=λf wr k nv' c b1 u j m hc=>by
  obtain⟨g,b2,T,Q,a4,c0,N,-⟩:=kt u hc;have a2:ao=some ⟨g,0,none⟩:=by rw[hv]at T;injection T
  have v:wr.heap[g]?=f.heap[g]?:=j.block g a4 (λe=>by grind)
  have S:k<snt.length:=(ym.1 hc).1;refine⟨⟨g,a2,(by grind[yq]),(by grind[yq])⟩,λZ E=>?_⟩;have W:=wP lim (snt.take k) pl;rw[xk]at W;apply (qc (m.c E) c ω).m;rintro Y⟨V,a5,a1⟩;refine⟨rfl,j.c ((cW.d E).c (V.e λx n o=>?_)),a5,?_⟩;rcases o with (o|o)|o;exact .inl (.inl (.inl o));exact .inl (.inr o);exact .inl (.inl (.inr o));rw[Lc,hc];simp;rw[tV];refine a1.d λx n=>?_;rcases n with n|n;exact n;exact .inr (ϵ j.size E.size)
 have z:Hid (∀f wr nv',ej b w f->PA f F b h kn l evs [] kb mb rbs es clk ev (sN)->cW (λx=>Fn x\/x=gb) f wr->cY wr (aY Fn f) gb pv lim (dO lim pl (snt.take snt.length)) nv'->cW (λx=>x=b\/Fn x\/x=gb) w wr/\PA wr F b h kn l evs [] kb mb rbs es clk ev (sN)/\∃nv',cY wr (aY Fn w) gb pv lim (dO lim pl snt) nv'):=λf wr nv' B hp j m=>by rw[AE]at m;refine⟨(cW.i B (.inl rfl)).c (j.e λx _ n=>.inl (.inr n)),hp.u λx n a3=>j.block x a3 λe=>?_,nv',m.d λx n=>?_⟩;grind;rcases n with n|n;exact .inl n;exact .inr (by grind[ej.size])
 have HN:Hid (∀f,ej b w f->cY f (aY Fn f) gb pv lim (dO lim pl (snt.take 0)) nv):=λf B=>⟨(B.block gb O.symm).trans R.a,⟨aj R.b.d λg hg=>B.block g λe=>t b p.t (e▸R.b.c g hg),λg hg=>.inl (R.b.c g hg)⟩⟩;subst hv;have a7:Hid (snt.length<=1000000):=by simp only[Hid];lia
 go_enter func62,ntmps62;go_wp2_with fail;apply (ah (GE p)).m;rintro f⟨B,hp,u⟩;have HO:=ah B;go_wp2_with fail;go_loopw [9] (λi wr=>∃k:Nat,k<=snt.length/\i=J k/\cW (λx=>Fn x\/x=gb) f wr/\∃nv',cY wr _ gb pv lim (dO lim pl (snt.take k)) nv') λi _=>snt.length-(intOf i).toNat
 case atStart=>exact⟨0,ω,rfl,cW.j _ _,nv,(ah (HN f B))⟩
 case round=>
  obtain⟨k,hk,rfl,j,nv',m⟩:=hrel;have b0:=a7;by_cases a0:k<snt.length
  .obtain⟨⟨N,c2⟩,P⟩:∃c,snt[k]?=some c:=⟨_,yh a0⟩;obtain⟨⟨g,rfl,e0,e1⟩,q⟩:=s f wr k nv' _ HO.size (ah u) j m P;simp only at e0 e1 q;have a8:(k:Int)<(snt.length:Int):=ω;have b3:(0:Int)<=(k:Int):=ω;have hX:=af.d wr wr rfl 111 #[J N,.string c2];have I:=hX.z 0;have L:=hX.z 1;have X:Hid (Ϟ wr (wr.alloc (.cells #[J N,.string c2] 111))):=Ϡ.alloc Ϫ _;go_wp2_with fail;generalize wr.alloc (.cells #[J N,.string c2] 111)=Z at X I L|-;refine gl.b (λM=>ε M wr 0 (J N)/\ε M wr 1 (.string c2)) 4 rfl ⟨I,L⟩ λr=>?_;apply tw 3;refine te 0 λK y=>?_;go_simp;refine y.out _ _ (λ_=>⟨I,L⟩) λr=>?_;refine te 1 λK y=>?_;go_simp;refine y.out _ _ (λ_=>⟨I,L⟩) λr=>?_;refine te 2 λK y=>?_;go_simp;refine y.out _ _ (λ_=>⟨I,L⟩) λr=>?_;refine te 4 λK y=>?_;go_simp;apply ((ah q) _ X.drew).m;rintro Y D;have C:=ah D;go_wp2_with fail;refine y.out _ _ (λh=>absurd rfl h) λ_=>?_;refine gl.done κ ?_ _;go_wp2_with fail;exact⟨⟨k+1,ω,by go_num,C.1,C.2⟩,by simp[intOf];lia⟩
  have a9:¬(k:Int)<(snt.length:Int):=ω;have S:k=snt.length:=ω;subst S;go_wp2_with fail;go_end0;exact⟨rfl,(ah (z f wr nv' HO (ah hp) j m))⟩
end
def LH(c:UInt8)(m:Nat)(h:m<=255):bits .xor .u8 (c.toNat:Int) (IntKind.u8.wrap (m:Int))=((c^^^UInt8.ofNat m).toNat:Int):=by
 have f:=c.toNat_lt;rw[(by simp[IntKind.wrap,IntKind.bits,IntKind.signed];lia:IntKind.u8.wrap m=m)];show IntKind.u8.wrap ((BitVec.ofInt 8 c.toNat^^^BitVec.ofInt 8 m).toNat:Nat)=_;have g:c.toNat^^^m<256:=Nat.xor_lt_two_pow f ω;have a:(c^^^UInt8.ofNat m).toNat=c.toNat^^^m:=by rw[UInt8.toNat_xor,UInt8.toNat_ofNat',Nat.mod_eq_of_lt ω]
 rw[BitVec.toNat_xor,(by rw[BitVec.toNat_ofInt];lia:(BitVec.ofInt 8 c.toNat).toNat=c.toNat),(by rw[BitVec.toNat_ofInt];lia:(BitVec.ofInt 8 m).toNat=m),a];simp[IntKind.wrap,IntKind.bits,IntKind.signed];lia
def mG:∀(a:List bC)(k:Nat)(x y:bC),a[k]?=some x->x.1=y.1->(ar a).set (k*2+1) (.string y.2)=ar (a.set k y)
 |[],k,x,y,h,_=>by cases h
 |z::a,0,x,y,h,e=>by simp only[AH,yA]at h;subst h;show [Value.int .i64 z.1,.string y.2]++ar a=[Value.int .i64 y.1,.string y.2]++ar a;rw[e]
 |z::a,k+1,x,y,h,e=>by have:=mG a k x y (ϰ h) e;show ([Value.int .i64 z.1,.string z.2]++ar a).set _ _=[Value.int .i64 z.1,.string z.2]++ar _;rw[<-this,show (k+1)*2+1=k*2+1+1+1 by lia];rfl
def cP(x:ϝ)(i m:Nat):ϝ:=⟨(x.data.toList.set i (x.data.toList.getD i 0^^^UInt8.ofNat m)).toArray⟩
def BI(w:Δ)(x:ϝ):∃c b,(convert 9 175 (.string x)).run prog w=.ok (sT w x.size c) b/\Ϟ w b/\(∀j,j<x.size->b.cell? (aT w j)=some (.int .u8 ((x.data.toList.getD j 0).toNat:Int))/\b.frozen? (aT w j)=false):=by
 have h:=run_bytes_of_string w 9 175 5 x underlying9 underlying175 underlying5;refine⟨_,_,h,(Ϡ.drew.alloc Ϫ _),λj f=>?_⟩;have d:(w.drew.alloc _).heap[w.heap.size]?=some (.cells (bytesRow x (grownCap w x.size 0 5)) 5 ((bytesRow x (grownCap w x.size 0 5)).size,(bytesRow x (grownCap w x.size 0 5)).size+1)):=heap_alloc_new w.drew _;have e:x.size<=(bytesRow x (grownCap w x.size 0 5)).size:=by unfold bytesRow;rw[Array.size_append,I1];exact Nat.le_add_right _ _
 refine⟨?_,?_⟩
 .rw[cell_of_row _ _ j _ 5 _ d];unfold bytesRow;simp_all[Array.getElem?_append_left]
 simp only[World.frozen?,d];grind
def qQ(p:cY w Fn gb pv lim pl nv)(k:Nat)(x:bC)(hk:pl[k]?=some x)(i m:Nat)(hi:i<x.2.size)(Y:1<=m)(C:m<=255)(a7:x.2.size<=1000000):ϖ 127 #[pT gb 1,J k,J i,J m] w λe b=>ϱ e (J 0)/\cW Fn w b/\cY b Fn gb pv lim (pl.set k (x.1,cP x.2 i m)) nv:=by
 have a6:=(ym.1 hk).1;obtain⟨S,a⟩:=x;simp only at hi a7|-;obtain⟨g,b1,R,a1,G,d0,d1,A,M⟩:=kt p.b hk;have HH:=ah (kq p k a6);obtain⟨c,t,Z,z,d⟩:=BI w a;have X:=ah z;have U:=p.a.a 2 _ rfl;simp only[yf,yd,ye,R]at U;have Q:=(d i hi).1;have fi:=(d i hi).2;have W:a.data.toList.length=a.size:=ς;have O:ej w.heap.size t (t.setCell ⟨w.heap.size,i,none⟩ (.int .u8 ((a.data.toList.getD i 0^^^UInt8.ofNat m).toNat:Int))):=(ej.d _ _).a _ _;have F:=z.trans (O.c Ϫ);have n:Hid (∀b,Below (t.setCell ⟨w.heap.size,i,none⟩ (.int .u8 ((a.data.toList.getD i 0^^^UInt8.ofNat m).toNat:Int))).heap.size (t.setCell ⟨w.heap.size,i,none⟩ (.int .u8 ((a.data.toList.getD i 0^^^UInt8.ofNat m).toNat:Int))) b->(convert 175 9 (sT w a.size c)).run prog b=.ok (.string (cP a i m)) b):=λb v=>by
  have a3:w.heap.size<(t.setCell ⟨w.heap.size,i,none⟩ (.int .u8 ((a.data.toList.getD i 0^^^UInt8.ofNat m).toNat:Int))).heap.size:=by have:=yI t _ Q;simpa using this
  have L:(a.data.toList.set i (a.data.toList.getD i 0^^^UInt8.ofNat m)).length=a.size:=ς;have:=run_convert_bytes_back (P:=prog) b 175 9 5 ⟨w.heap.size,0,none⟩ c (a.data.toList.set i (a.data.toList.getD i 0^^^UInt8.ofNat m)) underlying175 underlying5 underlying9 (λj hj=>by rw[L]at hj;rw[lu,(v.cell (p:=(aT w j)) a3)];by_cases e:j=i;grind[World.cell?_setCell_same];rw[List.getElem_set_ne λh=>e h.symm,World.cell?_setCell_other _ _ _ _ (λh=>e (by grind)),(d j hj).1];grind)
  rwa [L]at this
 have l:=LH (a.data.toList.getD i 0) m C;rw[show IntKind.u8.wrap _=m by simp[IntKind.wrap,IntKind.bits,IntKind.signed];lia]at l;have HP:=ah p;have E:g≠gb:=λe=>p.e (by rw[R,<-e];rfl);have c5:¬i<0:=ω;have b4:0<=i:=ω;have c3:¬a.size<=i:=ω;have b8:i<a.size:=ω;have b5:¬m<1:=ω;have b7:¬255<m:=ω;have c6:0<=k:=ω;have c0:k<pl.length:=ω;have a8:=(X.cell p.a.f).trans U;have r:=ah F;have c1:g≠w.heap.size:=ω;have I:=ah p.b;have y:Hid (∀b,Ϟ w b->cW Fn w (b.setCell ⟨g,k*2+1,none⟩ (.string (cP a i m)))/\cY (b.setCell ⟨g,k*2+1,none⟩ (.string (cP a i m))) Fn gb pv lim (pl.set k (S,cP a i m)) nv/\b.frozen? ⟨g,k*2+1,none⟩=false/\b.cell? ⟨g,k*2+1,none⟩=some (.string a)/\ε b gb 2 (sT g pl.length b1)):=λb v=>by
  have hO:ej g b (b.setCell ⟨g,k*2+1,none⟩ (.string (cP a i m))):=(ej.d _ _).a _ _;have D:=p.c v;have f:af b g 111 A:=(v.block g G).trans M;refine⟨(cW.d v).c (cW.i hO (.inl a1)),⟨(hO.block gb E.symm).trans D.a,⟨?_,p.b.c⟩⟩,f.b _,(v.cell (p:=⟨g,k*2+1,none⟩) G).trans d1,(v.cell (p:=(aT gb 2)) p.a.f).trans U⟩;rcases D.b.d.2 with ⟨q,h1⟩|⟨g',B,H,q,b3,a4,V,b0,a9,a2⟩
  .lia
  have a5:g'=g:=by rw[R]at q;injection q with q;injection q with q;injection q with q;exact q.symm
  subst a5;have a0:H=A:=by have T:b.heap[g']?=some (.cells A 111 (0,0)):=f;rw[a4]at T;injection T with T;injection T
  subst a0;refine⟨by rw[bg],.inr ⟨g',B,_,by rwa [Ko],b3,f.e (k*2+1) (.string (cP a i m)),by rwa [Ko],b0,by grind,?_⟩⟩;rw[Ko,Array.toList_setIfInBounds,List.take_set,a2];exact mG pl k (S,a) (S,cP a i m) hk rfl
 clear p d z F O Y C;generalize a.data.toList.getD i 0=bb at Q l n r;generalize bb^^^UInt8.ofNat m=cc at l n r;generalize cP a i m=tx at n y|-;go_enter func127,ntmps127;go_wp21;apply HH.mono;rintro e w0⟨rfl,b2⟩;subst b2;go_wp21;generalize t.setCell ⟨w0.heap.size,i,none⟩ (.int .u8 (cc.toNat:Int))=P at n r|-;obtain⟨N,u,b6,b9,c7⟩:=y P.drew r.drew;have HF:Hid (cW Fn w0 (P.setCell ⟨g,k*2+1,none⟩ (.string tx)).drew/\cY (P.setCell ⟨g,k*2+1,none⟩ (.string tx)).drew Fn gb pv lim (pl.set k (S,tx)) nv):=⟨N,u⟩;have c4:=n P.drew (Ϡ.drew);clear N u n y I Z U a8 Q fi l;refine gl.b (λb=>b=P.drew) 9 rfl rfl λo=>?_;(iterate 7 refine χ ?_);refine te 7 λK s=>?_;go_simp;refine s.out _ _ (λ_=>rfl) λo=>?_;clear s K;try simp only[pU]
 refine te 8 λK s=>?_;go_simp;refine s.out _ _ (λ_=>rfl) λo=>?_;clear s K;try simp only[pU]
 refine te 9 λK s=>?_;go_simp;refine s.out _ _ (λh=>absurd rfl h) λ_=>?_;clear s K;try simp only[pU]
 refine gl.done κ ?_ _;go_wp21;go_ret;exact⟨rfl,HF.1,R▸HF.2⟩
end
section
open Go.RowKit
open Go.Pm (Perm Fam SupO FixS Loose Shut)
variable {xs:Ϣ}{n:Nat}
def gS(ρ:Perm)(F:ϑ)(w w2:Δ):Prop:=∀r o,F r->w.heap[r]?=some o->w2.heap[ρ.f r]?=some (o.pm ρ)
def tf(ρ:Perm)(F:ϑ):ϑ:=λx=>F (ρ.i x)
section
variable {ρ:Perm}{F:ϑ}{w w2:Δ}
def tf.a{r:Nat}(h:F r):tf ρ F (ρ.f r):=by rwa [tf,ρ.a]
def af.j(d:gS ρ F w w2){b:Nat}(c:F b){t:ϟ}{a:ϡ}(h:af w b t a):af w2 (ρ.f b) t (a.map ρ.v):=d b _ c h
def qe(v:Θ):(v.pm ρ).ownBlock=v.ownBlock.map ρ.f:=by
 cases v with
 |slice a l c=>cases a<;>simp[Value.ownBlock,Addr.pm]
 |_=>simp[Value.ownBlock]
def iL(a:∀x∈xs,x.pm ρ=x):xs.map ρ.v=xs:=by have:=GU (g:=id) a;rw[this,List.map_id]
def iG(l:Υ):∀x∈ints l,x.pm ρ=x:=by intro x a;obtain⟨y,-,rfl⟩:=yW.1 a;simp
def Ai(l:List Ev):∀x∈az l,x.pm ρ=x:=by intro x b;obtain⟨y,-,a⟩:=Km.1 b;simp only[Ev.f,yF,yU,or_false]at a;rcases a with rfl|rfl|rfl|rfl|rfl|rfl<;>simp
def vL(l:List bC):∀x∈ar l,x.pm ρ=x:=by intro x b;obtain⟨y,-,a⟩:=Km.1 b;simp only[yF,yU,or_false]at a;rcases a with rfl|rfl<;>simp
def eB.j(p:gS ρ F w w2){e:ϟ}{h:Nat}{v:Θ}(i:∀x∈xs,x.pm ρ=x)(r:eB w F e h v n xs):eB w2 (tf ρ F) e h (v.pm ρ) n xs:=by refine⟨⟨r.d.1,?_⟩,λg d=>?_⟩;rcases r.d.2 with ⟨a,c⟩|⟨g,b,q,a,-,l,c,o,k,m⟩;exact .inl ⟨by rw[a];simp,c⟩;refine .inr ⟨ρ.f g,b,_,by rw[a];simp[Addr.pm],oI _,p g _ (r.c g (by rw[a];rfl)) l,c,o,ϰ k,?_⟩;rw[yV,<-List.map_take,m];exact iL i;rw[qe]at d;obtain⟨j,a,rfl⟩:=yE.1 d;exact tf.a (r.c j a)
def cO.i(m:gS ρ F w w2){d:Nat}{c:Ϙ}{o:List (Υ)}(u:F d)(s:∀r∈c,F r)(k:cO w n d c o):cO w2 n (ρ.f d) (c.map ρ.f) o:=by
 refine⟨by rw[yL];exact k.f,k.a,List.Pairwise.map _ (λa b g e=>g (ρ.Nd e)) k.d,?_,λq r l j t=>?_⟩
 .have:=af.j m u k.c;rw[Fj,AD]at this;rw[AD];have e:(Value.pm ρ∘λr=>Value.slice (some ⟨r,0,none⟩) n n)=((λr=>Value.slice (some ⟨r,0,none⟩) n n)∘ρ.f):=by funext r;simp[Addr.pm]
  rwa [e]at this
 rw[yZ]at j;obtain⟨p,i,rfl⟩:=yE.1 j;have:=k.b q p l i t;refine⟨this.1,?_⟩;have h:=af.j m (s p (yy i)) this.2;rwa [Fj,iL (iG l)]at h
def dX.c{b:Array MapEntry}{a:Nat}{l:aL}(m:dX b a l):dX (b.map (MapEntry.pm ρ)) a (l.map λx=>(x.1,x.2.pm ρ)):=by refine⟨?_,?_,?_,λe c=>?_⟩;have:=congrArg (List.map ρ.v) m.key;simp only[AD]at this;simp only[yV,AD];refine Eq.trans ?_ (this.trans ?_);rfl;refine GU λx _=>?_;simp[bQ];have:=congrArg (List.map ρ.v) m.val;simp only[AD]at this;simp only[yV,AD];refine Eq.trans ?_ (this.trans ?_);rfl;refine GU λx _=>?_;simp[aU];simp only[yV,AD];exact m.born;rw[yV]at c;obtain⟨d,f,rfl⟩:=yW.1 c;exact m.b d f
def cV.a{l:aL}(k:cV l):cV (l.map λx=>(x.1,x.2.pm ρ)):=List.Pairwise.map _ (λ_ _ h=>h) k
variable {b:Nat}{h:Hd}{kn:List (Υ)}{l:aL}{evs:List Ev}{snt:List bC}{kb mb:Nat}{rbs:Ϙ}{es:Array MapEntry}{clk:Nat}{ev sv:Θ}
def xH(h:Hd):Prop:=∀ρ:Perm,h.k.pm ρ=h.k/\h.e.pm ρ=h.e/\h.j.pm ρ=h.j
def PA.a6(al:gS ρ F w w2)(hh:xH h)(p:PA w F b h kn l evs snt kb mb rbs es clk ev sv):PA w2 (tf ρ F) (ρ.f b) h kn (l.map λx=>(x.1,x.2.pm ρ)) evs snt (ρ.f kb) (ρ.f mb) (rbs.map ρ.f) (es.map (MapEntry.pm ρ)) clk (ev.pm ρ) (sv.pm ρ) where
 a:=by have:=af.j al p.t p.a;simpa[Hd.c,(hh ρ).1,(hh ρ).2.1,(hh ρ).2.2,Addr.pm]using this
 e:=p.e.i al p.z p.fr
 map:=al mb _ p.s p.map
 o:=p.o.c
 i:=p.i.a
 d:=λx hx=>by obtain⟨y,hy,rfl⟩:=yW.1 hx;refine⟨(p.d y hy).1.j al (iG _),λg hg=>?_⟩;simp only[qe]at hg;obtain⟨g0,h0,rfl⟩:=yE.1 hg;intro hm;obtain⟨r,hr,e⟩:=yW.1 hm;rw[ρ.Nd e]at hr;exact(p.d y hy).2 g0 h0 hr
 c:=p.c.j al (Ai _)
 f:=p.f.j al (vL _)
 t:=tf.a p.t
 z:=tf.a p.z
 s:=tf.a p.s
 fr:=λr hr=>by obtain⟨r0,h0,rfl⟩:=yW.1 hr;exact tf.a (p.fr r0 h0)
def PX.a(g:gS ρ F w w2)(c:xH h){a:List ϥ}(p:PX w F b h kn a evs snt):PX w2 (tf ρ F) (ρ.f b) h kn a evs snt:=by obtain⟨l,rfl,o,i,e,m,d,j,k,q⟩:=p;have:=(q.a6 g c).px;rwa [AD]at this
end
open Go.Pm (Sup Inside Ran Sim restrict loose_live obj_back frame_calls)
open Go.Cr (fam Tabs leafLaw progOk)
structure Cl(w:Δ)(F:ϑ):Prop where
 g:Tabs w
 f:7<=w.heap.size
 d:∀x,F x->7<=x/\∃o,w.heap[x]?=some o/\SupO fam F o
section
variable {w w':Δ}{F:ϑ}
def Cl.j(c:Cl w F){x:Nat}(a:F x):x<w:=by obtain⟨-,o,b,-⟩:=c.d x a;exact(yk.1 b).1
def bR(h:Tabs w)(a:∀x,x<7->w'.heap[x]?=w.heap[x]?):Tabs w':=leafLaw.a w w' (λb c=>a b (yg c θ)) h
def Cl.c(c:Cl w F)(f:∀x,F x->w'.heap[x]?=w.heap[x]?)(a:∀x,x<7->w'.heap[x]?=w.heap[x]?)(b:w.heap.size<=w'):Cl w' F:=
 ⟨bR c.g a,yr c.f b,λx e=>
  let ⟨d,o,h,g⟩:=c.d x e
  ⟨d,o,(f x e).trans h,g⟩⟩
def Cl.i(c:Cl w F)(b:Ϟ w w'):Cl w' F:=c.c (λx a=>b.block x (c.j a)) (λx a=>b.block x (yg a c.f)) b.size
def Cl.a{e:Perm}{b:Δ}(h:Loose fam e b w)(j:Pm.Shut fam b)(k:Tabs w):Cl w (λx=>∃r,7<=r/\r<b.heap.size/\e.f r=x):=by refine⟨k,h.a,λx g=>?_⟩;obtain⟨r,a,d,rfl⟩:=g;refine⟨loose_live h a,_,h.e r _ a (yl d),h.j j (λi l c=>⟨i,l,c,rfl⟩) a (yl d)⟩
def Cl.e(c:Cl w F):∃(d:Δ)(a:Perm),Loose fam a d w/\Pm.Shut fam d/\Tabs d/\Inside prog fam a d w/\(∀r,7<=r->r<d.heap.size->F (a.f r))/\(∀x,F x->7<=a.i x/\a.i x<d.heap.size)/\gS a.MS F w d/\(∀x,a.h x=x):=by
 let l:=(List.range w.heap.size).filter λb=>@decide (F b) (Classical.propDecidable _)
 have v:∀b,b∈l↔b<w.heap.size/\F b:=λb=>by simp[l]
 obtain⟨d,a,j,G,s,t,D,H,K,N⟩:=restrict (F:=fam) w l (List.Pairwise.filter _ List.nodup_range) (λb p=>(c.d b ((v b).1 p).2).1) c.f (λb p=>by obtain⟨-,o,C,M⟩:=c.d b ((v b).1 p).2;exact⟨o,C,M.a λr _ n=>(v r).2 ⟨c.j n,n⟩⟩)
 have k:∀x,F x->7<=a.i x/\a.i x<d.heap.size:=λx z=>by obtain⟨i,E⟩:=Kp.1 ((v x).2 ⟨c.j z,z⟩);have e:=t i x E;have I:=(ym.1 E).1;have A:fam.gs+5=7:=rfl;rw[(by rw[<-e,a.a]:a.i x=fam.gs+5+i),s,A];lia
 refine⟨d,a,j,G,bR c.g λx z=>D x z,⟨⟨j.e,j.d,j.c,j.a,j.os,λi q=>by rw[K,N]⟩,G,j.g,j.b⟩,λr u n=>?_,k,λr o n C=>?_,H⟩;have A:fam.gs+5=7:=rfl;rw[s,A]at n;obtain⟨b,p⟩:∃b,l[r-7]?=some b:=⟨_,yh ω⟩;have e:=t (r-7) b p;rw[A,show 7+(r-7)=r by lia]at e;rw[e];exact((v b).1 (yy p)).2;obtain⟨u,m⟩:=k r n;have y:=j.e (a.i r) _ u (yl m);rw[a.c,C]at y;have O:(d.heap[a.i r]'m).pm a=o:=by injection y with y;exact y.symm
 show d.heap[a.i r]?=_;rw[yl m,obj_back O]
def PC(w:Δ)(F:ϑ)(b:Nat)(h:Hd)(kn:List (Υ))(ms:List ϥ)(evs:List Ev)(snt:List bC):Prop:=∃F1:ϑ,(∀x,F1 x->F x)/\PX w F1 b h kn ms evs snt/\Cl w F1
variable {b:Nat}{h:Hd}{kn:List (Υ)}{ms:List ϥ}{evs:List Ev}{snt:List bC}
def PC.d(p:PC w F b h kn ms evs snt){F':ϑ}(f:∀x,F x->F' x):PC w F' b h kn ms evs snt:=
 let ⟨d,e,c⟩:=p
 ⟨d,λx a=>f x (e x a),c⟩
def PC.c(p:PC w F b h kn ms evs snt)(a:Ϟ w w'):PC w' F b h kn ms evs snt:=
 let ⟨e,f,d,c⟩:=p
 ⟨e,f,d.e a,c.i a⟩
end
section
variable {w w':Δ}{F:ϑ}{b:Nat}{h:Hd}{kn:List (Υ)}{ms:List ϥ}{evs:List Ev}{snt:List bC}
end
open Go.ChangeMaps(setBlock)
variable{i:Nat}{F:ϑ}{snt:List bC}
section
structure vj where
 b:List (Υ)
 c:List ϥ
 a:List Ev
def cZ(i n win:Nat):Hd:=⟨i,n,win,false,false,false,0,gD n,0,0,0,0,sN,.pointer none,sN⟩
structure GA(w:Δ)(gb pb n win lim:Nat)(bl:Nat->Nat)(Fp:Nat->ϑ)(Fn:ϑ)(st:Nat->vj)(pl:List bC)(nv:Θ):Prop where
 d:cY w Fn gb (sT pb n n) lim pl nv
 f:af w pb 102 ((List.range n).map λi=>Value.pointer (some ⟨bl i,0,none⟩)).toArray
 e:∀i,i<n->PX w (Fp i) (bl i) (cZ i n win) (st i).b (st i).c (st i).a []
 ok:∀i,i<n->Ok (cZ i n win) (st i).b (st i).c (st i).a/\∀m∈(st i).c,Codec.aK m=true
 dis:∀i j x,i<n->j<n->Fp i x->Fp j x->i=j
 c:∀i x,i<n->Fp i x->¬Fn x
 b:∀i,i<n->¬Fp i gb/\¬Fp i pb
 p:¬Fn gb/\¬Fn pb
 k:gb≠pb
 q:∀i x,i<n->Fp i x->x<w.heap.size
 g:∀x,Fn x->x<w.heap.size
 h:∀i,i<n->Cl w (Fp i)
 l:7<=gb/\7<=pb
 o:∀x,Fn x->7<=x
def L3(gb pb n:Nat)(Fp:Nat->ϑ)(Fn:ϑ):ϑ:=λx=>x=gb\/x=pb\/Fn x\/∃i,i<n/\Fp i x
def GX(w:Δ)(FG:ϑ)(gb n win lim:Nat)(st:Nat->vj)(pl:List bC):Prop:=
 ∃pb bl Fp Fn nv,GA w gb pb n win lim bl Fp Fn st pl nv/\∀x,L3 gb pb n Fp Fn x->FG x
variable {w w':Δ}{gb pb n win lim:Nat}{bl:Nat->Nat}{Fp:Nat->ϑ}{Fn:ϑ}{st:Nat->vj}{pl:List bC}{nv:Θ}
def vu(i n a:Nat):xH (cZ i n a):=λb=>by simp[cZ]
end
variable {w w':Δ}{gb pb win lim:Nat}{bl:Nat->Nat}{Fp:Nat->ϑ}{Fn:ϑ}{st:Nat->vj}{pl:List bC}{nv:Θ}{FG:ϑ}{pl':List bC}{nv':Θ}
def mu(i:Nat)(f:ϣ)(c:Nat)(h:ε w gb 0 (.slice f n c))(g:i<n):ϖ 64 #[pT gb 0,J i] w λe d=>ϱ e (.bool true)/\d=w:=by have b:0<=i:=ω;have a:i<n:=ω;go_enter func64,ntmps64;go_wp21;go_ret;exact⟨rfl,rfl⟩
variable {w1 w2:Δ}{pl1:List bC}



variable{evs:List Ev}
def vI(l:List Ev):(az l).length=l.length*6:=by
 induction l with
 |nil=>rfl
 |cons e l a=>
  rw[az,List.flatMap_cons,yC,<-az,a,yx];show 6+_=_;lia
def qH(g c:Nat)(a:List Ev)(w:Δ)(m:∀j u,(az a)[j]?=some u->ε w g j u)(z:a.length<=300000000000):ϖ 107 #[sT g a.length c] w λe h=>∃v,ϱ e v/\h.ownsRow w 64 6 v a.length (az a)/\Ϟ w h:=by
 obtain⟨p,s,l,o,i⟩:=info_parts mw;have q:Hid ((w.alloc (.cells #[] 64)).ownsRow w 64 6 (sT w 0 0) 0 []):=⟨rfl,.inr ⟨_,_,#[],rfl,Ϫ,heap_alloc_new w _,Ϫ,oI _,rfl,rfl⟩⟩;have r:=ah λj u f=>(((yi w.heap.size w).alloc Ϫ (.cells #[] 64)).cell (p:=(aT g j)) (yI w _ (m j u f))).trans (m j u f);have t:=ah (vI a);have k:=λh:Δ=>Lib.run_eql_slice_nil h 35 64 (some ⟨g,0,none⟩) a.length c 0 0 underlying35;simp only[Option.isNone_some]at k;clear m;go_enter func107,ntmps107;go_wp2_with (at_builtin;refine wpList_append_own_at _ rfl _ _ 35 rfl _ 64 p _ 6 56 underlying35 s l o i rfl θ _ _ _ rfl q _ _ c (az a) rfl ?c0 ?c1 ?c2 ?c3 ?c4 ?c5 ?_)
 case c0=>rw[t]
 case c1=>intro j u f;rw[lu];exact r j u f
 case c2=>
  intro u b;rw[az,Km]at b;obtain⟨e,-,b⟩:=b;simp only[Ev.f,yF,List.mem_nil_iff,or_false]at b;rcases b with rfl|rfl|rfl|rfl|rfl|rfl<;>rfl
 case c3=>unfold maxLen;lia
 case c4=>lia
 case c5=>simp
 intro v B y d _ _;go_wp2;go_ret;refine⟨v,rfl,?_,?_⟩;simpa using y;exact(Ϡ.alloc Ϫ _).trans {d with block:=λx A=>d.block x (by simp;lia) (λe=>by injection e with e;simp at e;lia)}
def qG(w:Δ):ϖ 107 #[sN] w λe a=>ϱ e (sN)/\a=w:=by have b:=λa:Δ=>Lib.run_eql_slice_nil a 35 64 none 0 0 0 0 underlying35;simp only[Option.isNone_none]at b;go_enter func107,ntmps107;go_wp21;go_ret;exact⟨rfl,rfl⟩
def vC{v:Θ}(r:eB w F 64 6 v evs.length (az evs))(i:evs.length<=300000000000):ϖ 107 #[v] w λe d=>∃f,ϱ e f/\d.ownsRow w 64 6 f evs.length (az evs)/\Ϟ w d:=by rcases r.d.2 with ⟨k,a⟩|⟨g,c,l,a,-⟩;rw[k];apply (qG w).mono;rintro e d⟨rfl,rfl⟩;refine⟨_,rfl,?_,yi _ _⟩;have:=List.length_eq_zero_iff.1 a;rw[this];exact y9 _ _ _ _;rw[a];exact qH g c evs w (λj u h=>by have:=r.d.cells (by rw[a];rfl:v.ownBlock=some g) j u h;rwa [lu]at this) i
def BW{b:Nat}{h:Hd}{x:List (Υ)}{l:aL}{c:List bC}{t m:Nat}{f:Ϙ}{s:Array MapEntry}{d:Nat}{o q:Θ}(p:PA w F b h x l evs c t m f s d o q)(r:evs.length<=300000000000):ϖ 66 #[pT b 0] w λe j=>∃k,ϱ e k/\j.ownsRow w 64 6 k evs.length (az evs)/\Ϟ w j:=by have i:=ah (vC p.c r);have a:=p.a.a 17 _ rfl;simp only[Hd.c,yf,yd,ye]at a;clear p;go_enter func66,ntmps66;go_wp21;apply i.mono;rintro e y⟨v,rfl,g⟩;have u:Hid _:=g;clear g i;go_wp21;go_ret;exact⟨v,rfl,u⟩
variable {b:Nat}{h:Hd}{kn:List (Υ)}{l:aL}{kb mb:Nat}{rbs:Ϙ}{es:Array MapEntry}{clk:Nat}{ev sv:Θ}

def bB(n:Nat):vj:=⟨List.replicate n (List.replicate n 0),[],[]⟩
theorem rZ{n i:Nat}(a:i<n):(bB n).b.getD i []=List.replicate n 0:=by simp_all[bB]
def vB{n:Nat}{cs:ϡ}{rbs:Ϙ}{f:Nat->Θ}(a:cs.size=n)(d:rbs.length=n)(h:∀(q r:Nat),rbs[q]?=some r->cs[q]?=some (f r)):(rbs.map f).toArray=cs:=by apply Array.ext;simp[a,d];intro q e c;have:=h q _ (yh ω);grind
def zu(p n B:Nat)(w:Δ)(hn:n<=6):ϖ 69 #[J p,J n,J B] w λe P=>∃b,ϱ e (pT b 0)/\PX P (λx=>w.heap.size<=x/\x<P) b (cZ p n B) (bB n).b (bB n).c (bB n).a []/\Ϟ w P:=by
 have b1:=EO n hn;have b5:=λu:Δ=>run_makeMap_plain (P:=prog) u 156;obtain⟨i0,hi,b6,b7,b4⟩:=info_parts vR;go_enter func69,ntmps69;go_upto_region 1 with fail;go_cut [7] (λs Z=>∃b v D,s=pT b 0/\w.heap.size<=b/\w.heap.size<=v/\w.heap.size<=D/\af Z b 159 #[J p,J n,J B,.bool false,.bool false,.bool false,J 0,J (gD n),J 0,J 0,J 0,J 0,sN,.pointer none,
  sT v n n,.map (some D),sN,sN,sN]/\Z.heap[D]?=some _/\af Z v 69 _/\Below _ w Z)
 case first=>
  go_region_held3 (λ_=>True) (trivial) (first|(go_at_call 108;apply (ml n _ hn).mono;rintro e P⟨rfl,rfl⟩))
  all_goals (go_wp2_with fail;go_meet)
  all_goals first
   | (obtain ⟨t1,t2,t3,t4⟩:=Fa w _ _ _
      exact⟨_,_,_,rfl,ω,ω,ω,t3,t1,t2,t4.drew⟩)
   | (obtain ⟨t1,t2,t3,t4⟩:=Fa w _ _ _
      exact⟨_,_,_,rfl,ω,ω,ω,t3,t2,t1,t4.drew⟩)
 case rest=>
  obtain⟨b,v,D,rfl,a5,V,a2,A,M,O,d⟩:=hcut;have F:=A.a 14 _ rfl;simp only[yf,yd,ye]at F;go_wp2;go_loopw [24] (λi wr=>∃k:Nat,k<=n/\i=J k/\af wr b 159 #[J p,J n,J B,.bool false,.bool false,.bool false,J 0,J (gD n),J 0,J 0,J 0,J 0,sN,.pointer none,sT v n n,.map (some D),sN,sN,sN]/\wr.heap[D]?=some (.map #[] 0)/\Ϟ w wr/\
   ∃N:ϡ,af wr v 69 N/\N.size=n/\∃f:Ϙ,f.length=k/\f.Nodup/\(∀r∈f,w.heap.size<=r/\af wr r 3 (ints (List.replicate n 0)).toArray)/\∀(q r:Nat),f[q]?=some r->N[q]?=some (Value.slice (some ⟨r,0,none⟩) n n)) λi _=>n-(intOf i).toNat
  case atStart=>exact⟨0,ω,rfl,A,M,d,_,O,ς,[],rfl,List.nodup_nil,λr z=>absurd z yU,λq r C=>absurd C ς⟩
  case round=>
   clear A M O d F;obtain⟨k,hk,rfl,A,M,d,N,O,X,f,L,H,a,c⟩:=hrel;have F:=A.a 14 _ rfl;simp only[yf,yd,ye]at F;by_cases b2:k<n
   .have c0:(0:Int)<=(k:Int):=Int.natCast_nonneg _;have a9:(k:Int)<(n:Int):=ω;have b3:=Ap n hn;obtain⟨u,hu⟩:∃u,N[k]?=some u:=⟨_,yl (show k<N.size by lia)⟩;have Y:=A.g (.cells (ints (List.replicate n 0)).toArray 3);have E:=O.g (.cells (ints (List.replicate n 0)).toArray 3);have q1:=E.a k u hu;have q2:=E.b k;have a8:Hid (af wr b 159 _):=A;have t:Hid (af _ b 159 _):=Y;have HK2d:Hid (af _ v 69 _):=E;have G:Hid (wr.heap[D]?=some (.map #[] 0)):=M;have I:Hid (f.Nodup/\(∀r∈f,w.heap.size<=r/\af wr r 3 (ints (List.replicate n 0)).toArray)/\∀(q r:Nat),f[q]?=some r->N[q]?=some (Value.slice (some ⟨r,0,none⟩) n n)):=⟨H,a,c⟩;clear A O Y E M a hu H c;go_upto_region 5 with fail;refine gl.b (λP=>ε P b 14 (sT v n n)) 8 κ (a8.i.a 14 _ rfl) λo=>?_;(iterate 6 refine χ ?_);refine te 6 λK S=>?_;go_simp;refine S.out _ _ (λ_=>t.i.a 14 _ rfl) λ_=>?_;clear S K o;have o:=t.i.a 14 _ rfl;simp only[yf,yd,ye]at o;try simp only[pU]
    apply tw 7;refine te 8 λK S=>?_;go_simp;refine S.out _ _ (λh=>absurd rfl h) λ_=>?_;clear S K;try simp only[pU]
    refine gl.done κ ?_ _;go_wp2_with fail;go_roundw
    case rel=>
     have U:D≠v:=λe=>
      have hh:=HK2d;have a0:(wr.alloc (.cells (ints (List.replicate n 0)).toArray 3)).heap[D]?=some (.map #[] 0):=(yQ _ _ _ (yk.1 G).1).trans G
      FX hh a0 e.symm
     have b8:=d.size;refine⟨k+1,ω,by go_num,(t.h (fU t HK2d θ) _ _).i,?_,((d.alloc ω _).trans (((ej.d v _).a k _).c V)).drew,N.setIfInBounds k _,(HK2d.e k _).i,ϰ X,f++[wr.heap.size],by simp[L],?_,λr z=>?_,λq r C=>?_⟩;exact(yT _ _ _ _ U).trans ((yQ _ _ _ (yk.1 G).1).trans G)
     .rw[GZ];refine⟨I.1,ς,λx Q y hy e=>?_⟩;rw[yu]at hy;have:=(I.2.1 x Q).2.f;lia
     rcases yz.1 z with z|z;obtain⟨h2,h3⟩:=I.2.1 r z;have W:=h3.g (.cells (ints (List.replicate n 0)).toArray 3);exact⟨h2,(W.h (fU W HK2d θ) _ _).i⟩;rw[yu]at z;subst z;have W:=af.d wr wr.heap.size rfl 3 (ints (List.replicate n 0)).toArray;exact⟨ω,(W.h (fU W HK2d θ) _ _).i⟩;rcases Fs q k with a3|a3;rw[y7 ω]at C;rw[yP ω];exact I.2.2 q r C;rw[Fl ω]at C;have a1:q=k:=by have:=(ym.1 C).1;simp at this;lia
     subst a1;rw[L,Nat.sub_self]at C;obtain rfl:wr.heap.size=r:=ϰ C;rw[yR ω]
    case measure=>simp[intOf];lia
   have T:k=n:=ω;have b0:¬(k:Int)<(n:Int):=ω;have HF:Hid (∃b',b'=b/\PX wr (λx=>w.heap.size<=x/\x<wr) b' (cZ p n B) (bB n).b (bB n).c (bB n).a []):=by refine⟨b,rfl,[],rfl,v,D,f,#[],0,sN,sN,A,⟨L.trans T,I2 ..,H,?_,λq r l C hl=>?_⟩,M,⟨rfl,rfl,List.nodup_nil,λe he=>absurd he yU⟩,List.Pairwise.nil,λx Q=>absurd Q yU,⟨y9 _ _ _ _,λg hg=>by cases hg⟩,⟨y9 _ _ _ _,λg hg=>by cases hg⟩,⟨a5,A.f⟩,⟨V,O.f⟩,⟨a2,(yk.1 M).1⟩,λr z=>⟨(a r z).1,(a r z).2.f⟩⟩;show af wr v 69 (f.map λr=>Value.slice (some ⟨r,0,none⟩) n n).toArray;rwa [vB X (L.trans T) c];obtain⟨b9,a7⟩:=ym.1 hl;rw[<-(by simpa[bB]using a7:List.replicate n (0:Int)=l)];exact⟨I2 ..,(a r (yy C)).2⟩
   have a4:Hid (Ϟ w wr):=d;clear A M O a d H c;go_wp2;go_ret;obtain⟨b',rfl,Q⟩:=HF;exact⟨b',rfl,Q,a4⟩
variable {k L:Nat}{cs:ϡ}{lo hi:Nat->Nat}
section
def EE:(prog.info? 102).map (λi=>(i.zero,i.size,i.bytes))=some (some (.pointer none),1,8):=κ
def Gt(n:Nat)(g:n<=6)(u:Δ):(Instr.makeSlice 93 (J n) (J n)).run prog u=.ok (sT u n n) (u.alloc (.cells (Array.replicate n (Value.pointer none)) 102)):=by
 obtain⟨c,e,a,b,f⟩:=info_parts EE;have h:=run_make u 93 102 c _ underlying93 e a .i64 .i64 _ n ω (Ld _) ν ω;rw[CM]at h;have d:madeCells (Value.pointer none).cells (n*c.size)=(Array.replicate n (Value.pointer none)):=by rw[b,Nat.mul_one];apply Array.ext';rw[show (Value.pointer none).cells=#[Value.pointer none] from rfl,toList_madeCells_one];simp
 rwa [d]at h
def Ho(w:Δ)(a b d c:Obj):((((w.alloc a).alloc b).alloc d).alloc c).heap[w.heap.size]?=some a/\((((w.alloc a).alloc b).alloc d).alloc c).heap[w.heap.size+1]?=some b/\((((w.alloc a).alloc b).alloc d).alloc c).heap[w.heap.size+1+1]?=some d/\((((w.alloc a).alloc b).alloc d).alloc c).heap[w.heap.size+1+1+1]?=some c/\Ϟ w ((((w.alloc a).alloc b).alloc d).alloc c):=by obtain⟨h,g,f,e⟩:=Fa _ b d c;have i:(w.alloc a)=w.heap.size+1:=ς;rw[i]at h g f;exact⟨(e.block _ ω).trans (heap_alloc_new w a),h,g,f,(Ϡ.alloc Ϫ a).trans (e.mono ω)⟩
variable {w w':Δ}{gb pb n win lim:Nat}{bl:Nat->Nat}{Fp:Nat->ϑ}{Fn:ϑ}{st:Nat->vj}{pl:List bC}{nv:Θ}{FG:ϑ}
theorem EU{i n:Nat}(a:Nat)(c:i<n)(e:n<=6):Ok (cZ i n a) (bB n).b (bB n).c (bB n).a/\∀m∈(bB n).c,Codec.aK m=true:=by refine⟨⟨λm b=>absurd b yU,λq d=>?_,?_⟩,λm b=>absurd b yU⟩;grind[cZ,rZ];grind[bB,wK,List.map_replicate,List.sum_replicate_nat]
def PC.a{F:ϑ}{b:Nat}{h:Hd}{l:List (Υ)}{i:List ϥ}{c:List Ev}{a:List bC}(p:PC w F b h l i c a)(j:∀x,F x->w'.heap[x]?=w.heap[x]?)(e:∀x,x<7->w'.heap[x]?=w.heap[x]?)(f:w.heap.size<=w'):PC w' F b h l i c a:=
 let ⟨o,g,q,m⟩:=p
 ⟨o,g,q.c λx d _=>j x (g x d),m.c (λx d=>j x (g x d)) e f⟩
def EY(p n d:Nat)(w:Δ)(N:n<=6)(D:Tabs w)(F:7<=w.heap.size):ϖ 69 #[J p,J n,J d] w λe C=>∃b,ϱ e (pT b 0)/\PC C (λx=>w<=x/\x<C) b (cZ p n d) (bB n).b (bB n).c (bB n).a []/\Ϟ w C:=by
 have c:Cl w (λ_=>False):=⟨D,F,λx h=>h.elim⟩;obtain⟨z,R,t,T,E,O,q,-,-,-⟩:=c.e;have Q:=Nat.le_of_not_lt λy=>q 7 Ϫ y;have M:=frame_calls progOk leafLaw O E D rfl rfl (λv I=>by
  intro U _;simp at I;rcases I with rfl|rfl|rfl<;>simp) (zu p n d z N) (λe K A=>by
  grind)
 have l:(#[Value.int .i64 p,J n,J d].map R.v)=#[J p,J n,J d]:=ς;rw[l]at M;apply M.mono;rintro e K⟨v,H,j,rfl,⟨b,G,S,-⟩,a,-⟩;injection G with G;subst G;have B:Loose fam j H K:=⟨a.d.c,a.d.g,a.d.d,a.d.e,a.d.os,λf=>a.e.1▸t.g f,a.e.2.2.trans t.b⟩;have m:=λx h=>a.j x h λr A u _=>q r A u;have s:∀r,(z.heap.size<=r/\r<H)->7<=r:=λr h=>by have:7<=z.heap.size:=t.c;lia
 refine⟨j.f b,by simp,⟨λx=>∃r,7<=r/\r<H.heap.size/\j.f r=x,λx h=>?_,?_,Cl.a B a.m (bR D λx h=>m x ω)⟩,⟨a.d.os.trans (a.os.trans t.os.symm),a.o,a.q,a.l,m⟩⟩;obtain⟨r,A,u,rfl⟩:=h;exact⟨a.k r ω u,a.d.k u⟩;exact(S.a (λr o h P=>a.d.c r o (s r h) P) (vu p n d)).d λx h=>⟨j.i x,s _ h,h.2,j.c x⟩
structure FM(w:Δ)(L k n win:Nat)(cs:ϡ)(bl lo hi:Nat->Nat):Prop where
 c:∀q,q<k->cs[q]?=some (.pointer (some ⟨bl q,0,none⟩))
 b:∀q,q<k->L<=lo q
 a:∀q,q<k->hi q<=w.heap.size
 e:∀q r,q<r->r<k->hi q<=lo r
 d:∀q,q<k->PC w (λx=>lo q<=x/\x<hi q) (bl q) (cZ q n win) (bB n).b (bB n).c (bB n).a []
def EZ(f:Nat->Nat)(k v:Nat):Nat->Nat:=λq=>if q=k then v else f q
theorem eL(f:Nat->Nat)(k v:Nat):EZ f k v k=v:=if_pos rfl
def fP(f:Nat->Nat){q:Nat}(v:Nat)(h:q<k):EZ f k v q=f q:=if_neg ω
def FM.f{x d:Nat}{c:Δ}(m:FM w L k n win cs bl lo hi)(s:k<cs.size)(o:L<=w)(p:d<L)(j:7<=d)(i:Ϟ w c)(t:PC c (λy=>w<=y/\y<c) x (cZ k n win) (bB n).b (bB n).c (bB n).a [])(v:Θ)(l:v=pT x 0):FM (c.setCell ⟨d,k,none⟩ v) L (k+1) n win (cs.setIfInBounds k v) (EZ bl k x) (EZ lo k w) (EZ hi k c):=by
 subst l;have a:=(ej.d d c).a k (Value.pointer (some ⟨x,0,none⟩));refine⟨λq f=>?_,λq f=>?_,λq f=>?_,λq r b u=>?_,λq f=>?_⟩;rcases Fs q k with h|h;rw[fP _ _ h,yP ω];exact m.c q h;obtain rfl:q=k:=ω;grind[eL];rcases Fs q k with h|h;rw[fP _ _ h];exact m.b q h;obtain rfl:q=k:=ω;rwa [eL];rw[a.size];rcases Fs q k with h|h;rw[fP _ _ h];exact yr (m.a q h) i.size;obtain rfl:q=k:=ω;grind[eL];rcases Fs r k with h|h;rw[fP _ _ h,fP _ _ (show q<k by lia)];exact m.e q r b h;obtain rfl:r=k:=ω;rw[eL,fP _ _ b];exact m.a q b;rcases Fs q k with h|h;rw[fP _ _ h,fP _ _ h,fP _ _ h];have z:=m.b q h;exact((m.d q h).c i).a (λy e=>a.block y ω) (λy e=>a.block y ω) ς;obtain rfl:q=k:=ω;rw[eL,eL,eL];exact t.a (λy e=>a.block y ω) (λy e=>a.block y ω) ς
def FM.g(m:FM w L n n win cs bl lo hi)(z:n<=6)(F:gb<L)(B:pb<L)(s:7<=gb/\7<=pb)(o:gb≠pb)(y:af w gb 97 #[sT pb n n,J lim,sN])(A:af w pb 102 cs)(p:cs.size=n):∃e:Nat->ϑ,(∀q x,q<n->e q x->lo q<=x/\x<hi q)/\GA w gb pb n win lim bl e (λ_=>False) (λ_=>bB n) [] (sN):=by
 have t:∀q,∃f:ϑ,q<n->(∀x,f x->lo q<=x/\x<hi q)/\PX w f (bl q) (cZ q n win) (bB n).b (bB n).c (bB n).a []/\Cl w f:=λq=>by
  by_cases l:q<n
  obtain⟨f,d⟩:=m.d q l;grind;simp[*]
 obtain⟨e,b⟩:=Classical.axiomOfChoice t;refine⟨e,λq x l c=>(b q l).1 x c,?_⟩;refine⟨⟨y,y9 _ _ _ _,λg E=>by cases E⟩,?_,λi hi=>(b i hi).2.1,λi hi=>EU win hi z,λi j x hi v c C=>?_,λi x hi c h=>h,λi hi=>?_,⟨id,id⟩,o,λi x hi c=>?_,λx c=>c.elim,λi hi=>(b i hi).2.2,s,λx c=>c.elim⟩;rw[vB p ς λq r D=>?_];exact A;obtain⟨d,u⟩:=ym.1 D;simp at d u;subst u;exact m.c q d
 .have d:=(b i hi).1 x c;have u:=(b j v).1 x C;rcases Ks i j with h|h|h
  .have:=m.e i j h v;lia
  exact h;have:=m.e j i h hi;lia
 have:=m.b i hi;grind;have d:=(b i hi).1 x c;have:=m.a i hi;lia
def Ge(n b c:Nat)(w:Δ)(h:(1<=n/\n<=6)/\(1<=b/\b<=8)/\1<=c/\c<=4000)(hT:Tabs w)(D:7<=w.heap.size):ϖ 38 #[.agg #[J n,J b,J c]] w λe f=>∃g,e=.returned (.tuple #[pT g 0,J 0])/\GX f (λx=>w.heap.size<=x) g n b c (λ_=>bB n) []/\Ϟ w f:=by
 obtain⟨⟨h1,h2⟩,⟨h3,h4⟩,h5,h6⟩:=h;have hn:n<=6:=ω;have k1:¬n<1:=ω;have k2:¬6<n:=ω;have k3:¬b<1:=ω;have k4:¬8<b:=ω;have k5:¬c<1:=ω;have k6:¬4000<c:=ω;have b3:=Gt n hn;have M:Hid (∀f,Ϟ w f->Tabs f/\7<=f.heap.size):=λf hb=>⟨bR hT λx U=>hb.block x ω,yr D hb.size⟩;have H:=ah D;go_enter func38,ntmps38;go_upto_region 3 with fail;go_cut [4] λs T=>∃g m,s=pT g 0/\w.heap.size<=g/\w.heap.size<=m/\af T g 97 #[sT m n n,J c,sN]/\af T m 102 _/\af T w.heap.size 23 #[J n,J b,J c]/\Ϟ w T
 case first=>
  go_region_held3 (λf=>f.cell? (aT w 0)=some (J n)/\f.cell? (aT w 2)=some (J c)) (simp[go_sem,World.cell?_alloc_past]) (first|(go_at_call 68;apply (zt c _).m;rintro f rfl))
  all_goals (go_wp2_with fail;go_meet)
  all_goals first
   | (obtain ⟨t0,t1,t2,t3,Y⟩:=Ho w (.cells #[J n,J b,J c] 23) (.cells #[J c,sN] 95) (.cells (Array.replicate n (Value.pointer none)) 102) (.cells #[.slice (some ⟨w.heap.size+1+1,0,none⟩) n n,J c,sN] 97)
      exact⟨w.heap.size+1+1+1,w.heap.size+1+1,rfl,ω,ω,t3,t2,t0,Y.drew⟩)
   | (obtain ⟨t0,t1,t2,t3,Y⟩:=Ho w (.cells #[J n,J b,J c] 23) (.cells (Array.replicate n (Value.pointer none)) 102) (.cells #[J c,sN] 95) (.cells #[.slice (some ⟨w.heap.size+1,0,none⟩) n n,J c,sN] 97)
      exact⟨w.heap.size+1+1+1,w.heap.size+1,rfl,ω,ω,t3,t1,t0,Y.drew⟩)
 case rest=>
  obtain⟨g,m,rfl,a4,C,p,v,z,d⟩:=hcut;have c0:=p.y 0;simp at c0;obtain⟨L,hL⟩:∃L,L=wc.heap.size:=⟨_,rfl⟩;have N:g<L:=hL▸p.f;have P:m<L:=hL▸v.f;have O:w.heap.size<L:=hL▸z.f;have B:g≠m:=fU p v θ;have S:w.heap.size≠m:=fU z v θ;go_wp2_with fail;go_loopw [47] (λi wr=>∃k:Nat,k<=n/\i=J k/\L<=wr/\af wr g 97 #[sT m n n,J c,sN]/\af wr w.heap.size 23 #[J n,J b,J c]/\Ϟ w wr/\
   ∃F:ϡ,af wr m 102 F/\F.size=n/\∃bl lo hi,FM wr L k n b F bl lo hi) λi _=>n-(intOf i).toNat
  case atStart=>exact⟨0,ω,rfl,ω,p,z,d,_,v,ς,λ_=>0,λ_=>0,λ_=>0,⟨λq E=>ω,λq E=>ω,λq E=>ω,λq r _ E=>ω,λq E=>absurd E (Nat.not_lt_zero _)⟩⟩
  case round=>
   clear p v z d c0;obtain⟨k,hk,rfl,G,p,z,d,F,v,a7,bl,lo,hi,a⟩:=hrel;by_cases b1:k<n
   .have b2:(0:Int)<=(k:Int):=(by lia);have b0:(k:Int)<(n:Int):=ω;have a1:=ah p;have Z:=ah z;have a2:=ah v;have l:=ah d;have a8:=ah a;have HS:Hid (∀f,Below L wr f->f.cell? (aT g 0)=some (sT m n n)/\f.cell? (aT w 0)=some (J n)/\f.cell? (aT w 1)=some (J b)):=λf X=>⟨(p.c X N).a 0 _ rfl,(z.c X O).a 0 _ rfl,(z.c X O).a 1 _ rfl⟩;clear p z v d a;go_upto_region 7 with fail;refine gl.b (λf=>f.cell? (aT g 0)=some (sT m n n)/\f.cell? (aT w 0)=some (J n)/\f.cell? (aT w 1)=some (J b)) 12 κ (HS _ Ϡ.drew) λt=>?_;(iterate 10 refine χ ?_);refine te 10 λK I=>?_;go_simp;apply (EY k n b _ hn (M _ l.drew).1 (M _ l.drew).2).mono;rintro e V⟨x,rfl,U,a5⟩;have j:Ϟ wr V:=Ϡ.drew.trans a5;go_wp2_with fail;refine I.out _ _ (λ_=>HS _ (j.mono G)) λ_=>?_;clear I K t;have t:=HS _ (j.mono G);obtain⟨u,hu⟩:∃u,F[k]?=some u:=⟨_,yl (show k<F.size by lia)⟩;have A:=a2.c j ω;have q1:=A.a k u hu;have q2:=A.b k;have Q:=ah A;clear A hu;apply tw 11;refine te 12 λK I=>?_;go_simp;refine I.out _ _ (λh=>absurd rfl h) λ_=>?_;clear I K;refine gl.done κ ?_ _;go_wp2_with fail;go_roundw
    case rel=>
     have b5:=j.size;have R:=(ej.d m V).a k (Value.pointer (some ⟨x,0,none⟩));refine⟨k+1,ω,by go_num,?_,?_,?_,?_,F.setIfInBounds k _,Q.e k _,ν,_,_,_,a8.f ω G P (yr H C) j (U.d λy hy=>by simp_all) _ rfl⟩
     .rw[R.size];lia
     exact(a1.c j ω).h B _ _;exact(Z.c j ω).h S _ _;exact(l.trans (j.mono l.size)).trans (R.c C)
    case measure=>simp[intOf];lia
   have a0:k=n:=ω;have a9:¬(k:Int)<(n:Int):=ω;subst a0;have HF:Hid (∃W,W=g/\GX wr (λx=>w.heap.size<=x) W k b c (λ_=>bB k) []):=by
    obtain⟨Fp,b4,a6⟩:=a.g hn N P ⟨yr H a4,yr H C⟩ B p v a7;refine⟨g,rfl,m,bl,Fp,_,_,a6,λy hy=>?_⟩;rcases hy with h|h|h|⟨q,E,h⟩
    .lia
    .lia
    grind
    have h1:=a.b q E;grind
   have l:=ah d;clear p z v a d;go_wp2;go_ret2;obtain⟨W,rfl,U⟩:=HF;exact⟨W,rfl,U,l⟩
end
end
section
open Go.RowKit
open Md (PS Vote Bal Lft)
open Go.ChangeMaps (setBlock)
variable {x:Nat}{R':ϑ}{v av:Θ}{l:List ϥ}{L:Option Bal}{avs:List (Θ×Θ)}
section
def eb:Option Nat->Θ
 |none=>.pointer none
 |some x=>pT x 0
def bI(w:Δ)(R:ϑ)(v:Θ)(l:List ϥ):Prop:=
 ((∃ao c,v=.slice ao 0 c)/\l=[])\/
 ∃g cap,v=sT g l.length cap/\g<w.heap.size/\R g/\∀(j:Nat)m,l[j]? =some m->
   ∃tv,w.cell? ⟨g,j*4,none⟩=some (J m.a)/\w.cell? ⟨g,j*4+1,none⟩=some (J m.seq)/\
     w.cell? ⟨g,j*4+2,none⟩=some tv/\w.cell? ⟨g,j*4+3,none⟩=some (.string m.b)/\eB w R 3 1 tv m.c.length (ints m.c)
abbrev aE(w:Δ)(R:ϑ)(v:Θ)(l:Υ):Prop:=eB w R 3 1 v l.length (ints l)
def jo(R R':ϑ)(w w':Δ):Prop:=w.heap.size<=w'/\∀g,R g->g<w.heap.size->R' g/\w'.heap[g]?=w.heap[g]?
def eB.f{w c:Δ}{R:ϑ}{e:ϟ}{f:Nat}{n:Nat}{b:Ϣ}(h:eB w R e f v n b)(d:jo R R' w c):eB c R' e f v n b:=
 ⟨aj h.d λg a=>(d.2 g (h.c g a) (h.k a)).2,λg a=>(d.2 g (h.c g a) (h.k a)).1⟩
def bI.c{w f:Δ}{R:ϑ}(h:bI w R v l)(c:jo R R' w f):bI f R' v l:=by
 rcases h with h|⟨g,b,p,e,s,o⟩;exact .inl h
 let ⟨d,a⟩:=c.2 g s e
 refine .inr ⟨g,b,p,yg e c.1,d,λj m n=>?_⟩
 let ⟨u,k,t,r,i,q⟩:=o j m n
 exact⟨u,(World.cell?_of_block a).trans k,(World.cell?_of_block a).trans t,(World.cell?_of_block a).trans r,(World.cell?_of_block a).trans i,q.f c⟩
def bI.at{w:Δ}{R:ϑ}(h:bI w R v l):ba w w v l:=by
 rcases h with h|⟨g,a,i,f,q,e⟩;exact .inl h;refine .inr ⟨g,0,a,i,f,λj m d=>?_⟩
 let ⟨p,c,o,n,b,k⟩:=e j m d
 simp only[yS];exact⟨p,c,o,n,b,aX k.d⟩
def bF:List (Υ×Vote)->List (Θ×Θ)->Ϣ
 |a::l,v::vs=>[v.1,J a.2.b,J a.2.m,v.2]++bF l vs
 |_,_=>[]
def bV:List Lft->List (Θ×Θ)->Ϣ
 |a::l,v::vs=>[J a.m,v.1,v.2]++bV l vs
 |_,_=>[]
def bu(B:Bal)(av:Θ):ϡ:=#[J B.g,.bool B.e,J B.out,J B.a,J B.c,J B.d,av]
structure fD(w:Δ)(R:ϑ)(B:Bal)(x:Nat)(av:Θ)(avs:List (Θ×Θ)):Prop where
 c:af w x 234 (bu B av)
 f:avs.length=B.i.length
 d:w.ownsRow 0 237 4 av B.i.length (bF B.i avs)
 e:∀(i:Nat)a v,B.i[i]?=some a->avs[i]?=some v->aE w R v.1 a.1/\aE w R v.2 a.2.a
def iV(w:Δ)(R:ϑ)(lb:Option Nat)(L:Option Bal)(av:Θ)(avs:List (Θ×Θ)):Prop:=match lb,L with
 |none,none=>True
 |some x,some B=>fD w R B x av avs
 |_,_=>False
def iV.cases{w:Δ}{R:ϑ}{a:Option Nat}(h:iV w R a L av avs):(a=none/\L=none)\/∃x B,a=some x/\L=some B/\fD w R B x av avs:=by unfold iV at h;split at h;exact .inl ⟨rfl,rfl⟩;exact .inr ⟨_,_,rfl,rfl,h⟩;exact h.elim
structure tg(w:Δ)(R:ϑ)(L:List Lft)(lf:Θ)(lvs:List (Θ×Θ)):Prop where
 f:lvs.length=L.length
 d:w.ownsRow 0 249 3 lf L.length (bV L lvs)
 e:∀(i:Nat)a v,L[i]?=some a->lvs[i]?=some v->aE w R v.1 a.a/\bI w R v.2 a.b
structure Pl where
 l:aL
 kb:Nat
 m:Nat
 k:Ϙ
 n:Array MapEntry
 j:Nat
 g:Θ
 d:Θ
 h:Θ
 c:Option Nat
 e:Θ
 a:List (Θ×Θ)
 i:Θ
 f:List (Θ×Θ)
def Pl.X(o:Pl)(x:Nat):Prop:=o.c=some x\/(o.c.isSome/\o.e.ownBlock=some x)\/o.i.ownBlock=some x
def Pl.U(o:Pl)(b x:Nat):Prop:=x=b\/x=o.m\/x∈o.k\/o.g.ownBlock=some x\/o.d.ownBlock=some x
def Pl.M(o:Pl)(b x:Nat):Prop:=o.U b x\/o.X x
def zc(S:PS)(vc lf:Θ)(lb:Option Nat):Hd:=⟨S.c,S.n,S.r,S.f,S.out,S.h,S.b,S.m,S.k,S.g,S.a.b,S.a.m,vc,eb lb,lf⟩
def Pl.q(o:Pl)(S:PS):Hd:=zc S o.h o.i o.c
def Pl.R(o:Pl)(F:ϑ)(b x:Nat):Prop:=F x/\¬o.M b x
structure PP(w:Δ)(F:ϑ)(b:Nat)(S:PS)(o:Pl):Prop where
 e:PA w F b (o.q S) S.q o.l S.j (S.e.map lF) o.kb o.m o.k o.n o.j o.g o.d
 ms:o.l.map Prod.fst=S.o
 fx:∀x,o.X x->F x
 up:∀x,w.heap.size<=x->F x
 vote:aE w (o.R F b) o.h S.a.a
 lead:iV w (o.R F b) o.c S.d o.e o.a
 left:tg w (o.R F b) S.i o.i o.f
structure To(w:Δ)(F:ϑ)(b:Nat)(o:Pl)(w':Δ)(S':PS)(o':Pl):Prop where
 c:PP w' F b S' o'
 e:cW (o.M b) w w'
 h:∀x,o'.M b x->o.M b x\/w.heap.size<=x
abbrev Do(f:FuncId)(args:ϡ)(v:Θ)(w:Δ)(F:ϑ)(b:Nat)(o:Pl)(S':PS):Prop:=
 ϖ f args w λe w'=>ϱ e v/\∃o',To w F b o w' S' o'
def To.a{w e d:Δ}{F:ϑ}{b:Nat}{o f i:Pl}{j g:PS}(h:To w F b o e j f)(k:To e F b f d g i):To w F b o d g i:=
 ⟨k.c,h.e.c (k.e.e λx _ a=>h.h x a),λx a=>by rcases k.h x a with c|c;exact h.h x c;exact .inr (yr h.e.size c)⟩
def To.d{w c:Δ}{F:ϑ}{b:Nat}{o d:Pl}{f:PS}(h:To w F b o c f d):jo (o.R F b) (d.R F b) w c:=
 ⟨h.e.size,λg a i=>⟨⟨a.1,λj=>(h.h g j).elim a.2 λe=>ω⟩,h.e.block g i a.2⟩⟩
def fD.g{w b:Δ}{R:ϑ}{B:Bal}(h:fD w R B x av avs)(c:jo R R' w b)(f:b.heap[x]?=w.heap[x]?)(j:∀g,av.ownBlock=some g->b.heap[g]?=w.heap[g]?):fD b R' B x av avs:=
 ⟨f.trans h.c,h.f,aj h.d j,λi a v e d=>⟨(h.e i a v e d).1.f c,(h.e i a v e d).2.f c⟩⟩
def tg.c{w d:Δ}{R:ϑ}{L:List Lft}{c:Θ}{b:List (Θ×Θ)}(h:tg w R L c b)(e:jo R R' w d)(k:∀g,c.ownBlock=some g->d.heap[g]?=w.heap[g]?):tg d R' L c b:=
 ⟨h.f,aj h.d k,λi a v j f=>⟨(h.e i a v j f).1.f e,(h.e i a v j f).2.c e⟩⟩
def iV.a{w c:Δ}{R:ϑ}{o:Pl}(h:iV w R o.c L o.e o.a)(e:jo R R' w c)(d:∀x,o.X x->c.heap[x]?=w.heap[x]?):iV c R' o.c L o.e o.a:=by rcases h.cases with ⟨a,b⟩|⟨x,B,a,b,i⟩;rw[a,b];trivial;rw[a,b];exact(i.g e (d x (.inl a)) λg f=>d g (.inr (.inl ⟨by rw[a];rfl,f⟩)))
variable {w w':Δ}{F:ϑ}{b:Nat}{S S':PS}{o o':Pl}
def PP.q(p:PP w F b S o)(i:o.X x):∃a t,w.heap[x]?=some (.cells a t (0,0))/\(t=234\/t=237\/t=249):=by
 have f:∀{e s:Nat}{v:Θ}{n:Nat}{r:Ϣ},w.ownsRow 0 e s v n r->v.ownBlock=some x->∃a,w.heap[x]?=some (.cells a e (0,0)):=λj g=>by rcases j.2 with ⟨m,-⟩|⟨u,k,a,rfl,-,d,-⟩;rw[m]at g;cases g;cases g;exact⟨a,d⟩
 rcases i with c|⟨c,q⟩|c
 .rcases p.lead.cases with ⟨e,-⟩|⟨y,B,e,-,h⟩<;>rw[e]at c<;>cases c;exact⟨_,_,h.c,.inl rfl⟩
 .rcases p.lead.cases with ⟨e,-⟩|⟨y,B,e,-,h⟩;rw[e]at c;cases c
  let ⟨a,d⟩:=f h.d q
  exact⟨a,_,d,.inr (.inl rfl)⟩
 let ⟨a,d⟩:=f p.left.d c
 exact⟨a,_,d,.inr (.inr rfl)⟩
def PP.r(p:PP w F b S o)(f:o.U b x):(∃g e,w.heap[x]?=some (.map g e))\/∃a t,w.heap[x]?=some (.cells a t (0,0))/\(t=159\/(t=3/\x∈o.k)\/t=64\/t=111):=by
 rcases f with rfl|rfl|c|c|c;exact .inr ⟨_,_,p.e.a,.inl rfl⟩;exact .inl ⟨_,_,p.e.map⟩
 .let ⟨a,d⟩:=p.e.e.k c
  exact .inr ⟨a,_,d,.inr (.inl ⟨rfl,c⟩)⟩
 .let ⟨a,d⟩:=p.e.c.m c
  exact .inr ⟨a,_,d,.inr (.inr (.inl rfl))⟩
 let ⟨a,d⟩:=p.e.f.m c
 exact .inr ⟨a,_,d,.inr (.inr (.inr rfl))⟩
def PP.n(p:PP w F b S o)(a:o.X x):x<w:=by
 let ⟨c,t,h,_⟩:=p.q a
 exact(yk.1 h).1
def PP.h(p:PP w F b S o)(a:o.M b x):x<w:=a.elim (λh=>by rcases p.r h with ⟨_,_,h⟩|⟨_,_,h,-⟩<;>exact(yk.1 h).1) p.n
def PP.nx(p:PP w F b S o)(e:o.X x):¬o.U b x:=λg=>by
 let ⟨f,t,h,d⟩:=p.q e
 rcases p.r g with ⟨_,_,a⟩|⟨_,i,a,c⟩<;>rw[h]at a<;>cases a;rcases d with rfl|rfl|rfl<;>simp at c
def PP.mf(p:PP w F b S o)(a:o.M b x):F x:=by rcases a with (rfl|rfl|h|h|h)|h;exact p.e.t;exact p.e.s;exact p.e.fr x h;exact p.e.c.c x h;exact p.e.f.c x h;exact p.fx x h
def PP.a0(p:PP w F b S o){d:ϡ}{t:ϟ}(h:w.heap[x]?=some (.cells d t (0,0)))(e:(t=3/\x∉o.k)\/t=179\/t=69):¬o.M b x:=λi=>by
 rcases i with j|f
 .rcases p.r j with ⟨_,_,c⟩|⟨_,g,c,a⟩<;>rw[h]at c<;>cases c;rcases e with ⟨rfl,k⟩|rfl|rfl
  simp at a;exact k a;simp at a;simp at a
 let ⟨_,g,c,a⟩:=p.q f
 rw[h]at c;cases c;rcases e with ⟨rfl,-⟩|rfl|rfl<;>simp at a
def PP.a3(p:PP w F b S o){x:ϥ×Θ}(a:x∈o.l):aE w (o.R F b) x.2 x.1.c:=
 ⟨(p.e.d x a).1.d,λg c=>⟨(p.e.d x a).1.c g c,by
   let ⟨d,e⟩:=(p.e.d x a).1.m c
   exact p.a0 e (.inl ⟨rfl,(p.e.d x a).2 g c⟩)⟩⟩
def PP.step(p:PP w F b S o){S':PS}{G:ϑ}{j:aL}{es':Array MapEntry}{clk':Nat}{c f:Θ}(d:cW (o.U b) w w')(t:∀x,G x->F x\/w<=x)(A:∀g,c.ownBlock=some g->o.g.ownBlock=some g\/w<=g)(B:∀g,f.ownBlock=some g->o.d.ownBlock=some g\/w<=g)(y:PA w' G b (o.q S') S'.q j S'.j (S'.e.map lF) o.kb o.m o.k es' clk' c f)(k:j.map Prod.fst=S'.o)(u:S'.a.a=S.a.a)(z:S'.d=S.d)(q:S'.i=S.i):To w F b o w' S' {o with l:=j,n:=es',j:=clk',g:=c,d:=f}:=by
 have r:∀x,({o with l:=j,n:=es',j:=clk',g:=c,d:=f}:Pl).M b x->o.M b x\/w<=x:=λx a=>by rcases a with (h|h|h|h|h)|h;exact .inl (.inl (.inl h));exact .inl (.inl (.inr (.inl h)));exact .inl (.inl (.inr (.inr (.inl h))));exact(A x h).elim (λh=>.inl (.inl (.inr (.inr (.inr (.inl h)))))) .inr;exact(B x h).elim (λh=>.inl (.inl (.inr (.inr (.inr (.inr h)))))) .inr;exact .inl (.inr h)
 have i:jo (o.R F b) (({o with l:=j,n:=es',j:=clk',g:=c,d:=f}:Pl).R F b) w w':=⟨d.size,λg n m=>⟨⟨n.1,λa=>(r g a).elim n.2 λe=>ω⟩,d.block g m λe=>n.2 (.inl e)⟩⟩;have s:=λx a=>d.block x (p.n a) (p.nx a);refine⟨⟨y.k λx a=>(t x a).elim id (p.up x),k,p.fx,λx a=>p.up x (yr d.size a),?_,?_,?_⟩,d.e λx _ a=>.inl a,r⟩;rw[u];exact p.vote.f i;rw[z];exact p.lead.a i λx a=>s x a;rw[q];exact p.left.c i λg m=>s g (.inr (.inr m))
end
end
end Go.Proofs.Y
namespace Go.Cr
section
open Go Go.Conc
open Go.Pm (Rely Guar Ev grow)
variable {O O' K K':ϑ}{w:Δ}
def Rely.dZ{A:Ξ}{a:Δ}(d:∀b,O b->O' b)(e:∀b,K b->K' b)(h:Rely O' K' A w a):Rely O K A w a:={h with a:=λb c=>h.a b (c.imp (d b) (e b))}
def Ev.more(d:∀b,O b->O' b)(i:∀b,K b->K' b){e:Event}(h:Ev O K e):Ev O' K' e:=by
 obtain⟨c,k,j⟩:=e;cases c with
 |cell a=>
  rcases h with h|⟨g,f⟩;exact .inl (d _ h);exact .inr ⟨i _ g,f⟩
 |obj b=>exact⟨d _ h.1,h.2⟩
 |mark m=>exact h
 |output=>trivial
 |goroutines=>exact h
def rh(c:∀b,O b->O' b)(w a:Δ):∀b,grow O w a b->grow O' w a b:=λb h=>h.imp (c b) id
def Guar.more{X:Ϥ}{a:Δ}{c:Array Event}(d:∀b,O b->O' b)(k:∀b,K b->K' b)(h:Guar O K X w a c):Guar O' K' X w a c:=
 {h with a:=λb f j=>h.a b f λi=>j (d b i),c:=λe g=>(h.c e g).imp (Ev.more (rh d w a) k) id}
def aC.more{P:ϛ}{Y:ϟ}{y:Θ->Ξ}{W:Nat}{X:List bE}{C:nX}{g:Ϛ}(h:aC P Y y W X C O K g w):∀{r s:ϑ},(∀b,O b->r b)->(∀b,K b->s b)->aC P Y y W X C r s g w:=by
 induction h with
 |idle d k _ p=>
  intro r s f j;refine .idle d (λa c=>?_) λa o m l c n=>p a o m l (Rely.dZ f j c) n (rh f a m) j;obtain⟨o,m,l,E,G⟩:=k a (Rely.dZ f j c);exact⟨o,m,l,E,Guar.more f j G⟩
 |fin d k=>
  intro r s f j;refine .fin d λa c=>?_;obtain⟨v,l,E,G,e3⟩:=k a (Rely.dZ f j c);exact⟨v,l,E,λe n=>Ev.more f j (G e n),e3⟩
 |enter L hW _ p=>
  intro r s f j;exact .enter (f _ L) hW (p (λb q=>⟨f b q.1,q.2⟩) j)
 |kd d k _ p=>
  intro r s f j;exact .kd d (λa c=>k a (Rely.dZ f j c)) λa o m l c n=>p a o m l (Rely.dZ f j c) n f j
 |add d x k _ p=>
  intro r s f j;exact .add d x (λa c=>k a (Rely.dZ f j c)) λa o m l v c F u n=>p a o m l v (Rely.dZ f j c) F u n f j
 |en d k _ p=>
  intro r s f j;exact .en d (λa c=>k a (Rely.dZ f j c)) λa o m l c n=>p a o m l (Rely.dZ f j c) n f j
 |go Q Bs R d x hB hR N k hc _ p=>
  intro r s f j;exact .go Q Bs R d x (λb q=>f b (hB b q)) (λb q=>(hR b q).imp (f b) (j b)) N (λa c=>k a (Rely.dZ f j c)) (λa o t m l c n=>hc a o t m l (Rely.dZ f j c) n) λa o t m l c n=>p a o t m l (Rely.dZ f j c) n (λb q=>⟨f b q.1,q.2⟩) λb q=>q.imp (j b) id
 |wd d k _ p=>
  intro r s f j;exact .wd d (λa c=>k a (Rely.dZ f j c)) λa o m l c n=>p a o m l (Rely.dZ f j c) n f j
 |ld d k _ _ S M=>
  intro r s f j;exact .ld d (λa c=>k a (Rely.dZ f j c)) (λa o m l c u n=>S a o m l (Rely.dZ f j c) u n f j) λa o m l v c h1 h2 u n=>M a o m l v (Rely.dZ f j c) h1 h2 u n f j
 |cas d D z _ _ V T=>
  intro r s f j;exact .cas d (λa c=>D a (Rely.dZ f j c)) (λa c=>z a (Rely.dZ f j c)) (λa o m l c u n=>V a o m l (Rely.dZ f j c) u n f j) λa o m l v c F u n=>T a o m l v (Rely.dZ f j c) F u n f j
 |sem d A B k _ p=>
  intro r s f j;exact .sem d A (λa c=>B a (Rely.dZ f j c)) (λa c=>k a (Rely.dZ f j c)) λa o m l c u n=>p a o m l (Rely.dZ f j c) u n f j
 |l4 d k _ p=>
  intro r s f j;exact .l4 d (λa c=>k a (Rely.dZ f j c)) λa o m l c u n=>p a o m l (Rely.dZ f j c) u n f j
 |ke d k _ p=>
  intro r s f j;exact .ke d (λa c=>k a (Rely.dZ f j c)) λa o m l c n=>p a o m l (Rely.dZ f j c) n f j
 |aq d k _ p=>
  intro r s f j;exact .aq d (λa c=>k a (Rely.dZ f j c)) λa o m l Os c Z H I n=>p a o m l Os (Rely.dZ f j c) Z (λi U b q=>⟨λh=>(H i U b q).1 (f b h),λh=>(H i U b q).2.1 (j b h),(H i U b q).2.2⟩) I n (λb q=>q.imp (f b) id) j

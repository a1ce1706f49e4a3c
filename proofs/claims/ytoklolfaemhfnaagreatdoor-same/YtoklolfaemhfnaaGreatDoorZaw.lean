import Derived.Test.YtoklolfaemhfnaaGreatDoorZav
set_option maxRecDepth 100000
set_option maxHeartbeats 0
set_option linter.defProp false
open Go.Proofs.Tryz
namespace Go.Proofs.Y
section
open Go.Shelf Go.RowKit Go.Lib Go.Sort
open Go.ChangeMaps (setBlock)
variable {w w':Δ}{F:ϑ}{b:Nat}{h:Hd}{kn:List (Υ)}{l:aL}{evs:List Ev}{snt:List bC}{kb mb:Nat}{rbs:List Nat}{es:Array MapEntry}{clk:Nat}{ev sv:Θ}{seen:Array Nat}{vs rest:List MapEntry}
def qU{r s:Type}(f:r->s):∀{i e:List s},i.Perm e->∀{l:List r},l.map f=e->∃g:List r,g.Perm l/\g.map f=i:=by
 intro i e z;induction z with
 |nil=>intro l d;exact⟨[],by rw[List.map_eq_nil_iff.1 d],rfl⟩
 |@cons x i e _ t=>
  intro l d;match l,d with
  |a::l,d=>
   rw[yN]at d;injection d with h1 h2;obtain⟨g,n,v⟩:=t h2;exact⟨a::g,n.cons a,by rw[yN,v,h1]⟩
 |@swap x y e=>
  intro l d;match l,d with
  |a::c::l,d=>
   rw[yN,yN]at d;injection d with h1 h2;injection h2 with h2 h3;exact⟨_,List.Perm.swap a c l,by rw[yN,yN,h1,h2,h3]⟩
 |trans _ _ p o=>
  intro l d;obtain⟨A,q,m⟩:=o d;obtain⟨u,j,k⟩:=p m;exact⟨u,j.trans q,k⟩
def Gj:(prog.info? 186).map (λi=>(i.zero,i.size,i.bytes))=some (some (.agg #[J 0,J 0]),2,16):=κ
def Gl:(prog.info? 179).map (λi=>(i.zero,i.size,i.bytes))=some (some (.agg #[J 0,J 0,sN,.string ⟨#[]⟩]),4,56):=κ
def aH(vs:List MapEntry):List (Int×Int):=vs.map λe=>oh e.key
def bU(ks:List (Int×Int)):List Θ:=ks.flatMap ja
def nP:∀{ks:List (Int×Int)}{i:Nat}{x:Int×Int},ks[i]?=some x->(bU ks)[2*i]?=some (J x.1)/\(bU ks)[2*i+1]?=some (J x.2)
 |[],i,x,h=>by cases h
 |y::ks,0,x,h=>by simp only[AH,yA]at h;subst h;exact⟨rfl,rfl⟩
 |y::ks,i+1,x,h=>by have:=nP (by simpa using h);have e:bU (y::ks)=[J y.1,J y.2]++bU ks:=rfl;rw[e,show 2*(i+1)=2*i+1+1 by omega];exact this
def zh{d g n:Nat}{k:List (Int×Int)}(h:w.ownsRow d 186 2 (sT g k.length n) k.length (bU k)):gm w g k/\d<=g/\g<w:=by
 have q:=h.cells rfl;have u:=h.lt g rfl;have f:∀j,(⟨g,0,none⟩:Addr).add j=(aT g j):=λj=>by unfold Addr.add;split<;>simp_all
 obtain⟨c,e⟩:∃c,w.heap[g]?=some _:=by rcases h.2 with ⟨a,-⟩|⟨v,p,c,a,-,m,-⟩;cases a;injection a with a;injection a with a;injection a with a;subst a;exact⟨c,m⟩
 refine⟨λi x s=>?_,u⟩;obtain⟨a,t⟩:=nP s;have r:=q _ _ a;have o:=q _ _ t;rw[f]at r o;exact⟨r,o,frozen_of_row w g _ c 186 e,frozen_of_row w g _ c 186 e⟩
structure gY(es:Array MapEntry)(seen:Array Nat)(vs rest:List MapEntry):Prop where
 a:(vs++rest).Perm es.toList
 out:∀e∈rest,seen.contains e.born=false
 f:∀e∈vs,seen.contains e.born=true
def gY.c(v:gY es seen vs rest)(q:(es.toList.map (·.born)).Nodup){e:MapEntry}(p:e∈es.toList)(n:seen.contains e.born=false):∃d,gY es (seen.push e.born) (vs++[e]) d:=by
 have i:=v.a.mem_iff.2 p;have k:e∈rest:=by rcases yz.1 i with a|a;rw[v.f e a]at n;cases n;exact a
 obtain⟨A,B,rfl⟩:=List.append_of_mem k;have o:(vs++[e]++(A++B)).Perm es.toList:=by refine List.Perm.trans ?_ v.a;rw[I3];refine List.Perm.append_left vs ?_;rw[List.singleton_append];exact List.perm_middle.symm
 have f:=(o.map _).nodup_iff.2 q;refine⟨A++B,o,λg c=>?_,λg c=>?_⟩
 .have a:=v.out g (by rcases yz.1 c with h|h<;>simp[h]);have j:g.born≠e.born:=λm=>by rw[y8,GZ]at f;exact f.2.2 e.born ς g.born (Hq c) m.symm
  rw[Array.contains_push,a];simp[j]
 rcases yz.1 c with a|a;rw[Array.contains_push,v.f g a];simp;rw[yu]at a;subst a;simp
def gY.d(v:gY es seen vs rest)(d:(leftOf es seen).size=0):vs.Perm es.toList:=by
 have c:rest=[]:=by
  apply List.eq_nil_iff_forall_not_mem.2;intro e a;have f:=v.a.mem_iff.1 (yz.2 (.inr a));have:e∈(leftOf es seen).toList:=by unfold leftOf;rw[Array.toList_filter,yM];exact⟨f,by rw[v.out e a];rfl⟩
  rw[Array.eq_empty_of_size_eq_zero d]at this;cases this
 have:=v.a;rw[c,IX]at this;exact this
def vU(a:dX es clk l):aH es.toList=l.map λx=>(x.1.a,x.1.seq):=by unfold aH;have:=congrArg (List.map oh) a.key;rw[AD,AD]at this;exact this
def qM(a:List (Int×Int))(x:Int×Int):bU (a++[x])=bU a++[J x.1,J x.2]:=by simp[bU,ja]
def vl(xs l:aL):Prop:=xs.Perm l/\xs.Pairwise λx y=>ltOf iZ (y.1.a,y.1.seq) (x.1.a,x.1.seq)=false
def fu(w:Δ)(M:Nat)(xs:aL)(k:Nat):Prop:=∃cur:Array Θ,w.heap[M]?=some (.cells cur 179 (0,0))/\cur.size=4*xs.length/\∀i x,i<k->xs[i]?=some x->cur[4*i]?=some (J x.1.a)/\cur[4*i+1]?=some (J x.1.seq)/\cur[4*i+2]?=some x.2/\cur[4*i+3]?=some (.string x.1.b)
def jQ(p:PA w F b h kn l evs snt kb mb rbs es clk ev sv)(hl:l.length<=100000):ϖ 166 #[pT b 0] w λe w'=>Below w w w'/\∃M z,w.heap.size<=M/\vl z l/\ϱ e (sT M l.length l.length)/\fu w' M z l.length:=by
 obtain⟨i0,h4,m4,k8,p0⟩:=info_parts Gj;obtain⟨i1,p4,p3,n3,q3⟩:=info_parts Gl;have H:Hid (∀w',Below w w w'->ε w' b 15 (.map (some mb))/\w'.heap[mb]?=some (.map es clk)):=λw' hw=>⟨(p.a.c hw p.a.f).a 15 _ rfl,(hw.block mb p.q).trans p.map⟩;have V:=p.o.a;have C:=p.o.born;have HK:=ah (vU p.o);have e8:Hid (∀e∈es.toList,∃v,e.key=.agg #[J (oh e.key).1,J (oh e.key).2]/\e.val=v):=λe he=>by obtain⟨i,hi,rfl⟩:=y4 he;obtain⟨x,-,hk,-⟩:=p.o.at (yh hi);exact⟨_,by rw[hk];rfl,rfl⟩
 have a6:Hid (∀w'(x:Codec.Msg×Θ),Below w w w'->x∈l->(Instr.lookup 156 (.map (some mb)) (.agg #[J x.1.a,J x.1.seq]) false).run prog w'=.ok (aU x.1 x.2) w'):=λw' x hw hx=>mz w' x.1.a x.1.seq ((hw.block mb p.q).trans p.map) p.o p.i hx (by simp[gL]) false;have HT:=ah λx hx=>(p.d x hx).1.a;obtain⟨t,b4,n,B⟩:=run_make_own w _ 238 186 i0 _ 2 underlying238 h4 m4 k8 .i64 .i64 l.length ν (by simp[maxLen];omega) (yb _);have A:Below w w t:=⟨B.os,B.tape,B.output,B.size,λk hk=>B.block k hk λe=>by cases e⟩;have p2:Hid (Below w w t):=A;obtain⟨c2,d2⟩:=H.out w (yi _ _);obtain⟨k6,a7⟩:=H.out t A;have a8:Hid (t.ownsRow w 186 2 (sT w 0 l.length) 0 []):=n;have m2:(Builtin.len_ #[156] 3 #[.map (some mb)]).run prog w=.ok (J l.length) w:=by have:=run_len_map (P:=prog) w 156 3 mb es clk κ d2;rw[V]at this;exact this
 go_enter func166,ntmps166;go_wp2_with (at_range;refine eO _ rfl _ 156 186 179 rfl underlying156 rfl a7 p.o.b C ?_;intro e2);go_frame;have e7:Hid (w.heap.size<=t):=A.size;generalize k0:t.heap.size=Y at e2 e7⊢;have n2:Hid (cm (t.alloc (.mapIter (some mb) clk #[] clk)) mb Y es clk #[]):=e2;have n0:Hid (Below w w (t.alloc (.mapIter (some mb) clk #[] clk))):=A.alloc (by rw[k0];exact e7.out) _;have Z:Hid ((t.alloc (.mapIter (some mb) clk #[] clk)).ownsRow w 186 2 (sT w 0 l.length) 0 []):=a8.out.alloc _;go_loopw [3] (λv wr=>∃seen vs I g P,cm wr mb Y es clk seen/\Below w w wr/\gY es seen vs I/\v=sT g (aH vs).length P/\wr.ownsRow w 186 2 (sT g (aH vs).length P) (aH vs).length (bU (aH vs))) λ_ wr=>eN wr mb Y
 case atStart=>exact⟨#[],[],es.toList,w.heap.size,l.length,n2.out,n0.out,⟨List.Perm.refl _,λe _=>ς,λe he=>by cases he⟩,rfl,Z.out⟩
 case round=>
  obtain⟨seen,vs,I,g,P,hR,hB,hV,rfl,c7⟩:=hrel;have d7:=hR.b;have HB:Hid (Below w w wr):=hB;have HV:Hid (gY es seen vs I):=hV;have q:Hid (wr.ownsRow w 186 2 (sT g (aH vs).length P) (aH vs).length (bU (aH vs))):=c7;go_wp2_with (at_next;refine fB _ rfl _ rfl mb Y rfl hR ?_ ?_)
  .intro h0;have n1:(leftOf es seen).size=0:=by simpa using h0
   have f8:(aH vs).Perm (l.map λx=>(x.1.a,x.1.seq)):=by rw[<-HK.out];exact(HV.out.d n1).map _
   have O:(aH vs).length=l.length:=by rw[f8.length_eq,yL]
   obtain⟨k7,m3,e3⟩:=zh q.out;have f9:Hid (w.heap.size<=g/\g<wr):=⟨m3,e3⟩;have h2:=wQ wr g P (aH vs) k7 e3 ω;have h7:Hid (ϖ 198 #[sT g l.length P,.func (.func 199) #[] #[]] wr λe w'=>ϱ e (.tuple #[])/\Below w w w'/\g<w'/\∃z:aL,vl z l/\gm w' g (z.map λx=>(x.1.a,x.1.seq))):=by rw[Hid,<-O];refine h2.m ?_;rintro w'⟨m1,q7,n5,p5,k4⟩;obtain⟨z,U,S⟩:=qU (λx:Codec.Msg×Θ=>(x.1.a,x.1.seq)) (n5.trans f8) rfl;exact⟨rfl,ia HB.out f9.out.1 m1,yg f9.out.2 m1.size,z,⟨U,List.pairwise_map.1 (by rw[S];exact k4)⟩,by rw[S];exact p5⟩
   rw[O];go_wp2_with fail;refine h7.out.m ?_;rintro o⟨b2,T,z,U,c8⟩;have m9:Hid (Below w w o/\g<o):=⟨b2,T⟩;have e9:Hid (vl z l):=U;have m5:Hid (z.length=l.length):=U.1.length_eq;have b4:=run_make (P:=prog) o 163 179 i1 _ underlying163 p4 p3 .i64 .i64 (l.length:Int) (l.length:Int) ω (Ld _) ν ω;rw[CM,n3]at b4;have e5:Hid (gm (o.alloc (.cells (madeCells (Value.agg #[J 0,J 0,sN,.string ⟨#[]⟩]).cells (l.length*4)) 179)) g (z.map λx=>(x.1.a,x.1.seq))):=λi x hx=>by obtain⟨a1,a2,a3,a4⟩:=c8 i x hx;exact⟨(I4 _ _ _ T).trans a1,(I4 _ _ _ T).trans a2,(G4 (a:=⟨g,2*i,none⟩) (yQ _ _ _ T)).trans a3,(G4 (a:=⟨g,2*i+1,none⟩) (yQ _ _ _ T)).trans a4⟩
   have c5:Hid (fu (o.alloc (.cells (madeCells (Value.agg #[J 0,J 0,sN,.string ⟨#[]⟩]).cells (l.length*4)) 179)) o.heap.size z 0):=⟨_,heap_alloc_new o _,by rw[size_madeCells,U.1.length_eq,Nat.mul_comm],λi x hi=>absurd hi ω⟩;have f4:Hid (Below w w (o.alloc (.cells (madeCells (Value.agg #[J 0,J 0,sN,.string ⟨#[]⟩]).cells (l.length*4)) 179))):=b2.alloc b2.size _;have g9:Hid (o.heap.size<(o.alloc (.cells (madeCells (Value.agg #[J 0,J 0,sN,.string ⟨#[]⟩]).cells (l.length*4)) 179)).heap.size):=by simp[Hid]
   have f7:Hid (w.heap.size<=o):=b2.size;generalize o.alloc (.cells (madeCells (Value.agg #[J 0,J 0,sN,.string ⟨#[]⟩]).cells (l.length*4)) 179)=w4 at b4 e5 c5 f4 g9;go_wp2_with fail;have k9:Hid (g≠o.heap.size):=by have:=m9.out.2;simp only[Hid];omega
   generalize o.heap.size=M at c5 g9 k9 f7⊢;go_loopw [34] (λi wr=>∃k:Nat,k<=l.length/\i=J k/\gm wr g (z.map λx=>(x.1.a,x.1.seq))/\fu wr M z k/\Below w w wr) λi _=>l.length-(intOf i).toNat
   case atStart=>exact⟨0,ω,rfl,e5.out,c5.out,f4.out⟩
   case round=>
    obtain⟨k,hk,rfl,c3,f6,hB⟩:=hrel;by_cases n9:k<l.length
    .obtain⟨N,m7⟩:∃N,z[k]?=some N:=⟨_,yh (by rw[m5.out];exact n9)⟩;have S:N∈l:=e9.out.1.mem_iff.1 (yy m7);obtain⟨q0,q1,-,-⟩:=c3 k (N.1.a,N.1.seq) ν;obtain⟨ao,tn,tc,m0⟩:=HT.out _ S;have HY:Hid (∀w',Below w w w'->(Instr.lookup 156 (.map (some mb)) (.agg #[J N.1.a,J N.1.seq]) false).run prog w'=.ok (.agg #[J N.1.a,J N.1.seq,.slice ao tn tc,.string N.1.b]) w'):=λw' hw=>by have:=a6.out w' N hw S;rw[m0]at this;exact this
     obtain⟨cur,m,h8,n7⟩:=f6;have n8:M<wr:=(yk.1 m).1;have h5:cur.size=4*l.length:=by rw[h8,m5.out]
     have s:Hid (∀w',w'.heap[M]?=some (.cells ((((cur.setIfInBounds (k*4) (J N.1.a)).setIfInBounds (k*4+1) (J N.1.seq)).setIfInBounds (k*4+2) (.slice ao tn tc)).setIfInBounds (k*4+3) (.string N.1.b)) 179 (0,0))->fu w' M z (k+1)):=λw' hw=>by refine⟨_,hw,ν,λi x hi hx=>?_⟩;simp only[LK,Array.size_setIfInBounds];rcases Kq.1 hi with hi|rfl;grind;grind
     have a9:Hid (gm wr g (z.map λx=>(x.1.a,x.1.seq))/\g<wr):=⟨c3,yI wr _ q0⟩;have HB:Hid (Below w w wr):=hB;have Q:Hid (wr.heap[M]?=some (.cells cur 179 (0,0))/\k*4+3<cur.size):=⟨m,ω⟩;have p9:(k:Int)<(l.length:Int):=ω;have q2:(0:Int)<=(k:Int):=ω;simp only[show 2*k=k*2 by omega]at q0 q1;generalize N.1.a=L at q0 HY s;generalize N.1.seq=G at q1 HY s;generalize N.1.b=d9 at HY s;go_wp2_with fail;have b8:Hid (Below w w (wr.alloc (.cells #[J L,J G] 186))):=HB.out.alloc HB.out.size _;have hX:=af.d wr wr.heap.size rfl 186 #[J L,J G];have d0:=hX.z 0;have d1:=hX.z 1;have r:Hid (af (wr.alloc (.cells #[J L,J G] 186)) M 179 cur):=(yQ _ _ _ (yk.1 Q.out.1).1).trans Q.out.1;have e6:Hid (∀w',ej M (wr.alloc (.cells #[J L,J G] 186)) w'->gm w' g (z.map λx=>(x.1.a,x.1.seq))):=λw' hw i x hx=>by obtain⟨a1,a2,a3,a4⟩:=a9.out.1 i x hx;have b6:w'.heap[g]?=wr.heap[g]?:=(hw.block g k9.out).trans (yQ _ _ _ a9.out.2);exact⟨(yq (a:=⟨g,2*i,none⟩) b6).trans a1,(yq (a:=⟨g,2*i+1,none⟩) b6).trans a2,(G4 (a:=⟨g,2*i,none⟩) b6).trans a3,(G4 (a:=⟨g,2*i+1,none⟩) b6).trans a4⟩
     have W:=HY.out _ b8.out.drew;have c2:=(H.out _ b8.out).1;have f0:=r.out.b (k*4);have f1:=r.out.b (k*4+1);have f2:=r.out.b (k*4+2);have f3:=r.out.b (k*4+3);have n6:=Q.out.2;have g0:=r.out.a (k*4) cur[k*4] (yl ω);have g1:=r.out.a (k*4+1) cur[k*4+1] (yl ω);have g2:=r.out.a (k*4+2) cur[k*4+2] (yl ω);have g3:=r.out.a (k*4+3) cur[k*4+3] (yl ω);generalize cur[k*4]=q9 at g0;generalize cur[k*4+1]=q5 at g1;generalize cur[k*4+2]=r0 at g2;generalize cur[k*4+3]=q8 at g3;generalize wr.alloc (.cells #[J L,J G] 186)=w5 at b8 r e6 W c2 f0 f1 f2 f3 g0 g1 g2 g3 d0 d1⊢;refine gl.b (λw'=>w'=w5.drew) 9 rfl rfl λf5=>?_;(iterate 9 refine χ ?_);refine te 9 λK hK=>?_;go_simp;refine hK.out _ _ (λh=>absurd rfl h) λ_=>?_;refine gl.done κ ?_ _;have e1:ej M w5 ((((w5.setCell ⟨M,k*4,none⟩ (J L)).setCell ⟨M,k*4+1,none⟩ (J G)).setCell ⟨M,k*4+2,none⟩ (.slice ao tn tc)).setCell ⟨M,k*4+3,none⟩ (.string d9)):=((((ej.d M w5).a _ _).a _ _).a _ _).a _ _;have h9:=(((r.out.e (k*4) (J L)).e (k*4+1) (J G)).e (k*4+2) (.slice ao tn tc)).e (k*4+3) (.string d9);have c4:Hid (gm _ g (z.map λx=>(x.1.a,x.1.seq))/\fu _ M z (k+1)/\Below w w _):=⟨e6.out _ e1,s.out _ h9,b8.out.trans (e1.c f7.out)⟩;generalize ((((w5.setCell ⟨M,k*4,none⟩ (J L)).setCell ⟨M,k*4+1,none⟩ (J G)).setCell ⟨M,k*4+2,none⟩ (.slice ao tn tc)).setCell ⟨M,k*4+3,none⟩ (.string d9))=w6 at c4⊢;go_wp2_with fail;exact⟨⟨k+1,ω,by go_num,c4.out.1,c4.out.2.1,c4.out.2.2.drew⟩,by simp[intOf];omega⟩
    have q4:¬(k:Int)<(l.length:Int):=ω;have O:k=l.length:=ω;have a5:Hid (Below w w wr/\∃M' c1,w.heap.size<=M'/\vl c1 l/\Ending.returned (sT M l.length l.length)=.returned (sT M' l.length l.length)/\fu wr M' c1 l.length):=⟨hB,M,z,f7.out,e9.out,rfl,by rw[<-O];exact f6⟩;go_wp2_with fail;go_ret;obtain⟨a0,M',c1,a1,a2,a3,a4⟩:=a5.out;exact⟨a0,M',a1,c1,a2,a3,a4⟩
  intro e t he m6 h1 e4 b7 g5;have b9:e∈es.toList:=by simpa using he
  have b0:seen.contains e.born=false:=by simpa using m6
  obtain⟨v,hk,hv⟩:=e8.out e b9;rw[hk,hv]at g5⊢;obtain⟨X,k5⟩:=HV.out.c C b9 b0;have d4:Hid (gY es (seen.push e.born) (vs++[e]) X):=k5;have e0:aH (vs++[e])=aH vs++[oh e.key]:=by simp[aH]
  obtain⟨cur,m⟩:∃cur,wr.heap[g]?=some (.cells cur 186 (0,0)):=by rcases q.out.2 with ⟨h0,-⟩|⟨g',y,cur,h0,-,q6,-⟩;cases h0;grind
  have b1:g≠Y:=λe=>by rw[e,hR.d]at m;grind
  have c6:g≠mb:=cq m hR.map;have c9:g<wr:=(yk.1 m).1;have d5:t.heap[g]?=some (.cells cur 186 (0,0)):=(e4.block g c9 λe=>b1 ν).trans m;have n:t.ownsRow w 186 2 (sT g (aH vs).length P) (aH vs).length (bU (aH vs)):=aj q.out λg' p1=>by
   have:g'=g:=by simpa[Value.ownBlock]using p1.symm
   grind
  have A:Below w w t:=ia HB.out e7.out e4;have HL:Hid ((aH vs).length<=100000):=by have:=d4.out.a.length_eq;simp only[Hid,aH,yL];simp only[yC]at this;rw[show es.toList.length=es.size from AG,V]at this;omega
  have k3:Hid ((leftOf es (seen.push e.born)).size<eN wr mb Y):=by rw[Hid,d7];exact iI b9 b0
  generalize oh e.key=kk at g5 e0⊢;obtain⟨E,D⟩:=kk;have c0:Hid (aH (vs++[e])=aH vs++[(E,D)]):=e0;generalize n4:aH vs=ks at q n c0 HL⊢;have d6:Below t t ((t.alloc (.cells #[J E,J D] 186)).alloc (.cells #[J E,J D] 186)):=((yi _ _).alloc (yb _) _).alloc ς _;have h6:Hid (((t.alloc (.cells #[J E,J D] 186)).alloc (.cells #[J E,J D] 186)).ownsRow w 186 2 (sT g ks.length P) ks.length (bU ks)):=(n.alloc _).alloc _;have m8:Hid (af ((t.alloc (.cells #[J E,J D] 186)).alloc (.cells #[J E,J D] 186)) (wr.heap.size+1) 186 #[J E,J D]):=af.d _ _ (by simp[b7]) 186 _;have d0:=((af.d t wr.heap.size b7 186 #[J E,J D])).a 0 _ rfl;have d1:=((af.d t wr.heap.size b7 186 #[J E,J D])).a 1 _ rfl;have a5:Hid (∀o g' y,o.ownsRow w 186 2 (sT g' (ks.length+1) y) (ks.length+1) (bU ks++[J E,J D])->((t.alloc (.cells #[J E,J D] 186)).alloc (.cells #[J E,J D] 186)).grownBy o (some g)->(∃seen vs I g8 b3,cm o mb Y es clk seen/\Below w w o/\gY es seen vs I/\Value.slice (some ⟨g',0,none⟩) (ks.length+1) y=sT g8 (aH vs).length b3/\o.ownsRow w 186 2 (sT g8 (aH vs).length b3) (aH vs).length (bU (aH vs)))/\eN o mb Y<eN wr mb Y):=λo g' y ho hg=>by
   have R:=h1.c d6;have g6:cm o mb Y es clk (seen.push e.born):=⟨(hg.block mb (yk.1 R.map).1 λe=>c6 ν).trans R.map,(hg.block Y (yk.1 R.d).1 λe=>b1 ν).trans R.d,R.f,R.born⟩;have O:(aH (vs++[e])).length=ks.length+1:=by rw[c0.out];simp
   refine⟨⟨_,vs++[e],X,g',y,g6,?_,d4.out,by rw[O],?_⟩,?_⟩;exact ia (A.trans (d6.mono A.size)) (q.out.lt g rfl).1 hg;rw[O,c0.out,qM];exact ho;rw[g6.b];exact k3.out
  have d3:Hid (ks.length+1<=maxLen/\(ks.length+1)*16<=140737488355328):=by have:=HL.out;simp only[Hid,maxLen];omega
  have h3:Hid (w.heap.size<=((t.alloc (.cells #[J E,J D] 186)).alloc (.cells #[J E,J D] 186)).heap.size):=by have:=A.size;simp only[Hid,World.size_alloc];omega
  have p8:Hid (((t.alloc (.cells #[J E,J D] 186)).alloc (.cells #[J E,J D] 186)).heap.size=wr.heap.size+1+1):=by simp[Hid,b7]
  go_wp2_with (at_builtin;refine wpList_append_lies _ rfl (.tmp 23) (.tmp 25) 238 rfl w.heap.size 186 i0 _ 2 16 underlying238 h4 m4 k8 p0 rfl θ _ _ (bU ks) rfl h6.out ⟨wr.heap.size+1,0,none⟩ 1 1 [J E,J D] rfl rfl (IZ m8.out) (by intro u hu;simp only[yF,yU,or_false]at hu;rcases hu with rfl|rfl<;>rfl) ω d3.out.1 d3.out.2 h3.out _ rfl ?_;intro g' y o d8 g4 p6 p7);exact a5.out o g' y d8 g4
end
section
open Go.RowKit
open Go.ChangeMaps (setBlock)
variable {w w':Δ}{F:ϑ}{b:Nat}{h:Hd}{kn:List (Υ)}{l:aL}{evs:List Ev}{snt:List bC}{kb mb:Nat}{rbs:List Nat}{es:Array MapEntry}{clk:Nat}{ev sv:Θ}
def bD(set:Int)(n:Nat):List Nat:=(List.range n).filter (jc set)
def mB(a:Int)(k:Nat):bD a (k+1)=if jc a k=true then bD a k++[k] else bD a k:=by unfold bD;rw[List.range_succ,La];cases c:jc a k<;>simp[c]
def cz(l:List Nat):List Θ:=l.map λ(q:Nat)=>Value.int .i64 (q:Int)
def zf:(prog.info? 3).map (λi=>(i.zero,i.size,i.bytes))=some (some (J 0),1,8):=κ
def Gp(p:PA w F b h kn l evs snt kb mb rbs es clk ev sv)(Y:h.n<=6)(a:Int):ϖ 164 #[pT b 0,J a] w λe L=>∃v,ϱ e v/\L.ownsRow w 3 1 v (bD a h.n).length (cz (bD a h.n))/\Below w w L:=by
 obtain⟨Q,H,D,I,A⟩:=info_parts zf;have W:=p.a.a 1 _ rfl;simp only[Hd.c,yf,yd,ye]at W;clear p;go_enter func164,ntmps164;go_wp2_with fail;go_loopw [5,11] (λv i wr=>∃k:Nat,k<=h.n/\i=J k/\wr.ownsRow _ 3 1 v (bD a k).length (cz (bD a k))/\Below w w wr) λ_ i _=>h.n-(intOf i).toNat
 case atStart=>exact⟨0,ω,rfl,(by have:=y9 w w.heap.size 3 1;simpa[bD,cz]using this),yi _ _⟩
 case round=>
  obtain⟨k,Z,rfl,o,K⟩:=hrel;have c:=ah o;have r:=ah K;clear o K;obtain⟨M,P,T⟩:=bG c.out;subst T;by_cases S:k<h.n
  .have N:(k:Int)<(h.n:Int):=ω;have V:Hid ((bD a k).length<=6):=by have:(bD a k).length<=(List.range k).length:=G3 _ _;simp only[Hid];simp at this;omega
   cases z:jc a k
   .have B:Hid (bD a (k+1)=bD a k):=by rw[Hid,mB,z];rfl
    go_wp2_with (go_at_call 173;refine(gE _ _ _ ω).mono ?_;rintro e X⟨rfl,rfl⟩;rw[z]);exact⟨⟨k+1,ω,by go_num,by rw[B.out];exact c.out,r.out⟩,by simp[intOf];omega⟩
   have B:Hid (bD a (k+1)=bD a k++[k]):=by rw[Hid,mB,z];rfl
   have q:Hid ((wr.alloc (.cells #[J k] 3)).ownsRow w 3 1 (.slice M (bD a k).length P) (bD a k).length (cz (bD a k))):=c.out.alloc _;have y:Hid (af (wr.alloc (.cells #[J k] 3)) wr.heap.size 3 #[J k]):=af.d wr wr.heap.size rfl 3 _;have g:Hid ((bD a k).length+1<=maxLen/\((bD a k).length+1)*8<=140737488355328):=by have:=V.out;simp only[Hid,maxLen];omega
   have m:Hid (w.heap.size<=(wr.alloc (.cells #[J k] 3)).heap.size):=by have:=r.out.size;simp only[Hid,World.size_alloc];omega
   have E:Hid (∀t,(wr.alloc (.cells #[J k] 3)).grownBy t (Value.slice M (bD a k).length P).ownBlock->Below w w t):=λt x=>by have C:Below w w (wr.alloc (.cells #[J k] 3)):=r.out.alloc r.out.size _;exact C.trans ⟨x.os,x.tape,x.output,x.size,λj R=>x.block j (yg R m.out) λe=>by have:=(c.out.lt j e.symm).1;omega⟩
   go_wp2_with (first|(go_at_call 173;refine(gE _ _ _ ω).mono ?_;rintro e X⟨rfl,rfl⟩;rw[z])|(at_builtin;refine wpList_append_own_at _ rfl (.tmp 17) (.tmp 19) 69 rfl w.heap.size 3 Q _ 1 8 underlying69 H D I A rfl θ _ _ (cz (bD a k)) rfl q.out ⟨_,0,none⟩ 1 1 [J k] rfl rfl (IZ y.out) (by intro u O;simp only[yF,yU,or_false]at O;rcases O with rfl;rfl) g.out.1 g.out.2 m.out ?_;intro v' t d s _ _));exact⟨⟨k+1,ω,by go_num,(by rw[B.out];simp only[cz,y8,yC,yN,Cx,yx,yD]at d⊢;exact d),E.out t s⟩,by simp[intOf];omega⟩
  have U:¬(k:Int)<(h.n:Int):=ω;have G:k=h.n:=ω;go_wp2_with fail;go_ret;subst G;exact⟨_,rfl,c.out,r.out⟩



variable {n j:Nat}{ms:List Codec.Msg}{out:List Codec.Frame}{qs:List Nat}

variable{f:Codec.Frame}

def tF(g c:Nat)(a:Υ)(w:Δ)(s:af w g 3 (ints a).toArray)(C:a.length<=6)(D:1<=a.length):ϖ 118 #[sT g a.length c] w λe i=>∃k d,ϱ e (sT k a.length d)/\i.ownsRow w 3 1 (sT k a.length d) a.length (ints a)/\Below w w i:=by
 obtain⟨t,B,o,p,m⟩:=info_parts zf;have y:Hid ((w.alloc (.cells #[] 3)).ownsRow w 3 1 (sT w 0 0) 0 []):=⟨rfl,.inr ⟨_,_,#[],rfl,yb _,heap_alloc_new w _,yb _,oI _,rfl,rfl⟩⟩;have z:Hid (af (w.alloc (.cells #[] 3)) g 3 (ints a).toArray):=s.g _;have n:=λi:Δ=>Lib.run_eql_slice_nil i 69 3 (some ⟨g,0,none⟩) a.length c 0 0 underlying69;simp at n;go_enter func118,ntmps118;go_wp2_with (at_builtin;refine wpList_append_own_at _ rfl _ _ 69 rfl _ 3 t (J 0) 1 8 underlying69 B o p m rfl θ _ _ _ rfl y ⟨g,0,none⟩ a.length c (ints a) rfl ?c0 ?c1 ?c2 ?c3 ?c4 ?c5 ?_)
 case c0=>rw[fe];simp
 case c1=>intro j u A;rw[lu];exact z.out.a j u (by simpa using A)
 case c2=>intro u r;simp[ints]at r;obtain⟨_,_,rfl⟩:=r;rfl
 case c3=>unfold maxLen;omega
 case c4=>omega
 case c5=>simp
 intro v G q f _ _;obtain⟨k,d,rfl,_,_⟩:=World.ownsRow.form q ω;go_wp2;go_ret;refine⟨k,d,rfl,q,?_⟩;exact((yi _ _).alloc (yb _) _).trans ⟨f.os,f.tape,f.output,f.size,λx E=>f.block x (by simp;omega) λe=>by injection e with e;simp at e;omega⟩
def wD(C:h.a<h.n)(d0:h.n<=6)(p:PA w F b h kn l evs snt kb mb rbs es clk ev sv)(P:Ab h.n (kn.getD h.a []))(t:ByteArray)(ht:t.size<=4000000):ϖ 137 #[pT b 0,.string t] w λe j=>∃g a,ϱ e (aU ⟨h.a,(kn.getD h.a []).getD h.a 0+1,(kn.getD h.a []).set h.a ((kn.getD h.a []).getD h.a 0+1),t⟩ (sT g h.n a))/\eB j (λx=>w<=x) 3 1 (sT g h.n a) h.n (ints ((kn.getD h.a []).set h.a ((kn.getD h.a []).getD h.a 0+1)))/\Below w w j:=by
 obtain⟨r,hr,Z,I,-⟩:=p.m C;have V:Below w w (w.alloc (.cells #[J 0,J 0,sN,.string ⟨#[]⟩] 179)):=(yi _ _).alloc (yb _) _;have HR:Hid (ϖ 119 #[pT b 0] (w.alloc (.cells #[J 0,J 0,sN,.string ⟨#[]⟩] 179)) λe X=>ϱ e (sT r h.n h.n)/\Below (w.heap.size+1) (w.alloc (.cells #[J 0,J 0,sN,.string ⟨#[]⟩] 179)) X/\Below w w X):=(iM (p.j V) hr).mono λe X hh=>by obtain⟨rfl,hb,-⟩:=hh;exact⟨rfl,hb.mono ς,V.trans (hb.mono ς)⟩
 have a1:=ah (λj hw=>by have:=tF r h.n (kn.getD h.a []) j (Z.c hw Z.f) ω ω;rw[I]at this;exact this)
 have a2:Hid (∀j,Below w w j->ε j b 0 (J h.a)):=λj hw=>(p.a.c hw p.a.f).a 0 _ rfl;have hx:=P h.a C;have b0:Hid (af (w.alloc (.cells #[J 0,J 0,sN,.string ⟨#[]⟩] 179)) w 179 #[J 0,J 0,sN,.string ⟨#[]⟩]):=af.d w w rfl 179 _;have a0:Hid ((w.alloc (.cells #[J 0,J 0,sN,.string ⟨#[]⟩] 179))=w.heap.size+1):=by simp[Hid]
 have c8:0<=h.a:=ω;have c9:h.a<h.n:=ω;generalize S:(kn.getD h.a []).getD h.a 0=x at hx⊢;generalize b9:kn.getD h.a []=E at I a1 S⊢;have c1:wrap64 (x+1)=x+1:=by unfold wrap64;omega
 go_enter func137,ntmps137;go_wp21;generalize w.alloc _=w1 at HR b0 a0⊢;refine HR.out.m ?_;rintro w2⟨a4,U⟩;have N:Hid (Below (w.heap.size+1) w1 w2/\Below w w w2):=⟨a4,U⟩;have R:=ah ((a1.out w2 U));go_wp21;refine R.out.mono ?_;rintro e m⟨g,a,rfl,i,W⟩;have M:Hid (w.heap.size+1<=w2):=by have:=N.out.1.size;rw[a0.out]at this;exact this
 have H:Hid (Below (w.heap.size+1) w1 m/\Below w w m):=⟨N.out.1.trans (W.mono M),N.out.2.trans (W.mono N.out.2.size)⟩;have a6:=i.lt g rfl;obtain⟨c,O,B,b5,z⟩:∃c:Array Θ,h.n<=a/\m.heap[g]?=some _/\c.size=a*1/\c.toList.take _=ints E:=by rcases i.2 with ⟨o,-⟩|⟨v,f,c,o,-,G,b7,-,c5,c3⟩;cases o;injection o with o _ h2;injection o with o;injection o with o;subst o h2;exact⟨c,b7,G,c5,c3⟩
 have a3:=ah i;have cx:ε m g h.a (J x):=by
  have:=i.cells rfl h.a (J x) (by
   have:E[h.a]?=some x:=by rw[getD_some ω,(ah S).out]
   simp[ints,this])
  rw[lu]at this;exact this
 have c2:m.frozen? (aT g h.a)=false:=frozen_of_row m g _ c 3 B;have s:Hid ((m.setCell ⟨g,h.a,none⟩ (J (x+1))).ownsRow w 3 1 (sT g h.n a) h.n (ints (E.set h.a (x+1)))):=by
  have b6:a<=maxLen:=by rcases i.2 with ⟨o,-⟩|⟨v,f,c7,o,-,-,-,c6,-⟩;cases o;injection o with _ _ h2;subst h2;exact c6
  refine⟨by simp[ints,I],.inr ⟨g,a,_,rfl,?_,((show af m g 3 c from B).e h.a (J (x+1))),O,b6,by simpa using b5,?_⟩⟩;have:=M.out;omega;rw[Array.toList_setIfInBounds,List.take_set,z];simp[ints,List.map_set]
 have b4:=ah a6.1;have c0:=a2.out m H.out.2;go_wp21;have b3:ej g m (m.setCell ⟨g,h.a,none⟩ (J (x+1))):=(ej.d g m).a _ _;have Y:Below (w.heap.size+1) m (m.setCell ⟨g,h.a,none⟩ (J (x+1))):=b3.c (by have:=M.out;have:=b4.out;omega);have q:Hid (Below (w.heap.size+1) w1 (m.setCell ⟨g,h.a,none⟩ (J (x+1)))/\Below w w (m.setCell ⟨g,h.a,none⟩ (J (x+1)))):=⟨H.out.1.trans (Y.mono (yb _)),H.out.2.trans (Y.mono ω)⟩;have y1:(m.setCell ⟨g,h.a,none⟩ (J (x+1))).cell? (aT g h.a)=some (J (x+1)):=by
  obtain⟨v,f,c,o,-,G,-⟩:∃v f c,Value.slice (some ⟨g,0,none⟩) h.n a=sT v h.n f/\w<=v/\(m.setCell ⟨g,h.a,none⟩ (J (x+1))).heap[v]?=some (.cells c 3 (0,0))/\True:=by rcases s.out.2 with ⟨o,-⟩|⟨v,f,c,o,h1,G,-⟩;cases o;exact⟨v,f,c,o,h1,G,trivial⟩
  have:=s.out.cells rfl h.a (J (x+1)) (by simp[ints,I,C]);rw[lu]at this;exact this
 have Q:=ah (yI _ _ y1);generalize m.setCell ⟨g,h.a,none⟩ (J (x+1))=w4 at s q y1 Q⊢;have HS:Hid (∀j,Below w4 w4 j->ε j b 0 (J h.a)/\ε j g h.a (J (x+1))):=λj hw=>⟨a2.out j (q.out.2.trans (hw.mono q.out.2.size)),(hw.cell (p:=(aT g h.a)) Q).trans y1⟩;refine gl.b (λj=>ε j b 0 (J h.a)/\ε j g h.a (J (x+1))) 15 rfl (HS.out _ (yi _ _).drew) λk=>?_;(iterate 13 refine χ ?_);refine te 13 λK hK=>?_;go_simp;refine((ah λj=>jW t j ht).out _).m ?_;rintro w5 a9;have L:Hid (Below w4 w4 w5):=((yi _ _).drew).trans (a9.mono ς);have d:Hid (af w5 w 179 #[J 0,J 0,sN,.string ⟨#[]⟩]):=b0.out.c (q.out.1.trans (L.out.mono (by have:=q.out.1.size;rw[a0.out]at this;exact this))) ω;have a7:=ah (aQ s L);go_wp21;refine hK.out _ _ (λ_=>HS.out _ L) λk=>?_;have k:=k θ;refine tw 14 ?_;have f0:=d.out.b 0;have f1:=d.out.b 1;have f2:=d.out.b 2;have f3:=d.out.b 3;have z0:=d.out.z 0;have z1:=d.out.z 1;have z2:=d.out.z 2;have z3:=d.out.z 3;refine te 15 λK hK=>?_;go_simp;refine hK.out _ _ (λh=>absurd rfl h) λ_=>?_;refine gl.done κ ?_ _;obtain⟨u,D⟩:=ql d (J h.a) (J (x+1)) (sT g h.n a) (.string t);have A:Hid (eB _ (λy=>w<=y) 3 1 (sT g h.n a) h.n (ints (E.set h.a (x+1)))/\Below w w _):=⟨⟨aD (aj a7 λv T=>D.block v (λe=>by
  have:v=g:=by simpa[Value.ownBlock]using T.symm
  have h1:=M.out;have h2:=b4.out;omega)) (oI _),λv T=>(a7.out.lt v T).1⟩,(ah (q.out.2.trans (L.out.mono q.out.2.size))).out.trans (D.c (yb _))⟩
 generalize ((((w5.setCell ⟨w,0,none⟩ (J h.a)).setCell ⟨w,1,none⟩ (J (x+1))).setCell ⟨w,2,none⟩ (sT g h.n a)).setCell ⟨w,3,none⟩ (.string t))=w6 at u D A⊢;have q2:=u.z 2;go_wp21;(try simp);refine bodyPost_ret (v:=.agg #[J h.a,J (x+1),sT g h.n a,.string t]) (by simp[results,results137,go_sem,(u.z 0),(u.z 1),q2,(u.z 3)]) rfl ?_;refine⟨g,a,rfl,?_⟩;exact⟨A.out.1,A.out.2⟩


def rM(b mb n:Nat)(t:ByteArray)(M:Codec.Msg)(m:List Nat)(c0:m.length<=6)(w:Δ)(R9 S1:Ξ)(S2:Δ->Nat->ϑ)(S4 S6 S7:Nat->Nat->Nat->Ξ)(C:Nat->Nat->Nat->Option Addr->Nat->Ξ)(o:Ξ)(N:ϖ 136 #[pT b 0,.string t] w λe A=>(ϱ e (J 9)/\R9 A)\/(ϱ e (J 10)/\R9 A)\/(ϱ e (J 0)/\S1 A))(I:∀A,S1 A->ϖ 137 #[pT b 0,.string t] A λe x=>∃g a,ϱ e (aU M (sT g n a))/\S2 x g a)(P:∀x g a,S2 x g a->ϖ 138 #[pT b 0,aU M (sT g n a),J 1] (x.alloc (.cells #[J M.a,J M.seq,sT g n a,.string M.b] 179)) λe u=>ϱ e (.tuple #[])/\S4 x.heap.size g a u)(R:∀X g a u,S4 X g a u->(∀d,Below u u d->ε d b 15 (.map (some mb))/\af d X 179 #[J M.a,J M.seq,sT g n a,.string M.b]/\∃F,(Instr.mapUpdate 156 (.map (some mb)) (bQ M.a M.seq) (aU M (sT g n a))).run prog d=.ok () F/\S6 X g a F))(H:∀X g a F,S6 X g a F->ϖ 140 #[pT b 0] F λe w7=>ϱ e (.tuple #[])/\S7 X g a w7)(S:∀X g a w7,S7 X g a w7->ϖ 110 #[pT b 0] w7 λe v=>∃l c,ϱ e (.slice l m.length c)/\C X g a l 0 v)(a3:∀X g a l k v,C X g a l k v->af v X 179 #[J M.a,J M.seq,sT g n a,.string M.b]/\∀q:Nat,m[k]?=some q->∃g',l=some ⟨g',0,none⟩/\ε v g' k (J q))(a9:∀X g a l k v(q:Nat),C X g a l k v->m[k]?=some q->ϖ 141 #[pT b 0,J q,aU M (sT g n a)] v λe G=>ϱ e (.tuple #[])/\C X g a l (k+1) G)(B:∀X g a l G,C X g a l m.length G->o G):ϖ 97 #[pT b 0,.string t] w λe w'=>((ϱ e (J 9)\/ϱ e (J 10))/\R9 w')\/(ϱ e (J 0)/\o w'):=by
 have y:=ah N;have a5:Hid _:=I;have L:Hid _:=P;have a7:Hid _:=R;have W:Hid _:=H;have U:Hid _:=S;have E:Hid _:=a3;have D:Hid _:=a9;have r:Hid _:=B;clear N I P R H S a3 a9 B;obtain⟨ms,mq,mt,mx⟩:=M;unfold aU bQ at*;simp only at*;go_enter func97,ntmps97;go_wp2_with fail;refine y.out.mono ?_;rintro e A(⟨rfl,hr⟩|⟨rfl,hr⟩|⟨rfl,b0⟩)
 .have HR:=ah hr;clear hr y;go_wp2_with fail;go_ret;exact .inl ⟨.inl rfl,HR.out⟩
 .have HR:Hid (R9 A):=hr;clear hr y;go_wp2_with fail;go_ret;exact .inl ⟨.inr rfl,HR.out⟩
 have a8:Hid (ϖ 137 _ _ _):=a5.out A b0;clear b0 y a5;go_wp2_with fail;refine a8.out.mono ?_;rintro e x⟨g,a,rfl,b3⟩;have a4:Hid (ϖ 138 _ _ _):=L.out x g a b3;clear b3 a8 L;have p:=af.d x x.heap.size rfl 179 #[J ms,J mq,sT g n a,.string mx];have d0:=p.a 0 _ rfl;have d1:=p.a 1 _ rfl;have d2:=p.a 2 _ rfl;have d3:=p.a 3 _ rfl;simp only[yf,yd,ye]at d0 d1 d2 d3;clear p;go_wp2_with fail;refine a4.out.mono ?_;rintro e u⟨rfl,O⟩;clear d0 d1 d2 d3 a4;have z:Hid _:=a7.out _ _ _ _ O;generalize x.heap.size=X at z⊢;clear O a7;go_wp2_with fail;have HS:Hid (∀d,Below u u d->ε d b 15 (.map (some mb))/\ε d X 0 (J ms)/\ε d X 1 (J mq)/\ε d X 2 (sT g n a)/\ε d X 3 (.string mx)):=λd hw=>by obtain⟨a1,a2,-⟩:=z.out d hw;exact⟨a1,a2.a 0 _ rfl,a2.a 1 _ rfl,a2.a 2 _ rfl,a2.a 3 _ rfl⟩
 refine gl.b (λd=>ε d b 15 (.map (some mb))/\ε d X 0 (J ms)/\ε d X 1 (J mq)/\ε d X 2 (sT g n a)/\ε d X 3 (.string mx)) 7 rfl (HS.out _ (yi _ _).drew) λf=>?_;(iterate 5 refine χ ?_);refine tw 6 ?_;refine te 5 λK Q=>?_;go_simp;refine(jR ⟨ms,mq,mt,mx⟩ (sT g n a) _).mono ?_;rintro e d⟨rfl,Z⟩;have b1:Hid (Below u u d):=((yi _ _).drew).trans (Z.mono ς);clear Z;unfold bQ;simp only;go_wp2_with fail;refine Q.out _ _ (λ_=>HS.out _ b1.out) λf=>?_;clear Q K;try simp only[pU]
 have f:=f θ;obtain⟨-,-,F,b6,b2⟩:=z.out d b1.out;have V:Hid (ϖ 140 _ _ _):=W.out _ _ _ _ b2;clear b2 z W;refine te 7 λK Q=>?_;go_simp;refine Q.out _ _ (λh=>absurd rfl h) λ_=>?_;clear Q K;try simp only[pU]
 refine gl.done κ ?_ _;clear b6 HS f;go_wp2_with fail;refine V.out.mono ?_;rintro e w7⟨rfl,Y⟩;have a0:Hid (ϖ 110 _ _ _):=U.out _ _ _ _ Y;clear Y V U;go_wp2_with fail;refine a0.out.mono ?_;rintro e v⟨l,c,rfl,j⟩;have H8:Hid (C X g a l 0 v):=j;clear j a0;go_wp2_with fail;go_loopw [33] (λi wr=>∃k:Nat,k<=m.length/\i=J k/\C X g a l k wr) λi _=>m.length-(intOf i).toNat
 case atStart=>exact⟨0,ω,rfl,H8.out⟩
 case round=>
  obtain⟨k,hk,rfl,j⟩:=hrel;by_cases b4:k<m.length
  .obtain⟨q,hq⟩:∃q,m[k]?=some q:=⟨_,yh b4⟩;obtain⟨p,s⟩:=E.out _ _ _ _ _ _ j;obtain⟨g',rfl,cg⟩:=s q hq;have T:Hid (ϖ 141 _ _ _):=D.out _ _ _ _ _ _ q j hq;have d0:=p.a 0 _ rfl;have d1:=p.a 1 _ rfl;have d2:=p.a 2 _ rfl;have d3:=p.a 3 _ rfl;simp only[yf,yd,ye]at d0 d1 d2 d3;have b7:(k:Int)<(m.length:Int):=ω;have b9:(0:Int)<=(k:Int):=ω;clear p s j hq H8 E D r;go_wp2_with fail;refine T.out.mono ?_;rintro e G⟨rfl,a6⟩;have H9:Hid (C X g a (some ⟨g',0,none⟩) (k+1) G):=a6;clear a6 T;go_wp2_with fail;exact⟨⟨k+1,ω,by go_num,H9.out⟩,by simp[intOf];omega⟩
  have b8:¬(k:Int)<(m.length:Int):=ω;have b5:k=m.length:=ω;subst b5;have HP:Hid (o wr):=r.out _ _ _ _ _ j;clear j H8 E D r;go_wp2_with fail;go_ret;exact .inr ⟨rfl,HP.out⟩
def PA.a3(p:PA w F b h kn l evs snt kb mb rbs es clk ev sv)(m:Codec.Msg)(a:Θ)(i:∀x∈l,gL m.a m.seq x.1=false)(n:eB w F 3 1 a m.c.length (ints m.c))(o:∀g,a.ownBlock=some g->g∉rbs):(Instr.mapUpdate 156 (.map (some mb)) (bQ m.a m.seq) (aU m a)).run prog w=.ok () (setBlock w mb (.map (es.push {key:=bQ m.a m.seq,val:=aU m a,born:=clk}) (clk+1)))/\w.grownBy (setBlock w mb (.map (es.push {key:=bQ m.a m.seq,val:=aU m a,born:=clk}) (clk+1))) (some mb)/\PA (setBlock w mb (.map (es.push {key:=bQ m.a m.seq,val:=aU m a,born:=clk}) (clk+1))) F b h kn (l++[(m,a)]) evs snt kb mb rbs (es.push {key:=bQ m.a m.seq,val:=aU m a,born:=clk}) (clk+1) ev sv:=by
 have k:=ep p.map (.map (es.push {key:=bQ m.a m.seq,val:=aU m a,born:=clk}) (clk+1));refine⟨Au w m.a m.seq _ p.map p.o i,k,p.y k (jV p.map _) (p.o.put m a) ?_ ?_⟩;refine List.pairwise_append.2 ⟨p.i,ς,λx c y q=>?_⟩;rw[yu]at q;subst q;have:=i x c;rw[<-Kr]at this⊢;intro e;rw[cu]at e this;exact this ⟨e.1.symm,e.2.symm⟩;intro x c j;rcases yz.1 c with c|c;exact absurd c j;rw[yu]at c;subst c;refine⟨n.i λg d=>?_,o⟩;obtain⟨r,f⟩:=n.m d;exact k.block g (n.k d) λe=>cq f p.map (by injection e)
section
structure cY(w:Δ)(Fn:ϑ)(gb:Nat)(pv:Θ)(lim:Nat)(pl:List bC)(nv:Θ):Prop where
 a:af w gb 97 #[pv,J lim,nv]
 b:eB w Fn 111 2 nv pl.length (ar pl)
variable {w w':Δ}{Fn:ϑ}{gb:Nat}{pv:Θ}{lim:Nat}{pl:List bC}{nv:Θ}
def cY.c(p:cY w Fn gb pv lim pl nv)(a:Below w w w'):cY w' Fn gb pv lim pl nv:=⟨p.a.c a p.a.f,p.b.i λg b=>a.block g (p.b.k b)⟩
def cY.d(p:cY w Fn gb pv lim pl nv){F':ϑ}(a:∀x,Fn x->F' x):cY w F' gb pv lim pl nv:=⟨p.a,p.b.d,λg b=>a g (p.b.c g b)⟩
def cY.e(p:cY w Fn gb pv lim pl nv):some gb≠nv.ownBlock:=λe=>p.b.o e.symm p.a θ rfl
def wC(p:cY w Fn gb pv lim pl nv):ϖ 72 #[pT gb 1] w λe b=>ϱ e (J pl.length)/\b=w:=by have c:=p.a.z 2;obtain⟨f,a,d⟩:=bG p.b.d;simp only[d]at c;go_enter func72,ntmps72;go_wp21;go_ret;exact⟨rfl,rfl⟩
def kq(p:cY w Fn gb pv lim pl nv)(k:Nat)(h:k<pl.length):ϖ 113 #[pT gb 1,J k] w λe d=>ϱ e (.bool true)/\d=w:=by have f:=p.a.z 2;obtain⟨i,c,g⟩:=bG p.b.d;simp only[g]at f;have b:0<=k:=ω;have a:k<pl.length:=ω;go_enter func113,ntmps113;go_wp21;go_ret;exact⟨rfl,rfl⟩
def je(lim:Nat)(pl:List bC)(c:bC):List bC:=if pl.length<lim then pl++[c] else pl
def qc(p:cY w Fn gb pv lim pl nv)(c:bC)(hl:pl.length<=1000000):ϖ 104 #[pT gb 1,.agg #[J c.1,.string c.2]] w λe d=>ϱ e (.tuple #[])/\cW (λx=>Fn x\/x=gb) w d/\∃a2,cY d (aY Fn w) gb pv lim (je lim pl c) a2:=by
 unfold je;obtain⟨k,m⟩:=c;simp only;obtain⟨i0,a4,a1,a3,a0⟩:=info_parts tP;have N:=ah p;obtain⟨C,E,hv⟩:=bG p.b.d;have G:Below w w (w.alloc (.cells #[J k,.string m] 111)):=(yi _ _).alloc (yb _) _;have hX:=af.d w _ rfl 111 #[J k,.string m];have P:Hid (∀d,Below (w.heap.size+1) (w.alloc (.cells #[J k,.string m] 111)) d->ε d gb 1 (J lim)/\ε d gb 2 (.slice C pl.length E)/\ε d w 0 (J k)/\ε d w 1 (.string m)):=λd O=>by have hb:Below w w d:=G.trans (O.mono ω);have V:=(p.a.c hb p.a.f).a 2 _ rfl;simp only[yf,yd,ye,hv]at V;exact⟨(p.a.c hb p.a.f).a 1 _ rfl,V,(hX.c O ω).a 0 _ rfl,(hX.c O ω).a 1 _ rfl⟩
 have n:=ah G;have s:Hid ((w.alloc (.cells #[J k,.string m] 111))=w.heap.size+1):=by simp[Hid]
 obtain⟨Z,e2,e3,e4⟩:=P.out _ (yi _ _);by_cases Q:pl.length<lim
 .have T:pl.length<lim:=ω;rw[if_pos Q];go_enter func104,ntmps104;go_wp21;generalize w.alloc _=W at P n s Z e2 e3 e4⊢;go_quiet (fail);go_wp21;have t:Hid (Below (w.heap.size+1) W (W.drewN nq)):=below_drewN (yi _ _) nq;have v:Hid ((W.drewN nq)=w.heap.size+1):=by have:=s.out;simp[Hid,this]
  generalize W.drewN nq=l at t v⊢;have B:Hid (cY l Fn gb pv lim pl nv/\Below w w l):=⟨N.out.c (n.out.trans (t.out.mono ω)),n.out.trans (t.out.mono ω)⟩;have r:Hid (∀d,Below l l d->ε d gb 2 (.slice C pl.length E)/\ε d w 0 (J k)/\ε d w 1 (.string m)):=λd O=>(P.out d (t.out.trans (O.mono (by rw[v.out];omega)))).2;have X:Hid (∀g,nv.ownBlock=some g->g<w):=λg hg=>N.out.b.k hg;subst hv;refine gl.b (λd=>ε d gb 2 (.slice C pl.length E)/\ε d w 0 (J k)/\ε d w 1 (.string m)) 10 rfl (r.out _ (yi _ _).drew) λa=>?_;(iterate 6 refine χ ?_);refine te 6 λK o=>?_;go_simp;have j:Hid (Below l l (l.alloc (.cells #[J k,.string m] 111)).drew):=((yi _ _).alloc (yb _) _).drew;refine o.out _ _ (λ_=>r.out _ j) λa=>?_;have HE:Hid (af (l.alloc (.cells #[J k,.string m] 111)).drew l 111 #[J k,.string m]):=(af.d l l rfl 111 _).i;have F:Hid ((l.alloc (.cells #[J k,.string m] 111)).drew=l.heap.size+1):=by simp[Hid]
  generalize (l.alloc (.cells #[J k,.string m] 111)).drew=w4 at j HE F a⊢;refine te 7 λK o=>?_;refine step_append_lies w4 rfl (.tmp 18) (.tmp 20) 92 rfl 0 111 i0 _ 2 24 underlying92 a4 a1 a3 a0 rfl θ (.slice C pl.length E) pl.length (ar pl) rfl (aQ B.out.1.b.d j) (aT l 0) 1 1 [J k,.string m] rfl rfl (IZ HE) (by intro u hu;simp only[yF,yU,or_false]at hu;rcases hu with rfl|rfl<;>rfl) ω (by simp[maxLen];omega) ω (oI _) (l.heap.size+1) F ?_;intro g H M A f b U;have Y:=B.out.1.e;have L:=yg B.out.1.a.f j.out.size;have I:Hid (ε M gb 2 (.slice C pl.length E)/\ε M w 0 (J k)/\ε M w 1 (.string m)):=by
   have h4:=r.out _ j.out;have S:w.heap.size<w4:=by have:=j.out.size;rw[v.out]at this;omega
   have nx:some w.heap.size≠(Value.slice C pl.length E).ownBlock:=λe=>by have:=X.out _ e.symm;omega
   exact⟨(f.cell_far ⟨gb,2,none⟩ L Y).trans h4.1,(f.cell_far ⟨w.heap.size,0,none⟩ S nx).trans h4.2.1,(f.cell_far ⟨w.heap.size,1,none⟩ S nx).trans h4.2.2⟩
  have q:af M gb 97 #[pv,J lim,.slice C pl.length E]:=(f.block gb L Y).trans (B.out.1.a.c j.out B.out.1.a.f);have y:g≠gb:=by rcases b with b|b;exact λe=>Y (by rw[<-e];exact b.symm);have:=B.out.1.a.f;omega
  have z:Hid (cW (λx=>Fn x\/x=gb) w (M.setCell ⟨gb,2,none⟩ (sT g (pl.length+1) H))/\cY (M.setCell ⟨gb,2,none⟩ (sT g (pl.length+1) H)) (aY Fn w) gb pv lim (pl++[(k,m)]) (sT g (pl.length+1) H)):=by
   have R:=B.out.2;have i:=R.trans (j.out.mono R.size);refine⟨⟨f.os.trans i.os,f.tape.trans i.tape,f.output.trans i.output,by simpa using yr i.size f.size,λx hx hF=>?_⟩,q.e 2 _,⟨?_,λg' D=>?_⟩⟩;rw[yT _ _ _ _ λe=>hF (.inr e)];exact(f.block x (yg hx i.size) λe=>hF (.inl (N.out.b.c x e.symm))).trans (i.block x hx)
   .rw[yC,kQ];refine aj A λg' D=>?_;have:g'=g:=by simpa[Value.ownBlock]using D.symm
    subst this;exact yT _ _ _ _ y
   have:g'=g:=by simpa[Value.ownBlock]using D.symm
   subst this;rcases b with b|b;exact .inl (N.out.b.c _ b);exact .inr (by rw[b,v.out];omega)
  have a5:=q.b 2;refine o.out _ _ (λ_=>I.out) λa=>?_;have a:=a θ;refine te 8 λK o=>?_;go_simp;refine o.out _ _ (λ_=>I.out) λa=>?_;refine te 9 λK o=>?_;go_simp;refine o.out _ _ (λ_=>I.out) λa=>?_;have a:=a θ;refine te 10 λK o=>?_;go_simp;refine o.out _ _ (λh=>absurd rfl h) λ_=>?_;refine gl.done κ ?_ _;go_wp21;go_end0;exact⟨rfl,z.out.1,_,z.out.2⟩
 have T:¬(pl.length:Int)<(lim:Int):=ω;rw[if_neg Q];go_enter func104,ntmps104;go_wp21;generalize w.alloc (.cells #[J k,.string m] 111)=W at P n s Z e2 e3 e4⊢;go_quiet (fail);go_wp21;go_end0;exact⟨rfl,cW.d (below_drewN n.out _),nv,(N.out.c (below_drewN n.out _)).d aY.c⟩
end
variable {Fn:ϑ}{gb:Nat}{pv:Θ}{lim:Nat}{pl:List bC}{nv:Θ}
def nT:∀{pl:List bC}{i:Nat}{x:bC},pl[i]?=some x->(ar pl)[i*2]?=some (J x.1)/\(ar pl)[i*2+1]?=some (.string x.2)
 |[],i,x,h=>by cases h
 |y::a,0,x,h=>by simp only[AH,yA]at h;subst h;exact⟨rfl,rfl⟩
 |y::a,i+1,x,h=>by have:=nT (by simpa using h);have e:ar (y::a)=[J y.1,.string y.2]++ar a:=rfl;rw[e,show (i+1)*2=i*2+1+1 by omega];exact this
def kt{F:ϑ}{v:Θ}(r:eB w F 111 2 v pl.length (ar pl)){k:Nat}{x:bC}(l:pl[k]?=some x):∃g d,v=sT g pl.length d/\F g/\g<w.heap.size/\w.cell? ⟨g,k*2,none⟩=some (J x.1)/\w.cell? ⟨g,k*2+1,none⟩=some (.string x.2)/\∃e,w.heap[g]?=some (.cells e 111 (0,0)):=by
 have m:=(ym.1 l).1;rcases r.d.2 with ⟨-,h⟩|⟨g,d,e,h,-,f,-⟩;omega;have b:v.ownBlock=some g:=by rw[h];rfl
 obtain⟨a,c⟩:=nT l;have j:=r.d.cells b _ _ a;have i:=r.d.cells b _ _ c;rw[lu]at j i;exact⟨g,d,h,r.c g b,r.k b,j,i,e,f⟩
def qR(p:cY w Fn gb pv lim pl nv):ϖ 59 #[pT gb 1] w λe a=>ϱ e nv/\a=w.setCell ⟨gb,2,none⟩ (sN):=by have b:=p.a.a 2 _ rfl;have c:=p.a.b 2;simp only[yf,yd,ye]at b;clear p;go_enter func59,ntmps59;go_wp21;go_ret;exact⟨rfl,rfl⟩
def wB(p:cY w Fn gb pv lim pl nv)(k:Nat)(x:bC)(b:pl[k]?=some x):ϖ 135 #[pT gb 1,J k] w λe j=>ϱ e (.tuple #[.string x.2,J 0])/\j=w:=by have a:=(ym.1 b).1;have d:=ah (kq p k a);obtain⟨g,c,f,-,-,n,m,-⟩:=kt p.b b;have l:=p.a.a 2 _ rfl;simp only[yf,yd,ye,f]at l;have i:0<=k:=ω;have h:k<pl.length:=ω;clear p b;go_enter func135,ntmps135;go_wp21;refine d.out.mono ?_;rintro e o⟨rfl,rfl⟩;go_wp21;go_ret2;exact⟨rfl,rfl⟩
def zr(p:cY w Fn gb pv lim pl nv)(q:pl.length<=1000000)(k:Nat)(x:bC)(d:pl[k]?=some x):ϖ 125 #[pT gb 1,J k] w λe j=>ϱ e (J 0)/\cW (λx=>Fn x\/x=gb) w j/\∃f,cY j (aY Fn w) gb pv lim (je lim pl x) f:=by have c:=(ym.1 d).1;have i:=ah (kq p k c);have h:=ah (qc p x q);obtain⟨g,l,m,-,-,u,s,-⟩:=kt p.b d;have r:=p.a.a 2 _ rfl;simp only[yf,yd,ye,m]at r;have o:0<=k:=ω;have n:k<pl.length:=ω;clear p d;go_enter func125,ntmps125;go_wp21;refine i.out.mono ?_;rintro e v⟨rfl,rfl⟩;go_wp21;refine h.out.mono ?_;rintro e t⟨rfl,b⟩;have a:=ah b;clear b h i;go_wp21;go_ret;exact⟨rfl,a.out.1,a.out.2⟩
def Ix(w:Δ)(g o c:Nat){a:Array Θ}(h:w.heap[g]?=some (.cells a 111 (0,0)))(i:o+1<a.size):(Builtin.clear_ #[92] 0 #[.slice (some ⟨g,o,none⟩) 1 c]).run prog w=.ok (.tuple #[]) (w.setRow g (a.toList.take o++[Value.int .i64 0,Value.string ⟨#[]⟩]++a.toList.drop (o+2)).toArray):=by
 have b:=run_storeCells_at prog g o 111 [J 0,.string ⟨#[]⟩] 0 a w h (by simp;omega) (by intro v d;simp at d;rcases d with rfl|rfl<;>rfl);have e:(Builtin.zeroCells (Value.agg #[Value.int .i64 0,.string ⟨#[]⟩]).cells 1).toList=[J 0,.string ⟨#[]⟩]:=κ;simp[Builtin.clear_,run_underlying _,(zeroValue111 w),e];simp at b;rw[b];rfl
def bg(a:List bC):(ar a).length=a.length*2:=by
 induction a with
 |nil=>rfl
 |cons x a b=>
  have e:ar (x::a)=[J x.1,.string x.2]++ar a:=rfl;rw[e,yC,b];simp;omega
def fA(a c:List bC):ar (a++c)=ar a++ar c:=by simp[ar]
def tT:∀u∈ar pl,u.oneCell'=true:=by intro u b;unfold ar at b;obtain⟨x,-,a⟩:=Km.1 b;simp at a;rcases a with rfl|rfl<;>rfl
def qT(k:Nat):(ar pl).take (k*2)=ar (pl.take k):=by
 by_cases b:k<=pl.length
 have a:=fA (pl.take k) (pl.drop k);rw[List.take_append_drop]at a;rw[a,List.take_left'];rw[bg,xk];omega;rw[yX (by rw[bg];omega),yX ω]
def qS(k:Nat):(ar pl).drop (k*2)=ar (pl.drop k):=by
 by_cases b:k<=pl.length
 have a:=fA (pl.take k) (pl.drop k);rw[List.take_append_drop]at a;rw[a,List.drop_left'];rw[bg,xk];omega;rw[Lf (by rw[bg];omega),Lf ω];rfl
def oq{P:Program}{b:Array Oper}{o:Oper}{a:Act}{w d:Δ}{K:Act->Ξ}{Q:Exit->Act->Ξ}{E:Prop}(c:o.guard=none)(s x:Operand)(t:TypeId)(j:o.op=.call {callee:=.builtin .append,args:=#[s,x],argTypes:=#[t,t]})(v u r:Θ)(i:a.eval s=v)(e:a.eval x=u)(g:(Builtin.append_ #[t,t] o.type #[v,u]).run P w=.ok r d)(h:K (a.put o.dst r) d):if Region.wanted o (yielded b a.tmps)=true then Oper.wp P o a w K Q else E:=by
 have f:Region.wanted o (yielded b a.tmps)=true:=by simp[Region.wanted,c]
 rw[if_pos f];unfold Oper.wp execOp;simp only[j,resolve,invoke,builtin,Sem.run_bind,Sem.run_pure,Result.andThen_ok,Fj,yN,Cx,i,e,g];exact h
def BU{g a:Nat}(r:eB w Fn 111 2 (sT g pl.length a) pl.length (ar pl))(k:Nat)(hk:k<pl.length)(hl:pl.length<=1000000):ϖ 114 #[sT g pl.length a,J k,J (k+1:Nat)] w λe d=>ϱ e (sT g (pl.length-1) a)/\w.grownBy d (some g)/\eB d Fn 111 2 (sT g (pl.length-1) a) (pl.eraseIdx k).length (ar (pl.eraseIdx k)):=by
 obtain⟨i0,Y,a6,C,a5⟩:=info_parts tP;obtain⟨c,N,F,o,v,t⟩:∃c:Array Θ,pl.length<=a/\a<=maxLen/\w.heap[g]?=some _/\c.size=a*2/\c.toList.take _=ar pl:=by rcases r.d.2 with ⟨m,-⟩|⟨g',Z,c,m,-,T,N,F,v,t⟩;cases m;injection m with m _ H;injection m with m;injection m with m;subst m H;exact⟨c,N,F,T,v,t⟩
 have E:Fn g:=r.c g rfl;obtain⟨b,O,G,P⟩:∃b:Array Θ,b=(c.toList.take (k*2)++ar (pl.drop (k+1))++c.toList.drop (k*2+(ar (pl.drop (k+1))).length)).toArray/\b.size=a*2/\b.toList.take ((pl.length-1)*2)=ar (pl.eraseIdx k):=by
  refine⟨_,rfl,?_,?_⟩
  .have h1:=bg (pl.drop (k+1));have H:c.toList.length=a*2:=by rw[AG,v]
   simp at*;omega
  have h3:c.toList.take (k*2)=ar (pl.take k):=by rw[<-qT,<-t,List.take_take];congr 1;omega
  rw[h3,List.eraseIdx_eq_take_drop_succ,fA];rw[List.take_left'];rw[yC,bg,bg,xk,I5];omega
 have y:Hid (∀d U V,d.heap[g]?=some (.cells c 111 (0,0))->(∃s,∃A:Addr,(if a=k+1 then some (⟨g,0,none⟩:Addr) else some ⟨g,(k+1)*2,none⟩)=some A/\(Builtin.append_ #[92,92] U #[sT g k a,.slice (some A) (pl.length-(k+1)) V]).run prog d=.ok (sT g (pl.length-1) a) s/\d.grownBy s (some g)/\s.heap[g]?=some (.cells b 111 (0,0)))):=λd U V i=>by
  obtain⟨A,X,L⟩:∃A:Addr,(if a=k+1 then some (⟨g,0,none⟩:Addr) else some ⟨g,(k+1)*2,none⟩)=some A/\∀j u,(ar (pl.drop (k+1)))[j]?=some u->d.cell? (A.add j)=some u:=by
   by_cases z:a=k+1
   refine⟨_,if_pos z,λj u I=>?_⟩;have m:pl.drop (k+1)=[]:=Lf ω;rw[m]at I;cases I;refine⟨_,if_neg z,λj u I=>?_⟩;have hj:=(ym.1 I).1;rw[bg,I5]at hj;rw[<-qS,List.getElem?_drop,<-t,List.getElem?_take,if_pos ω]at I;rw[Addr.add_lit,cell_of_row d g _ c 111 (0,0) i];rw[<-Array.getElem?_toList];exact I
  have f:=run_append_room (P:=prog) d 92 U 111 i0 underlying92 Y g k a c i A (pl.length-(k+1)) V (ar (pl.drop (k+1))) (by rw[bg,I5,C]) L tT ω (by rw[bg,I5,C,v];omega);rw[C,<-O,show k+(pl.length-(k+1))=pl.length-1 by omega]at f;exact⟨_,A,X,f,⟨rfl,rfl,rfl,by simp[World.setRow],λx _ D=>setRow_other _ _ _ _ λe=>D (by rw[e])⟩,setRow_heap d g _ _ 111 _ i⟩
 have R:Hid (∀d,d.heap[g]?=some (.cells b 111 (0,0))->∃s,(Builtin.clear_ #[92] 0 #[.slice (some ⟨g,(pl.length-1)*2,none⟩) 1 (a-(pl.length-1))]).run prog d=.ok (.tuple #[]) s/\d.grownBy s (some g)/\s.ownsRow 0 111 2 (sT g (pl.length-1) a) (pl.eraseIdx k).length (ar (pl.eraseIdx k))):=λd i=>by
  have q:(pl.eraseIdx k).length=pl.length-1:=by rw[List.length_eraseIdx,if_pos hk]
  refine⟨_,Ix d g ((pl.length-1)*2) (a-(pl.length-1)) i ω,⟨rfl,rfl,rfl,by simp[World.setRow],λx _ D=>setRow_other _ _ _ _ λe=>D (by rw[e])⟩,⟨by rw[bg],.inr ⟨g,a,_,by rw[q],oI _,setRow_heap d g _ _ 111 _ i,by rw[q];omega,F,?_,?_⟩⟩⟩
  .have H:b.toList.length=a*2:=by rw[AG,G]
   simp;omega
  have H:b.toList.length=a*2:=by rw[AG,G]
  rw[q,<-P,I3,List.take_left'];rw[xk,H];omega
 have a0:=ah ((yk.1 o).1);have b3:(0:Int)<=(k:Int):=ω;have b2:(k:Int)<=((k+1:Nat):Int):=ω;have b4:((k+1:Nat):Int)<=(pl.length:Int):=ω;have b6:(pl.length:Int)<=(a:Int):=ω;have a9:¬(k:Int)=((k+1:Nat):Int):=ω;have b0:(k:Int)+1<=(pl.length:Int):=ω;have a1:(0:Int)<=(k:Int)+1:=ω;have a8:(k:Int)<=(a:Int):=ω;go_enter func114,ntmps114;go_wp21;have a4:((k:Int)==(k:Int)+1)=false:=by rw[beq_eq_false_iff_ne];omega
 refine wp_region_held_drew (S:=λ_=>True) rfl trivial λn=>?_;(iterate 6 refine ψ ?_);obtain⟨s,A,X,f,l,S⟩:=y.out w.drew 92 (a-(k+1)) (ah o);rw[X];refine we 6 λK hK=>?_;refine oq rfl (.tmp 22) (.tmp 25) 92 rfl _ _ _ rfl rfl f ?_;refine hK.out _ _ trivial λn=>?_;refine wpAnyH_take (i:=7) (v:=?v7_7) rfl κ κ κ (λ_ _ _ h=>h) (Or.inl ⟨by rfl,?y7_7⟩) (by assumption) ?r7_7
 case y7_7=>(intro d W;(try dsimp only at W);go_simp;(try with_reducible rfl))
 refine wpAnyH_done κ ?_ _;obtain⟨w3,b1,Q,p⟩:=R.out s S;have M:=ah p;have b5:(0:Int)<=((pl.length-1:Nat):Int):=ω;have a7:((pl.length-1:Nat):Int)<=(pl.length:Int):=ω;have a3:(pl.length:Int)<=(a:Int):=ω;have a2:pl.length-(pl.length-1)=1:=ω;go_wp21;go_ret;exact⟨rfl,(ah ((⟨l.os,l.tape,l.output,l.size,l.block⟩:w.grownBy s (some g)).trans Q)),M,λg' i=>by
  have:g'=g:=by simpa[Value.ownBlock]using i.symm
  rw[this];exact E⟩
def IR{w:Δ}{X:Nat}{T:TypeId}{f d:Θ}(h:af w X T #[f,d])(a b:Θ):af ((w.setCell ⟨X,0,none⟩ a).setCell ⟨X,1,none⟩ b) X T #[a,b]/\ej X w ((w.setCell ⟨X,0,none⟩ a).setCell ⟨X,1,none⟩ b):=by
 have e:=h.e 0 a;have c:=e.e 1 b;exact⟨c,((ej.d X w).a 0 a).a 1 b⟩
def qd(p:cY w Fn gb pv lim pl nv)(hl:pl.length<=1000000)(k:Nat)(x:bC)(V:pl[k]?=some x):ϖ 73 #[pT gb 1,J k] w λe w'=>ϱ e (.tuple #[.agg #[J x.1,.string x.2],J 0])/\cW (λy=>Fn y\/y=gb) w w'/\∃P,cY w' Fn gb pv lim (pl.eraseIdx k) P:=by
 have C:=(ym.1 V).1;obtain⟨f,d⟩:=x;simp only;obtain⟨g,a,hv,S,H,d0,d1,-⟩:=kt p.b V;subst hv;have T:g≠gb:=λe=>p.e (by rw[<-e];rfl);have c:Below w w (w.alloc (.cells #[J 0,.string ⟨#[]⟩] 111)):=(yi _ _).alloc (yb _) _;have HH:=ah (kq (p.c c) k C);have M:=ah p;have W:=ah c;have R:Hid (af (w.alloc (.cells #[J 0,.string ⟨#[]⟩] 111)) w.heap.size 111 #[J 0,.string ⟨#[]⟩]):=af.d w w.heap.size rfl 111 _;have c2:=(p.c c).a.a 2 _ rfl;have e0:=(c.cell H).trans d0;have e1:=(c.cell H).trans d1;simp only[yf,yd,ye]at c2;have a6:0<=k:=ω;have a5:k<pl.length:=ω;have a4:wrap64 ((k:Int)+1)=((k+1:Nat):Int):=by unfold wrap64;omega
 have a3:Hid ((w.alloc (.cells #[J 0,.string ⟨#[]⟩] 111)).heap.size=w.heap.size+1):=by simp[Hid]
 have a1:Hid ((pl.eraseIdx k).length=pl.length-1):=by rw[Hid,List.length_eraseIdx,if_pos C]
 clear p c d0 d1 V;go_enter func73,ntmps73;go_wp21;refine HH.out.mono ?_;rintro e w1⟨rfl,Y⟩;subst Y;have a2:g≠w.heap.size:=ω;have a0:=M.out.a.f;have B:Hid (af ((w.alloc (.cells #[J 0,.string ⟨#[]⟩] 111)).alloc (.cells #[J f,.string d] 111)) (w.heap.size+1) 111 #[J f,.string d]):=af.d _ _ ς 111 _;have q:Below w w ((w.alloc (.cells #[J 0,.string ⟨#[]⟩] 111)).alloc (.cells #[J f,.string d] 111)):=W.out.alloc ς _;have A:=ah q;have i:Hid (af ((w.alloc (.cells #[J 0,.string ⟨#[]⟩] 111)).alloc (.cells #[J f,.string d] 111)) w.heap.size 111 #[J 0,.string ⟨#[]⟩]):=R.out.g _;have D:=(M.out.c q).a.a 2 _ rfl;simp only[yf,yd,ye]at D;have r:Hid (((w.alloc (.cells #[J 0,.string ⟨#[]⟩] 111)).alloc (.cells #[J f,.string d] 111)).heap.size=w.heap.size+1+1):=by simp[Hid]
 have h:((k+1:Nat):Int)=k+1:=ω;have O:=ah (h▸BU (M.out.c q).b k C hl);clear q HH h;go_wp21;generalize ((w.alloc _).alloc _)=w2 at B A i D r O⊢;refine O.out.mono ?_;rintro e j⟨rfl,E,u⟩;have o:∀y,y<w2.heap.size->y≠g->j.heap[y]?=w2.heap[y]?:=λy G U=>E.block y G (λe=>U (by injection e));have I:af j w.heap.size 111 #[J 0,.string ⟨#[]⟩]:=(o _ (by rw[r.out];omega) ω).trans i.out;have F:af j (w.heap.size+1) 111 #[J f,.string d]:=(o _ (by rw[r.out];omega) ω).trans B.out;have s:af j gb 97 #[pv,J lim,sT g pl.length a]:=(o gb (by rw[r.out];omega) T.symm).trans (M.out.c A.out).a;have f2:=s.b 2;have b2:=s.a 2 _ rfl;have v:=s.e 2 (sT g (pl.length-1) a);have n:ej gb j (j.setCell ⟨gb,2,none⟩ (sT g (pl.length-1) a)):=(ej.d _ _).a _ _;have l:af (j.setCell ⟨gb,2,none⟩ (sT g (pl.length-1) a)) (w.heap.size+1) 111 #[J f,.string d]:=(n.block _ ω).trans F;have b:Hid (af (j.setCell ⟨gb,2,none⟩ (sT g (pl.length-1) a)) w.heap.size 111 #[J 0,.string ⟨#[]⟩]):=(n.block _ ω).trans I;have r0:=l.a 0 _ rfl;have r1:=l.a 1 _ rfl;have g0:=b.out.b 0;have g1:=b.out.b 1;have q0:=b.out.a 0 _ rfl;have q1:=b.out.a 1 _ rfl;simp only[yf,yd,ye]at r0 r1 q0 q1 b2;have m:Hid (cY (j.setCell ⟨gb,2,none⟩ (sT g (pl.length-1) a)) Fn gb pv lim (pl.eraseIdx k) (sT g (pl.length-1) a)):=⟨v,u.i λK z=>n.block K (λe=>by
  have:K=g:=by simpa[Value.ownBlock]using z.symm
  omega)⟩
 have t:Hid (cW (λy=>Fn y\/y=gb) w (j.setCell ⟨gb,2,none⟩ (sT g (pl.length-1) a))):=(cW.d A.out).c ((cW.f E λy G=>by injection G with G;subst G;exact .inl (.inl S)).c (cW.i n (.inl (.inl (.inr rfl)))));clear o I F s v n l E u O B i D;go_wp21;generalize j.setCell ⟨gb,2,none⟩ (sT g (pl.length-1) a)=N at b r0 r1 g0 g1 q0 q1 m t⊢;obtain⟨Q,L⟩:=IR b.out (J f) (.string d);have X:Hid (cW (λy=>Fn y\/y=gb) w ((N.setCell ⟨w.heap.size,0,none⟩ (J f)).setCell ⟨w.heap.size,1,none⟩ (.string d))/\cY ((N.setCell ⟨w.heap.size,0,none⟩ (J f)).setCell ⟨w.heap.size,1,none⟩ (.string d)) Fn gb pv lim (pl.eraseIdx k) (sT g (pl.length-1) a)):=by
  refine⟨t.out.c (cW.i L (.inr (yb _))),(L.block gb ω).trans m.out.a,m.out.b.i λK z=>L.block K λe=>?_⟩;have:K=g:=by simpa[Value.ownBlock]using z.symm
  omega
 generalize ((N.setCell ⟨w.heap.size,0,none⟩ (J f)).setCell ⟨w.heap.size,1,none⟩ (.string d))=w5 at Q L X⊢;have s0:=Q.a 0 _ rfl;have Z:=Q.a 1 _ rfl;simp only[yf,yd,ye]at s0 Z;(try simp only[Exit.inBlock,Exit.then]);refine bodyPost_ret (v:=.tuple #[.agg #[J f,.string d],J 0]) (by simp[results,results73,go_sem,s0,Z]) rfl ?_;exact⟨rfl,X.out.1,_,X.out.2⟩
variable {cs:List bC}
section
def GE(p:PA w F b h kn l evs snt kb mb rbs es clk ev sv):ϖ 103 #[pT b 0] w λe i=>ϱ e sv/\ej b w i/\PA i F b h kn l evs [] kb mb rbs es clk ev (sN)/\eB i F 111 2 sv snt.length (ar snt):=by
 have f:=p.a.z 18;have o:=p.a.b 18;simp only[Hd.c,yf,yd,ye]at f;have c:ej b w (w.setCell ⟨b,18,none⟩ (sN)):=(ej.d _ _).a _ _;have a:∀{e:TypeId}{k:Nat}{v:Θ}{n:Nat}{j:List Θ},eB w F e k v n j->e≠159->eB _ F e k v n j:=λr q=>r.i λg d=>c.block g (r.o d p.a q);have s:Hid (ej b w (w.setCell ⟨b,18,none⟩ (sN))/\PA (w.setCell ⟨b,18,none⟩ (sN)) F b h kn l evs [] kb mb rbs es clk ev (sN)/\eB (w.setCell ⟨b,18,none⟩ (sN)) F 111 2 sv snt.length (ar snt)):=
  ⟨c,p.p rfl (p.a.e 18 _) (λx _ m _ _=>c.block x m) (a p.c θ) ⟨y9 _ _ _ _,λg d=>by cases d⟩,a p.f θ⟩
 go_enter func103,ntmps103;go_wp21;go_ret;exact⟨rfl,s⟩
def dO(lim:Nat)(pl:List bC)(cs:List bC):List bC:=cs.foldl (je lim) pl
def tV(a:Nat)(e d:List bC)(c:bC):dO a e (d++[c])=je a (dO a e d) c:=by simp[dO]
def zw(a:Nat)(d:List bC)(c:bC):(je a d c).length<=d.length+1:=by unfold je;split<;>simp
def wP(a:Nat)(e:List bC):∀d:List bC,(dO a d e).length<=d.length+e.length:=by
 induction e with
 |nil=>intro d;exact yb _
 |cons c e f=>
  intro d;have g:=f (je a d c);have i:=zw a d c;simp only[dO,List.foldl_cons,yx]at g⊢;omega
variable {Fn:ϑ}{gb:Nat}{pv:Θ}{lim:Nat}{pl:List bC}{nv:Θ}
def FY(p:PA w F b h kn l evs snt kb mb rbs es clk ev sv)(R:cY w Fn gb pv lim pl nv)(t:∀x,F x->¬Fn x)(H:¬F gb)(hl:pl.length+snt.length<=1000000):ϖ 62 #[pT gb 0,pT b 0] w λe M=>ϱ e (.tuple #[])/\cW (λx=>x=b\/Fn x\/x=gb) w M/\PA M F b h kn l evs [] kb mb rbs es clk ev (sN)/\∃nv',cY M (aY Fn w) gb pv lim (dO lim pl snt) nv':=by
 have O:b≠gb:=λe=>H (e▸p.t);obtain⟨ao,vc,hv⟩:=bG p.f.d;have s:Hid (∀f wr k nv' c,f.heap.size=w.heap.size->eB f F 111 2 sv snt.length (ar snt)->cW (λx=>Fn x\/x=gb) f wr->cY wr (aY Fn f) gb pv lim (dO lim pl (snt.take k)) nv'->snt[k]?=some c->(∃g,ao=some ⟨g,0,none⟩/\wr.cell? ⟨g,k*2,none⟩=some (J c.1)/\wr.cell? ⟨g,k*2+1,none⟩=some (.string c.2))/\∀Z,Below wr wr Z->ϖ 104 #[pT gb 1,.agg #[J c.1,.string c.2]] Z λe Y=>ϱ e (.tuple #[])/\cW (λx=>Fn x\/x=gb) f Y/\∃nv',cY Y (aY Fn f) gb pv lim (dO lim pl (snt.take (k+1))) nv'):=λf wr k nv' c b1 u j m hc=>by
  obtain⟨g,b2,T,Q,a4,c0,N,-⟩:=kt u hc;have a2:ao=some ⟨g,0,none⟩:=by rw[hv]at T;injection T
  have v:wr.heap[g]?=f.heap[g]?:=j.block g a4 (λe=>by rcases e with e|e;exact t g Q e;exact H (e▸Q))
  have S:k<snt.length:=(ym.1 hc).1;refine⟨⟨g,a2,(yq (a:=⟨g,k*2,none⟩) v).trans c0,(yq (a:=⟨g,k*2+1,none⟩) v).trans N⟩,λZ E=>?_⟩;have W:=wP lim (snt.take k) pl;rw[xk]at W;refine(qc (m.c E) c ω).m ?_;rintro Y⟨V,a5,a1⟩;refine⟨rfl,j.c ((cW.d E).c (V.e λx n o=>?_)),a5,?_⟩;rcases o with (o|o)|o;exact .inl (.inl (.inl o));exact .inl (.inr o);exact .inl (.inl (.inr o));rw[Lc,hc];simp;rw[tV];refine a1.d λx n=>?_;rcases n with n|n;exact n;exact .inr (by have:=j.size;have:=E.size;omega)
 have z:Hid (∀f wr nv',ej b w f->PA f F b h kn l evs [] kb mb rbs es clk ev (sN)->cW (λx=>Fn x\/x=gb) f wr->cY wr (aY Fn f) gb pv lim (dO lim pl (snt.take snt.length)) nv'->cW (λx=>x=b\/Fn x\/x=gb) w wr/\PA wr F b h kn l evs [] kb mb rbs es clk ev (sN)/\∃nv',cY wr (aY Fn w) gb pv lim (dO lim pl snt) nv'):=λf wr nv' B hp j m=>by rw[AE]at m;refine⟨(cW.i B (.inl rfl)).c (j.e λx _ n=>.inl (.inr n)),hp.u λx n a3=>j.block x a3 λe=>?_,nv',m.d λx n=>?_⟩;rcases e with e|e;exact t x n e;exact H (e▸n);rcases n with n|n;exact .inl n;exact .inr (by rw[B.size]at n;exact n)
 have HN:Hid (∀f,ej b w f->cY f (aY Fn f) gb pv lim (dO lim pl (snt.take 0)) nv):=λf B=>⟨(B.block gb O.symm).trans R.a,⟨aj R.b.d λg hg=>B.block g λe=>t b p.t (e▸R.b.c g hg),λg hg=>.inl (R.b.c g hg)⟩⟩;subst hv;have a7:Hid (snt.length<=1000000):=by simp only[Hid];omega
 go_enter func62,ntmps62;go_wp2_with fail;refine(ah (GE p)).out.m ?_;rintro f⟨B,hp,u⟩;have HO:=ah B;go_wp2_with fail;go_loopw [9] (λi wr=>∃k:Nat,k<=snt.length/\i=J k/\cW (λx=>Fn x\/x=gb) f wr/\∃nv',cY wr _ gb pv lim (dO lim pl (snt.take k)) nv') λi _=>snt.length-(intOf i).toNat
 case atStart=>exact⟨0,ω,rfl,cW.j _ _,nv,(ah (HN.out f B))⟩
 case round=>
  obtain⟨k,hk,rfl,j,nv',m⟩:=hrel;have b0:=a7.out;by_cases a0:k<snt.length
  .obtain⟨⟨N,c2⟩,P⟩:∃c,snt[k]?=some c:=⟨_,yh a0⟩;obtain⟨⟨g,rfl,e0,e1⟩,q⟩:=s.out f wr k nv' _ HO.out.size (ah u) j m P;simp only at e0 e1 q;have a8:(k:Int)<(snt.length:Int):=ω;have b3:(0:Int)<=(k:Int):=ω;have hX:=af.d wr wr rfl 111 #[J N,.string c2];have I:=hX.z 0;have L:=hX.z 1;have X:Hid (Below wr wr (wr.alloc (.cells #[J N,.string c2] 111))):=(yi _ _).alloc (yb _) _;go_wp2_with fail;generalize wr.alloc (.cells #[J N,.string c2] 111)=Z at X I L⊢;refine gl.b (λM=>ε M wr 0 (J N)/\ε M wr 1 (.string c2)) 4 rfl ⟨I,L⟩ λr=>?_;refine tw 3 ?_;refine te 0 λK y=>?_;go_simp;refine y.out _ _ (λ_=>⟨I,L⟩) λr=>?_;refine te 1 λK y=>?_;go_simp;refine y.out _ _ (λ_=>⟨I,L⟩) λr=>?_;refine te 2 λK y=>?_;go_simp;refine y.out _ _ (λ_=>⟨I,L⟩) λr=>?_;refine te 4 λK y=>?_;go_simp;refine((ah q).out _ X.out.drew).m ?_;rintro Y D;have C:=ah D;go_wp2_with fail;refine y.out _ _ (λh=>absurd rfl h) λ_=>?_;refine gl.done κ ?_ _;go_wp2_with fail;exact⟨⟨k+1,ω,by go_num,C.out.1,C.out.2⟩,by simp[intOf];omega⟩
  have a9:¬(k:Int)<(snt.length:Int):=ω;have S:k=snt.length:=ω;subst S;go_wp2_with fail;go_end0;exact⟨rfl,(ah (z.out f wr nv' HO (ah hp) j m))⟩
end
def LH(c:UInt8)(m:Nat)(h:m<=255):bits .xor .u8 (c.toNat:Int) (IntKind.u8.wrap (m:Int))=((c^^^UInt8.ofNat m).toNat:Int):=by
 have b:IntKind.u8.wrap m=m:=by simp[IntKind.wrap,IntKind.bits,IntKind.signed];omega
 have f:=c.toNat_lt;have e:(BitVec.ofInt 8 c.toNat).toNat=c.toNat:=by rw[BitVec.toNat_ofInt];omega
 have d:(BitVec.ofInt 8 m).toNat=m:=by rw[BitVec.toNat_ofInt];omega
 rw[b];show IntKind.u8.wrap ((BitVec.ofInt 8 c.toNat^^^BitVec.ofInt 8 m).toNat:Nat)=_;have g:c.toNat^^^m<256:=Nat.xor_lt_two_pow f ω;have a:(c^^^UInt8.ofNat m).toNat=c.toNat^^^m:=by rw[UInt8.toNat_xor,UInt8.toNat_ofNat',Nat.mod_eq_of_lt ω]
 rw[BitVec.toNat_xor,e,d,a];simp[IntKind.wrap,IntKind.bits,IntKind.signed];omega
def mG:∀(a:List bC)(k:Nat)(x y:bC),a[k]?=some x->x.1=y.1->(ar a).set (k*2+1) (.string y.2)=ar (a.set k y)
 |[],k,x,y,h,_=>by cases h
 |z::a,0,x,y,h,e=>by simp only[AH,yA]at h;subst h;show [Value.int .i64 z.1,.string y.2]++ar a=[Value.int .i64 y.1,.string y.2]++ar a;rw[e]
 |z::a,k+1,x,y,h,e=>by have:=mG a k x y (by simpa using h) e;show ([Value.int .i64 z.1,.string z.2]++ar a).set _ _=[Value.int .i64 z.1,.string z.2]++ar _;rw[<-this,show (k+1)*2+1=k*2+1+1+1 by omega];rfl
def cP(x:ByteArray)(i m:Nat):ByteArray:=⟨(x.data.toList.set i (x.data.toList.getD i 0^^^UInt8.ofNat m)).toArray⟩
def BI(w:Δ)(x:ByteArray):∃c b,(convert 9 175 (.string x)).run prog w=.ok (sT w x.size c) b/\Below w w b/\(∀j,j<x.size->b.cell? (aT w j)=some (.int .u8 ((x.data.toList.getD j 0).toNat:Int))/\b.frozen? (aT w j)=false):=by
 have h:=run_bytes_of_string w 9 175 5 x underlying9 underlying175 underlying5;refine⟨_,_,h,((yi _ _).drew.alloc (yb _) _),λj f=>?_⟩;have d:(w.drew.alloc _).heap[w.heap.size]?=some (.cells (bytesRow x (grownCap w x.size 0 5)) 5 ((bytesRow x (grownCap w x.size 0 5)).size,(bytesRow x (grownCap w x.size 0 5)).size+1)):=heap_alloc_new w.drew _;have e:x.size<=(bytesRow x (grownCap w x.size 0 5)).size:=by unfold bytesRow;rw[Array.size_append,I1];exact Nat.le_add_right _ _
 refine⟨?_,?_⟩;rw[cell_of_row _ _ j _ 5 _ d];unfold bytesRow;have a:=f;rw[Array.getElem?_append_left (by simpa using a),yw,yl a];simp only[yp,yj,Array.getElem?_toList,yl a,yv];simp only[World.frozen?,d];simp;omega
def qQ(p:cY w Fn gb pv lim pl nv)(k:Nat)(x:bC)(hk:pl[k]?=some x)(i m:Nat)(hi:i<x.2.size)(Y:1<=m)(C:m<=255)(a7:x.2.size<=1000000):ϖ 127 #[pT gb 1,J k,J i,J m] w λe b=>ϱ e (J 0)/\cW Fn w b/\cY b Fn gb pv lim (pl.set k (x.1,cP x.2 i m)) nv:=by
 have a6:=(ym.1 hk).1;obtain⟨S,a⟩:=x;simp only at hi a7⊢;obtain⟨g,b1,R,a1,G,d0,d1,A,M⟩:=kt p.b hk;have HH:=ah (kq p k a6);obtain⟨c,t,Z,z,d⟩:=BI w a;have X:=ah z;have U:=p.a.a 2 _ rfl;simp only[yf,yd,ye,R]at U;have Q:=(d i hi).1;have fi:=(d i hi).2;have W:a.data.toList.length=a.size:=ς;have O:ej w.heap.size t (t.setCell ⟨w.heap.size,i,none⟩ (.int .u8 ((a.data.toList.getD i 0^^^UInt8.ofNat m).toNat:Int))):=(ej.d _ _).a _ _;have F:=z.trans (O.c (yb _));have n:Hid (∀b,Below (t.setCell ⟨w.heap.size,i,none⟩ (.int .u8 ((a.data.toList.getD i 0^^^UInt8.ofNat m).toNat:Int))).heap.size (t.setCell ⟨w.heap.size,i,none⟩ (.int .u8 ((a.data.toList.getD i 0^^^UInt8.ofNat m).toNat:Int))) b->(convert 175 9 (sT w a.size c)).run prog b=.ok (.string (cP a i m)) b):=λb v=>by
  have a3:w.heap.size<(t.setCell ⟨w.heap.size,i,none⟩ (.int .u8 ((a.data.toList.getD i 0^^^UInt8.ofNat m).toNat:Int))).heap.size:=by have:=yI t _ Q;simpa using this
  have L:(a.data.toList.set i (a.data.toList.getD i 0^^^UInt8.ofNat m)).length=a.size:=ς;have:=run_convert_bytes_back (P:=prog) b 175 9 5 ⟨w.heap.size,0,none⟩ c (a.data.toList.set i (a.data.toList.getD i 0^^^UInt8.ofNat m)) underlying175 underlying5 underlying9 (λj hj=>by rw[L]at hj;rw[lu,(v.cell (p:=(aT w j)) a3)];by_cases e:j=i;subst e;rw[List.getElem_set_self];exact World.cell?_setCell_same t ⟨w.heap.size,j,none⟩ _ Q;rw[List.getElem_set_ne λh=>e h.symm,World.cell?_setCell_other _ _ _ _ (λh=>e (by injection h with _ h;exact h.symm)),(d j hj).1];congr 3;rw[yj,yh (by rw[W];exact hj)];rfl)
  rw[L]at this;exact this
 have l:=LH (a.data.toList.getD i 0) m C;rw[show IntKind.u8.wrap _=m by simp[IntKind.wrap,IntKind.bits,IntKind.signed];omega]at l;have HP:=ah p;have E:g≠gb:=λe=>p.e (by rw[R,<-e];rfl);have c5:¬i<0:=ω;have b4:0<=i:=ω;have c3:¬a.size<=i:=ω;have b8:i<a.size:=ω;have b5:¬m<1:=ω;have b7:¬255<m:=ω;have c6:0<=k:=ω;have c0:k<pl.length:=ω;have a8:=(X.out.cell p.a.f).trans U;have r:=ah F;have c1:g≠w.heap.size:=ω;have I:=ah p.b;have y:Hid (∀b,Below w w b->cW Fn w (b.setCell ⟨g,k*2+1,none⟩ (.string (cP a i m)))/\cY (b.setCell ⟨g,k*2+1,none⟩ (.string (cP a i m))) Fn gb pv lim (pl.set k (S,cP a i m)) nv/\b.frozen? ⟨g,k*2+1,none⟩=false/\b.cell? ⟨g,k*2+1,none⟩=some (.string a)/\ε b gb 2 (sT g pl.length b1)):=λb v=>by
  have hO:ej g b (b.setCell ⟨g,k*2+1,none⟩ (.string (cP a i m))):=(ej.d _ _).a _ _;have D:=p.c v;have f:af b g 111 A:=(v.block g G).trans M;refine⟨(cW.d v).c (cW.i hO (.inl a1)),⟨(hO.block gb E.symm).trans D.a,⟨?_,p.b.c⟩⟩,f.b _,(v.cell (p:=⟨g,k*2+1,none⟩) G).trans d1,(v.cell (p:=(aT gb 2)) p.a.f).trans U⟩;rcases D.b.d.2 with ⟨q,h1⟩|⟨g',B,H,q,b3,a4,V,b0,a9,a2⟩;omega;have a5:g'=g:=by rw[R]at q;injection q with q;injection q with q;injection q with q;exact q.symm
  subst a5;have a0:H=A:=by have T:b.heap[g']?=some (.cells A 111 (0,0)):=f;rw[a4]at T;injection T with T;injection T
  subst a0;refine⟨by rw[bg],.inr ⟨g',B,_,by rw[Ko];exact q,b3,f.e (k*2+1) (.string (cP a i m)),by rw[Ko];exact V,b0,by rw[Array.size_setIfInBounds];exact a9,?_⟩⟩;rw[Ko,Array.toList_setIfInBounds,List.take_set,a2];exact mG pl k (S,a) (S,cP a i m) hk rfl
 clear p d z F O Y C;generalize a.data.toList.getD i 0=bb at Q l n r;generalize bb^^^UInt8.ofNat m=cc at l n r;generalize cP a i m=tx at n y⊢;go_enter func127,ntmps127;go_wp21;refine HH.out.mono ?_;rintro e w0⟨rfl,b2⟩;subst b2;go_wp21;generalize t.setCell ⟨w0.heap.size,i,none⟩ (.int .u8 (cc.toNat:Int))=P at n r⊢;obtain⟨N,u,b6,b9,c7⟩:=y.out P.drew r.out.drew;have HF:Hid (cW Fn w0 (P.setCell ⟨g,k*2+1,none⟩ (.string tx)).drew/\cY (P.setCell ⟨g,k*2+1,none⟩ (.string tx)).drew Fn gb pv lim (pl.set k (S,tx)) nv):=⟨N,u⟩;have c4:=n.out P.drew ((yi _ _).drew);clear N u n y I Z U a8 Q fi l;refine gl.b (λb=>b=P.drew) 9 rfl rfl λo=>?_;(iterate 7 refine χ ?_);refine te 7 λK s=>?_;go_simp;refine s.out _ _ (λ_=>rfl) λo=>?_;clear s K;try simp only[pU]
 refine te 8 λK s=>?_;go_simp;refine s.out _ _ (λ_=>rfl) λo=>?_;clear s K;try simp only[pU]
 refine te 9 λK s=>?_;go_simp;refine s.out _ _ (λh=>absurd rfl h) λ_=>?_;clear s K;try simp only[pU]
 refine gl.done κ ?_ _;go_wp21;go_ret;exact⟨rfl,HF.out.1,R▸HF.out.2⟩
end
section
open Go.RowKit
open Md (PS Vote Bal Lft)
open Go.ChangeMaps (setBlock)
variable {x:Nat}{R':ϑ}{v av:Θ}{l:List Codec.Msg}{L:Option Bal}{avs:List (Θ×Θ)}
section
def eb:Option Nat->Θ
 |none=>.pointer none
 |some x=>pT x 0
def bI(w:Δ)(R:ϑ)(v:Θ)(l:List Codec.Msg):Prop:=
 ((∃ao c,v=.slice ao 0 c)/\l=[])\/
 ∃g cap,v=sT g l.length cap/\g<w.heap.size/\R g/\∀(j:Nat)m,l[j]? =some m->
   ∃tv,w.cell? ⟨g,j*4,none⟩=some (J m.a)/\w.cell? ⟨g,j*4+1,none⟩=some (J m.seq)/\
     w.cell? ⟨g,j*4+2,none⟩=some tv/\w.cell? ⟨g,j*4+3,none⟩=some (.string m.b)/\eB w R 3 1 tv m.c.length (ints m.c)
abbrev aE(w:Δ)(R:ϑ)(v:Θ)(l:Υ):Prop:=eB w R 3 1 v l.length (ints l)
def jo(R R':ϑ)(w w':Δ):Prop:=w.heap.size<=w'/\∀g,R g->g<w.heap.size->R' g/\w'.heap[g]?=w.heap[g]?
def eB.f{w c:Δ}{R:ϑ}{e:TypeId}{f:Nat}{n:Nat}{b:List Θ}(h:eB w R e f v n b)(d:jo R R' w c):eB c R' e f v n b:=
 ⟨aj h.d λg a=>(d.2 g (h.c g a) (h.k a)).2,λg a=>(d.2 g (h.c g a) (h.k a)).1⟩
def bI.c{w f:Δ}{R:ϑ}(h:bI w R v l)(c:jo R R' w f):bI f R' v l:=by rcases h with h|⟨g,b,p,e,s,o⟩;exact .inl h;obtain⟨d,a⟩:=c.2 g s e;refine .inr ⟨g,b,p,yg e c.1,d,λj m n=>?_⟩;obtain⟨u,k,t,r,i,q⟩:=o j m n;exact⟨u,(World.cell?_of_block a).trans k,(World.cell?_of_block a).trans t,(World.cell?_of_block a).trans r,(World.cell?_of_block a).trans i,q.f c⟩
def bI.at{w:Δ}{R:ϑ}(h:bI w R v l):ba w w v l:=by rcases h with h|⟨g,a,i,f,q,e⟩;exact .inl h;refine .inr ⟨g,0,a,i,f,λj m d=>?_⟩;obtain⟨p,c,o,n,b,k⟩:=e j m d;simp only[yS];exact⟨p,c,o,n,b,aX k.d⟩
def bF:List (Υ×Vote)->List (Θ×Θ)->List Θ
 |a::l,v::vs=>[v.1,J a.2.b,J a.2.m,v.2]++bF l vs
 |_,_=>[]
def bV:List Lft->List (Θ×Θ)->List Θ
 |a::l,v::vs=>[J a.m,v.1,v.2]++bV l vs
 |_,_=>[]
def bu(B:Bal)(av:Θ):Array Θ:=#[J B.g,.bool B.e,J B.out,J B.a,J B.c,J B.d,av]
structure fD(w:Δ)(R:ϑ)(B:Bal)(x:Nat)(av:Θ)(avs:List (Θ×Θ)):Prop where
 c:af w x 234 (bu B av)
 f:avs.length=B.i.length
 d:w.ownsRow 0 237 4 av B.i.length (bF B.i avs)
 e:∀(i:Nat)a v,B.i[i]?=some a->avs[i]?=some v->aE w R v.1 a.1/\aE w R v.2 a.2.a
def iV(w:Δ)(R:ϑ)(lb:Option Nat)(L:Option Bal)(av:Θ)(avs:List (Θ×Θ)):Prop:=match lb,L with
 |none,none=>True
 |some x,some B=>fD w R B x av avs
 |_,_=>False
def iV.cases{w:Δ}{R:ϑ}{a:Option Nat}(h:iV w R a L av avs):(a=none/\L=none)\/∃x B,a=some x/\L=some B/\fD w R B x av avs:=by unfold iV at h;split at h;exact .inl ⟨rfl,rfl⟩;exact .inr ⟨_,_,rfl,rfl,h⟩;exact h.elim
structure tg(w:Δ)(R:ϑ)(L:List Lft)(lf:Θ)(lvs:List (Θ×Θ)):Prop where
 f:lvs.length=L.length
 d:w.ownsRow 0 249 3 lf L.length (bV L lvs)
 e:∀(i:Nat)a v,L[i]?=some a->lvs[i]?=some v->aE w R v.1 a.a/\bI w R v.2 a.b
structure Pl where
 l:aL
 kb:Nat
 m:Nat
 k:List Nat
 n:Array MapEntry
 j:Nat
 g:Θ
 d:Θ
 h:Θ
 c:Option Nat
 e:Θ
 a:List (Θ×Θ)
 i:Θ
 f:List (Θ×Θ)
def Pl.X(o:Pl)(x:Nat):Prop:=o.c=some x\/(o.c.isSome/\o.e.ownBlock=some x)\/o.i.ownBlock=some x
def Pl.U(o:Pl)(b x:Nat):Prop:=x=b\/x=o.m\/x∈o.k\/o.g.ownBlock=some x\/o.d.ownBlock=some x
def Pl.M(o:Pl)(b x:Nat):Prop:=o.U b x\/o.X x
def zc(S:PS)(vc lf:Θ)(lb:Option Nat):Hd:=⟨S.c,S.n,S.r,S.f,S.out,S.h,S.b,S.m,S.k,S.g,S.a.b,S.a.m,vc,eb lb,lf⟩
def Pl.q(o:Pl)(S:PS):Hd:=zc S o.h o.i o.c
def Pl.R(o:Pl)(F:ϑ)(b x:Nat):Prop:=F x/\¬o.M b x
structure PP(w:Δ)(F:ϑ)(b:Nat)(S:PS)(o:Pl):Prop where
 e:PA w F b (o.q S) S.q o.l S.j (S.e.map lF) o.kb o.m o.k o.n o.j o.g o.d
 ms:o.l.map Prod.fst=S.o
 fx:∀x,o.X x->F x
 up:∀x,w.heap.size<=x->F x
 vote:aE w (o.R F b) o.h S.a.a
 lead:iV w (o.R F b) o.c S.d o.e o.a
 left:tg w (o.R F b) S.i o.i o.f
structure To(w:Δ)(F:ϑ)(b:Nat)(o:Pl)(w':Δ)(S':PS)(o':Pl):Prop where
 c:PP w' F b S' o'
 e:cW (o.M b) w w'
 h:∀x,o'.M b x->o.M b x\/w.heap.size<=x
abbrev Do(f:FuncId)(args:Array Θ)(v:Θ)(w:Δ)(F:ϑ)(b:Nat)(o:Pl)(S':PS):Prop:=
 ϖ f args w λe w'=>ϱ e v/\∃o',To w F b o w' S' o'
def To.a{w e d:Δ}{F:ϑ}{b:Nat}{o f i:Pl}{j g:PS}(h:To w F b o e j f)(k:To e F b f d g i):To w F b o d g i:=
 ⟨k.c,h.e.c (k.e.e λx _ a=>h.h x a),λx a=>by rcases k.h x a with c|c;exact h.h x c;exact .inr (yr h.e.size c)⟩
def To.d{w c:Δ}{F:ϑ}{b:Nat}{o d:Pl}{f:PS}(h:To w F b o c f d):jo (o.R F b) (d.R F b) w c:=
 ⟨h.e.size,λg a i=>⟨⟨a.1,λj=>(h.h g j).elim a.2 λe=>ω⟩,h.e.block g i a.2⟩⟩
def fD.g{w b:Δ}{R:ϑ}{B:Bal}(h:fD w R B x av avs)(c:jo R R' w b)(f:b.heap[x]?=w.heap[x]?)(j:∀g,av.ownBlock=some g->b.heap[g]?=w.heap[g]?):fD b R' B x av avs:=
 ⟨f.trans h.c,h.f,aj h.d j,λi a v e d=>⟨(h.e i a v e d).1.f c,(h.e i a v e d).2.f c⟩⟩
def tg.c{w d:Δ}{R:ϑ}{L:List Lft}{c:Θ}{b:List (Θ×Θ)}(h:tg w R L c b)(e:jo R R' w d)(k:∀g,c.ownBlock=some g->d.heap[g]?=w.heap[g]?):tg d R' L c b:=
 ⟨h.f,aj h.d k,λi a v j f=>⟨(h.e i a v j f).1.f e,(h.e i a v j f).2.c e⟩⟩
def iV.a{w c:Δ}{R:ϑ}{o:Pl}(h:iV w R o.c L o.e o.a)(e:jo R R' w c)(d:∀x,o.X x->c.heap[x]?=w.heap[x]?):iV c R' o.c L o.e o.a:=by rcases h.cases with ⟨a,b⟩|⟨x,B,a,b,i⟩;rw[a,b];trivial;rw[a,b];exact(i.g e (d x (.inl a)) λg f=>d g (.inr (.inl ⟨by rw[a];rfl,f⟩)))
variable {w w':Δ}{F:ϑ}{b:Nat}{S S':PS}{o o':Pl}
def PP.q(p:PP w F b S o)(i:o.X x):∃a t,w.heap[x]?=some (.cells a t (0,0))/\(t=234\/t=237\/t=249):=by
 have f:∀{e s:Nat}{v:Θ}{n:Nat}{r:List Θ},w.ownsRow 0 e s v n r->v.ownBlock=some x->∃a,w.heap[x]?=some (.cells a e (0,0)):=λj g=>by rcases j.2 with ⟨m,-⟩|⟨u,k,a,rfl,-,d,-⟩;rw[m]at g;cases g;cases g;exact⟨a,d⟩
 rcases i with c|⟨c,q⟩|c
 .rcases p.lead.cases with ⟨e,-⟩|⟨y,B,e,-,h⟩<;>rw[e]at c<;>cases c;exact⟨_,_,h.c,.inl rfl⟩
 rcases p.lead.cases with ⟨e,-⟩|⟨y,B,e,-,h⟩;rw[e]at c;cases c;obtain⟨a,d⟩:=f h.d q;exact⟨a,_,d,.inr (.inl rfl)⟩;obtain⟨a,d⟩:=f p.left.d c;exact⟨a,_,d,.inr (.inr rfl)⟩
def PP.r(p:PP w F b S o)(f:o.U b x):(∃g e,w.heap[x]?=some (.map g e))\/∃a t,w.heap[x]?=some (.cells a t (0,0))/\(t=159\/(t=3/\x∈o.k)\/t=64\/t=111):=by rcases f with rfl|rfl|c|c|c;exact .inr ⟨_,_,p.e.a,.inl rfl⟩;exact .inl ⟨_,_,p.e.map⟩;obtain⟨a,d⟩:=p.e.e.k c;exact .inr ⟨a,_,d,.inr (.inl ⟨rfl,c⟩)⟩;obtain⟨a,d⟩:=p.e.c.m c;exact .inr ⟨a,_,d,.inr (.inr (.inl rfl))⟩;obtain⟨a,d⟩:=p.e.f.m c;exact .inr ⟨a,_,d,.inr (.inr (.inr rfl))⟩
def PP.n(p:PP w F b S o)(a:o.X x):x<w:=by obtain⟨c,t,h,-⟩:=p.q a;exact(yk.1 h).1
def PP.h(p:PP w F b S o)(a:o.M b x):x<w:=a.elim (λh=>by rcases p.r h with ⟨_,_,h⟩|⟨_,_,h,-⟩<;>exact(yk.1 h).1) p.n
def PP.nx(p:PP w F b S o)(e:o.X x):¬o.U b x:=λg=>by obtain⟨f,t,h,d⟩:=p.q e;rcases p.r g with ⟨_,_,a⟩|⟨_,i,a,c⟩<;>rw[h]at a<;>cases a;rcases d with rfl|rfl|rfl<;>simp at c
def PP.mf(p:PP w F b S o)(a:o.M b x):F x:=by rcases a with (rfl|rfl|h|h|h)|h;exact p.e.t;exact p.e.s;exact p.e.fr x h;exact p.e.c.c x h;exact p.e.f.c x h;exact p.fx x h
def PP.a0(p:PP w F b S o){d:Array Θ}{t:TypeId}(h:w.heap[x]?=some (.cells d t (0,0)))(e:(t=3/\x∉o.k)\/t=179\/t=69):¬o.M b x:=λi=>by
 rcases i with j|f
 .rcases p.r j with ⟨_,_,c⟩|⟨_,g,c,a⟩<;>rw[h]at c<;>cases c;rcases e with ⟨rfl,k⟩|rfl|rfl
  simp at a;exact k a;simp at a;simp at a
 obtain⟨_,g,c,a⟩:=p.q f;rw[h]at c;cases c;rcases e with ⟨rfl,-⟩|rfl|rfl<;>simp at a
def PP.a3(p:PP w F b S o){x:Codec.Msg×Θ}(a:x∈o.l):aE w (o.R F b) x.2 x.1.c:=
 ⟨(p.e.d x a).1.d,λg c=>⟨(p.e.d x a).1.c g c,by obtain⟨d,e⟩:=(p.e.d x a).1.m c;exact p.a0 e (.inl ⟨rfl,(p.e.d x a).2 g c⟩)⟩⟩
def PP.step(p:PP w F b S o){S':PS}{G:ϑ}{j:aL}{es':Array MapEntry}{clk':Nat}{c f:Θ}(d:cW (o.U b) w w')(t:∀x,G x->F x\/w<=x)(A:∀g,c.ownBlock=some g->o.g.ownBlock=some g\/w<=g)(B:∀g,f.ownBlock=some g->o.d.ownBlock=some g\/w<=g)(y:PA w' G b (o.q S') S'.q j S'.j (S'.e.map lF) o.kb o.m o.k es' clk' c f)(k:j.map Prod.fst=S'.o)(u:S'.a.a=S.a.a)(z:S'.d=S.d)(q:S'.i=S.i):To w F b o w' S' {o with l:=j,n:=es',j:=clk',g:=c,d:=f}:=by
 have r:∀x,({o with l:=j,n:=es',j:=clk',g:=c,d:=f}:Pl).M b x->o.M b x\/w<=x:=λx a=>by rcases a with (h|h|h|h|h)|h;exact .inl (.inl (.inl h));exact .inl (.inl (.inr (.inl h)));exact .inl (.inl (.inr (.inr (.inl h))));exact(A x h).elim (λh=>.inl (.inl (.inr (.inr (.inr (.inl h)))))) .inr;exact(B x h).elim (λh=>.inl (.inl (.inr (.inr (.inr (.inr h)))))) .inr;exact .inl (.inr h)
 have i:jo (o.R F b) (({o with l:=j,n:=es',j:=clk',g:=c,d:=f}:Pl).R F b) w w':=⟨d.size,λg n m=>⟨⟨n.1,λa=>(r g a).elim n.2 λe=>ω⟩,d.block g m λe=>n.2 (.inl e)⟩⟩;have s:=λx a=>d.block x (p.n a) (p.nx a);refine⟨⟨y.k λx a=>(t x a).elim id (p.up x),k,p.fx,λx a=>p.up x (yr d.size a),?_,?_,?_⟩,d.e λx _ a=>.inl a,r⟩;rw[u];exact p.vote.f i;rw[z];exact p.lead.a i λx a=>s x a;rw[q];exact p.left.c i λg m=>s g (.inr (.inr m))
end
section
section
variable {w w':Δ}{F:ϑ}{b:Nat}{h:Hd}{kn:List (Υ)}{l:aL}{evs:List Ev}{snt:List bC}{kb mb:Nat}{rbs:List Nat}{es:Array MapEntry}{clk:Nat}{ev sv:Θ}
def Ez(p:PA w F b h kn l evs snt kb mb rbs es clk ev sv)(X:h.n<=6)(m:Codec.Msg)(t:Option Addr)(y z:Nat)(s:Nat)(hs:s<h.n)(R:m.a=s)(H:∀x∈l,gL m.a m.seq x.1=false)(V:dz h.b kn s m.seq=false)(P:jc h.b s=false):ϖ 254 #[pT b 0,aU m (.slice t y z)] w λe a=>ϱ e (.tuple #[])/\Below w w a:=by
 obtain⟨ms,d,mt,A⟩:=m;simp only at R H V;subst R;have Y:Hid (∀a,Below w w a->ε a b 15 (.map (some mb))/\(Instr.lookup 156 (.map (some mb)) (.agg #[J s,J d]) true).run prog a=.ok (.tuple #[.agg #[J 0,J 0,sN,.string ⟨#[]⟩],.bool false]) a):=λa f=>by refine⟨(World.cell?_of_block (a:=(aT b 15)) (f.block b p.a.f)).trans (p.a.y 15),?_⟩;exact my a s d ((f.block mb p.q).trans p.map) p.o H true
 have U:Hid (Below w w (w.alloc (.cells #[J s,J d,.slice t y z,.string A] 179))):=(Below.refl _ _).alloc (yb _) _;have O:Hid (∀a,Below w w a->ϖ 186 #[pT b 0,.agg #[J s,J d]] a λe a1=>ϱ e (.bool false)/\Below a a a1):=λa f=>by have p':=p.j f;have:=kx b kb h (.map (some mb)) ev sv rbs kn a p'.a p'.e X s hs d;rw[V]at this;exact this
 have I:=p.a.y 7;simp only[Hd.c,yf,yd,ye]at I;have HC:Hid (∀a,Below w w a->ε a b 7 (J h.b)/\ε a b 15 (.map (some mb))/\a.cell? (aT w 0)=a.cell? (aT w 0)):=λa f=>⟨(World.cell?_of_block (a:=(aT b 7)) (f.block b p.a.f)).trans I,(Y.out a f).1,rfl⟩;have S:=af.d w _ rfl 179 #[J s,J d,.slice t y z,.string A];have HX:Hid (∀a,Below (w.heap.size+1) (w.alloc (.cells #[J s,J d,.slice t y z,.string A] 179)) a->ε a w 0 (J s)/\ε a w 1 (J d)/\ε a w 2 (.slice t y z)/\ε a w 3 (.string A)):=λa f=>by have:=S.c f ω;exact⟨this.y 0,this.y 1,this.y 2,this.y 3⟩
 have G:=ah (λa=>by have:=gE h.b s a ω;rw[P]at this;exact this)
 unfold aU;go_enter func254,ntmps254;go_wp21;refine(jR ⟨s,d,mt,A⟩ _ _).m ?_;rintro q r;have j:=ah (U.out.trans (r.mono ς));have Q:Hid (Below (w.heap.size+1) (w.alloc (.cells #[J s,J d,.slice t y z,.string A] 179)) q):=r.mono ς;unfold bQ;simp only;go_wp21;have g:Hid (∀a,Below (q.alloc (.cells #[J s,J d] 186)) (q.alloc (.cells #[J s,J d] 186)) a->Below w w a/\ε a q 0 (J s)/\ε a q 1 (J d)):=λa f=>by have X:=(af.d q q rfl 186 #[J s,J d]).c f ς;exact⟨(j.out.alloc j.out.size _).trans (f.mono (by have:=j.out.size;simp;omega)),X.y 0,X.y 1⟩
 have C:Hid (Below w w (q.alloc (.cells #[J s,J d] 186))):=j.out.alloc j.out.size _;have u:Hid (Below (w.heap.size+1) (w.alloc (.cells #[J s,J d,.slice t y z,.string A] 179)) (q.alloc (.cells #[J s,J d] 186))):=Q.out.alloc (by have:=r.size;simpa using this) _;generalize a3:q.heap.size=E at g⊢;generalize a0:q.alloc _=L at g C u⊢;have W:Hid (∀a,Below L L a->ε a b 15 (.map (some mb))/\(Instr.lookup 156 (.map (some mb)) (.agg #[J s,J d]) true).run prog a=.ok (.tuple #[.agg #[J 0,J 0,sN,.string ⟨#[]⟩],.bool false]) a/\ε a E 0 (J s)/\ε a E 1 (J d)):=λa f=>⟨(Y.out a (g.out a f).1).1,(Y.out a (g.out a f).1).2,(g.out a f).2⟩;refine wp_region_held_drew (S:=λa=>ε a b 15 (.map (some mb))/\(Instr.lookup 156 (.map (some mb)) (.agg #[J s,J d]) true).run prog a=.ok (.tuple #[.agg #[J 0,J 0,sN,.string ⟨#[]⟩],.bool false]) a/\ε a E 0 (J s)/\ε a E 1 (J d)) rfl (W.out _ (Below.refl _ _).drew) λc=>?_;(iterate 9 refine ψ ?_);refine we 9 λK o=>?_;go_simp;refine o.out _ _ (W.out _ ((Below.refl _ _).drew.alloc (yb _) _)) λc=>?_;refine we 10 λK o=>?_;go_simp;refine o.out _ _ (W.out _ ((Below.refl _ _).alloc (yb _) _).drew) λc=>?_;refine wk 11 ?_;refine wpAnyH_done κ ?_ _;have v:Hid (Below w w (L.alloc (.cells #[J 0,J 0,sN,.string ⟨#[]⟩] 179)).drew):=(C.out.alloc C.out.size _).drew;have i:Hid (Below L L (L.alloc (.cells #[J 0,J 0,sN,.string ⟨#[]⟩] 179)).drew):=((Below.refl _ _).alloc (yb _) _).drew;generalize (L.alloc (.cells #[J 0,J 0,sN,.string ⟨#[]⟩] 179)).drew=N at v i⊢;have M:Hid (Below (w.heap.size+1) (w.alloc (.cells #[J s,J d,.slice t y z,.string A] 179)) N):=u.out.trans (i.out.mono (by have:=u.out.size;simpa using this));have k:Hid (∀a,Below N N a->Below w w a/\ε a b 7 (J h.b)/\ε a b 15 (.map (some mb))/\ε a E 0 (J s)/\ε a E 1 (J d)/\ε a w 0 (J s)/\ε a w 1 (J d)/\ε a w 2 (.slice t y z)/\ε a w 3 (.string A)):=λa f=>by have Z:=v.out.trans (f.mono v.out.size);exact⟨Z,(HC.out a Z).1,(HC.out a Z).2.1,(g.out a (i.out.trans (f.mono i.out.size))).2.1,(g.out a (i.out.trans (f.mono i.out.size))).2.2,HX.out a (M.out.trans (f.mono (by have:=M.out.size;simpa using this)))⟩
 go_wp21;refine wp_region_held_drew (S:=λa=>Below w w a/\ε a b 7 (J h.b)/\ε a E 0 (J s)/\ε a E 1 (J d)/\ε a w 0 (J s)) rfl (by have:=k.out _ (Below.refl _ _).drew;exact⟨this.1,this.2.1,this.2.2.2.1,this.2.2.2.2.1,this.2.2.2.2.2.1⟩) λc=>?_;(iterate 4 refine ψ ?_);refine we 4 λK o=>?_;go_simp;refine(O.out _ c.1).m ?_;rintro w5 T;have B:Hid (Below N N w5):=((Below.refl _ _).drew).trans (T.mono ς);go_wp21;refine o.out _ _ (by have:=k.out _ B;exact⟨this.1,this.2.1,this.2.2.2.1,this.2.2.2.2.1,this.2.2.2.2.2.1⟩) λc=>?_;(iterate 8 refine ψ ?_);refine we 13 λK o=>?_;go_simp;refine(G.out _).m ?_;rintro w6 rfl;go_wp21;refine o.out _ _ (by have:=k.out _ B;exact⟨this.1,this.2.1,this.2.2.2.1,this.2.2.2.2.1,this.2.2.2.2.2.1⟩) λc=>?_;(iterate 2 refine ψ ?_);refine wpAnyH_done κ ?_ _;go_wp21;(try simp);refine bodyPost_ret (results_none rfl _ _ _) rfl ?_;exact⟨rfl,((k.out _ B).1)⟩
end
open Md (PS Vote Bal Lft Wf MsgW)
variable {w w':Δ}{F:ϑ}{b:Nat}{S:PS}{o:Pl}
def PP.a7(p:PP w F b S o)(c:Wf S):DC S.n o.l:=λx a=>(c.ms x.1 (by rw[<-p.ms];exact Hq a)).s
def PP.d(p:PP w F b S o)(a:Below w w w'):To w F b o w' S o:=p.step (cW.d a) (λ_ h=>.inl h) (λ_ h=>.inl h) (λ_ h=>.inl h) (p.e.j a) p.ms rfl rfl rfl
def To.f(p:PP w F b S o):To w F b o w S o:=p.d (Below.refl _ _)
def rT(p:PP w F b S o)(c:Wf S):Do 140 #[pT b 0] (.tuple #[]) w F b o S.M1:=by refine(km p.e c.c (p.a7 c)).m ?_;rintro i⟨d,f,g⟩;refine⟨rfl,_,p.step (cW.f d λx a=>by injection a with a;subst a;exact .inr (.inl rfl)) (λ_ h=>.inl h) (λ_ h=>.inl h) (λ_ h=>.inl h) g ?_ rfl rfl rfl⟩;rw[cL,p.ms];rfl
def pX(p:PP w F b S o)(f:Wf S){q:Nat}(m:q<S.n){a:Υ}{v:Θ}(k:aE w (o.R F b) v a)(i:a.length=S.n):Do 253 #[pT b 0,J q,v] (.tuple #[]) w F b o (S.My q a):=by
 obtain⟨g,c,rfl,-,-,t⟩:=mE k.d (by rw[i];exact f.n0);have:=EH p.e f.c (p.a7 f) q m a g 0 c (λh=>(k.c g rfl).2 (.inl (.inr (.inr (.inl h))))) λj s=>by rw[yS];exact t j (by rw[i];exact s)
 rw[i];refine this.m ?_;rintro z⟨d,y,r⟩;refine⟨rfl,_,p.step (d.e λx _ l=>l.elim (λe=>.inr (.inl e)) λe=>.inr (.inr (.inl e))) (λ_ h=>.inl h) (λ_ h=>.inl h) (λ_ h=>.inl h) r ?_ rfl rfl rfl⟩;rw[cL,p.ms];rfl
def Ak(p:PP w F b S o)(E:Wf S){m:Codec.Msg}{L:Θ}(U:MsgW S.n m)(A:aE w (o.R F b) L m.c):Do 254 #[pT b 0,aU m L] (.tuple #[]) w F b o (S.MX m):=by
 obtain⟨s,G,k⟩:=U.s;obtain⟨B,C,D,rfl⟩:=A.a;have z:m.a.toNat=s:=by rw[k];rfl
 have i:∀{u},Below _ w u->S.MX m=S->∃T,To w F b o u (S.MX m) T:=λt e=>by rw[e];exact⟨_,p.d t⟩
 by_cases r:∃x∈o.l,gL m.a m.seq x.1=true
 .obtain⟨x,j,v⟩:=r;have e:S.MX m=S:=by have:S.o.any (Md.eA m.a m.seq)=true:=List.any_eq_true.2 ⟨x.1,by rw[<-p.ms];exact Hq j,v⟩;unfold PS.MX;rw[this];rfl
  refine(Ey p.e m B C D x j v).m ?_;rintro u t;exact⟨rfl,i t e⟩
 have q:∀x∈o.l,gL m.a m.seq x.1=false:=λx j=>by rw[<-Kr];exact λe=>r ⟨x,j,e⟩
 have f:S.o.any (Md.eA m.a m.seq)=false:=by rw[List.any_eq_false];intro y M;rw[<-p.ms]at M;obtain⟨x,j,rfl⟩:=yW.1 M;exact λe=>by rw[show Md.eA m.a m.seq x.1=gL m.a m.seq x.1 from rfl,q x j]at e;cases e
 have d:S.Nh m=dz S.m S.q s m.seq:=by unfold PS.Nh;rw[z];rfl
 cases c:dz S.m S.q s m.seq with
 |true=>
  refine(vQ p.e E.c m B C D s G k q c).m ?_;rintro u t;exact⟨rfl,i t (by unfold PS.MX;rw[f,d,c];rfl)⟩
 |false=>
  have K:Md.aV S.m m.a.toNat=jc S.m s:=by rw[z];rfl
  cases a:jc S.m s;refine(Ez p.e E.c m B C D s G k q c a).m ?_;rintro u t;exact⟨rfl,i t (by unfold PS.MX;rw[f,d,c,K,a];rfl)⟩;have e:S.MX m={S with o:=S.o++[m]}:=by unfold PS.MX;rw[f,d,c,K,a];rfl
  refine(EA p.e E.c m B C D s G k q c a ⟨A.d,λg H=>(A.c g H).1⟩ λg H P=>(A.c g H).2 (.inl (.inr (.inr (.inl P))))).m ?_;rintro u⟨N,O,Q⟩;rw[e];exact⟨rfl,_,p.step (cW.f N λx j=>by injection j with j;subst j;exact .inr (.inl rfl)) (λ_ h=>.inl h) (λ_ h=>.inl h) (λ_ h=>.inl h) Q (by rw[y8,p.ms];rfl) rfl rfl rfl⟩
end
section
section
variable {w w':Δ}{F:ϑ}{b:Nat}{h:Hd}{kn:List (Υ)}{l:aL}{evs:List Ev}{snt:List bC}{kb mb:Nat}{rbs:List Nat}{es:Array MapEntry}{clk:Nat}{ev sv:Θ}
def Ax(p:PA w F b h kn l evs snt kb mb rbs es clk ev sv)(f:Codec.Frame)(a:f.f=h.a)(s r m:Option Addr)(u q x o t k:Nat)(C:aw w w.heap.size (.slice s u q) f.g)(i:aw w w.heap.size (.slice r x o) f.i)(K:ba w w.heap.size (.slice m t k) f.d)(g:Codec.dg f=false):ϖ 165 #[pT b 0,.agg #[J f.c,J 0,J f.j,J f.b,J f.h,J f.a,J f.e,.slice s u q,.slice r x o,.slice m t k]] w λe z=>ϱ e (.tuple #[])/\Below w w z:=by
 have d:=ah (λz n=>by have:=rQ f _ _ _ _ z (C.a n) (i.a n) (K.a n) n.size g;rw[a]at this;exact this)
 obtain⟨I,N,H,D,G,B,E,P,Q,M⟩:=f;simp only at a d⊢;subst a;have A:=(p.a.c (w':=w.alloc (.cells #[J I,J 0,J H,J D,J G,J B,J E,.slice s u q,.slice r x o,.slice m t k] 165)) ((Below.refl _ _).alloc (yb _) _) p.a.f).a 0 _ rfl;simp only[Hd.c,yf,yd]at A;have c:Hid (Below _ w (w.alloc (.cells #[J I,J h.a,J H,J D,J G,J B,J E,.slice s u q,.slice r x o,.slice m t k] 165))):=(Below.refl _ _).alloc (yb _) _;clear p C i K g;go_enter func165,ntmps165;go_wp21;clear A;generalize w.alloc _=L at c⊢;refine(d.out L c.out).mono ?_;rintro e O⟨rfl,j⟩;have y:=ah (c.out.trans (j.mono c.out.size));clear j c d;go_wp21;go_end0;exact⟨rfl,y.out⟩
end
open Md (PS Vote Bal Lft Wf MsgW)
variable {w w':Δ}{F:ϑ}{b:Nat}{S:PS}{o:Pl}
def To.g{g:Δ}{i:Pl}{k j:PS}{f:FuncId}{a:Array Θ}(h:To w F b o g k i)(d:Do f a v g F b i j):ϖ f a g λe n=>ϱ e v/\∃c,To w F b o n j c:=
 d.mono λ_ _⟨l,c,m⟩=>⟨l,c,h.a m⟩
def oH(p:PP w F b S o)(f:Codec.Frame)(B:S.e.length<=1000000){rv cv mv:Θ}(c:aw w w.heap.size rv f.g)(d:aw w w.heap.size cv f.i)(i:ba w w.heap.size mv f.d):Do 165 #[pT b 0,.agg #[J f.c,J 0,J f.j,J f.b,J f.h,J f.a,J f.e,rv,cv,mv]] (.tuple #[]) w F b o (S.MZ f):=by
 obtain⟨r,t,m,rfl⟩:=c.b;obtain⟨q,u,n,rfl⟩:=d.b;obtain⟨l,s,k,rfl⟩:=i.b;cases a:Codec.dg _;refine(Ax p.e {f with f:=S.c} rfl r q l t m u n s k c d i a).mono ?_;rintro e y⟨rfl,D⟩;rw[show S.MZ f=S by unfold PS.MZ;rw[a];rfl];exact⟨rfl,_,p.d D⟩;refine(Aw p.e {f with f:=S.c} rfl r q l t m u n s k c d i a (by simpa using B)).mono ?_;rintro e y⟨rfl,g,C,j,A⟩;rw[show S.MZ f={S with e:=S.e++[{f with f:=S.c}]} by unfold PS.MZ;rw[a];rfl];exact⟨rfl,_,p.step (g.e λx _ z=>z.elim .inl λe=>.inr (.inr (.inr (.inr e)))) (λ_ h=>h) (λ_ h=>.inl h) j (by rw[y8];exact A) p.ms rfl rfl rfl⟩
def Ej(p:PP w F b S o)(l:Wf S){m:Codec.Msg}{k:Θ}(A:MsgW S.n m)(y:∃j n c,k=.slice j n c)(a:Int):Do 138 #[pT b 0,aU m k,J a] (.tuple #[]) w F b o (S.Ms m a):=by
 obtain⟨s,t,d⟩:=A.s;obtain⟨j,u,z,rfl⟩:=y;refine(pG p.e m j u z a s t d l.num (by have:=l.a7;omega)).mono ?_;rintro e B⟨rfl,g,q,i,r⟩;refine⟨rfl,_,p.step (es':=o.n) (clk':=o.j) (g.e λx _ f=>f.elim .inl λf=>f.elim (λe=>.inr (.inr (.inl e))) λe=>.inr (.inr (.inr (.inl e)))) (λ_ h=>h) i (λ_ h=>.inl h) ?_ p.ms rfl rfl rfl⟩;have e:m.a.toNat=s:=by rw[d];rfl
 simp only[PS.Ms,PS.Ng,PS.Ml,e];exact r
def PP.i(p:PP w F b S o)(d:Wf S):∃r,o.k[S.c]?=some r/\aw w w.heap.size (sT r S.n S.n) S.Ml/\af w r 3 (ints S.Ml).toArray:=by obtain⟨r,c,a,-,-⟩:=p.e.m d.num;exact⟨r,c,p.e.a2 c d.num,a⟩
def np(p:PP w F b S o){r:Nat}(c:o.k[S.c]?=some r):ϖ 119 #[pT b 0] w λe a=>ϱ e (sT r S.n S.n)/\Below w w a/\a.heap=w.heap:=iM p.e c
def PP.a(p:PP w F b S o):af w b 159 #[J S.c,J S.n,J S.r,.bool S.f,.bool S.out,.bool S.h,J S.b,J S.m,J S.k,J S.g,J S.a.b,J S.a.m,o.h,eb o.c,sT o.kb S.n S.n,.map (some o.m),o.i,o.g,o.d]:=p.e.a
def PP.c(p:PP w F b S o)(a:Below w w w'):PP w' F b S o:=(p.d a).c
def BY(p:PP w F b S o)(m:Wf S)(C:S.e.length<=1000000)(q:Nat):Do 111 #[pT b 0,J q] (.tuple #[]) w F b o (S.gossip q):=by
 obtain⟨r,s,-,-⟩:=p.i m;have B:Hid (∀a,Below w w a->ϖ 119 #[pT b 0] a λe g=>ϱ e (sT r S.n S.n)/\Below a a g/\g.heap=a.heap):=λa h=>np (p.c h) s;have f:Hid (∀a,Below w w a->ϖ 165 #[pT b 0,.agg #[J 2,J 0,J q,J 0,J S.b,J S.g,J 0,sT r S.n S.n,sN,sN]] a λe g=>ϱ e (.tuple #[])/\∃x,To w F b o g (S.gossip q) x):=λa h=>by have A:=p.c h;exact(p.d h).g (oH A ⟨2,0,q,0,S.b,S.g,0,S.Ml,[],[]⟩ C (A.e.a2 s m.num) (.inl ⟨⟨_,_,rfl⟩,rfl⟩) (.inl ⟨⟨_,_,rfl⟩,rfl⟩))
 have y:Hid (∀a,Below w w a->ε a b 6 (J S.b)/\ε a b 9 (J S.g)):=λa h=>⟨(p.c h).a.a 6 _ rfl,(p.c h).a.a 9 _ rfl⟩;clear p m s;go_enter func111,ntmps111;go_wp21;refine wp_region_held_drew (S:=λa=>ε a b 6 (J S.b)/\ε a b 9 (J S.g)) rfl (y.out _ (Below.refl _ _).drew) λd=>?_;(iterate 11 refine ψ ?_);refine we 11 λK k=>?_;go_simp;refine(B.out _ (Below.refl _ _).drew).mono ?_;rintro e D⟨rfl,j,-⟩;have l:Hid (Below w w D):=((Below.refl _ _).drew).trans (j.mono ς);clear j;go_wp21;refine k.out _ _ (y.out _ l.out) λd=>?_;clear k K;try simp only[pU]
 refine wk 12 ?_;refine we 13 λK k=>?_;go_simp;refine(f.out _ l.out).mono ?_;rintro e z⟨rfl,x,i⟩;have t:=ah i;have u:Hid (ε z b 6 (J S.b)/\ε z b 9 (J S.g)):=by have e:=(Md.ak S ⟨2,0,q,0,S.b,S.g,0,S.Ml,[],[]⟩).e;have c:=i.c.a;rw[show S.gossip q=_ from e]at c;exact⟨c.a 6 _ rfl,c.a 9 _ rfl⟩
 clear i f B;go_wp21;refine k.out _ _ u.out λd=>?_;clear k K;try simp only[pU]
 refine wpAnyH_done κ ?_ _;go_wp21;go_end0;exact⟨rfl,x,t.out⟩
end
open Md (Wf MsgW)
variable {w w':Δ}{F:ϑ}{b:Nat}{S:PS}{o:Pl}
def nU(p:PP w F b S o)(wf:Wf S)(hs:S.e.length<=1000000)(q:Nat)(m:Codec.Msg){tv:Θ}(ht:aw w w.heap.size tv m.c):Do 141 #[pT b 0,J q,aU m tv] (.tuple #[]) w F b o (S.MN q m):=by
 obtain⟨i,k,l,rfl⟩:=ht.b;obtain⟨r,hr,-,-⟩:=p.i wf;have HR:Hid (∀a,Below w w a->ϖ 119 #[pT b 0] a λe x=>ϱ e (sT r S.n S.n)/\Below a a x/\x.heap=a.heap):=λa B=>np (p.c B) hr;have z:Hid (∀a X,Below w w a->af a X 179 #[J m.a,J m.seq,.slice i k l,.string m.b]->ϖ 165 #[pT b 0,.agg #[J 1,J 0,J q,J 0,J S.b,J 0,J 0,sT r S.n S.n,sN,sT X 1 1]] a λe x=>ϱ e (.tuple #[])/\(∃o',To w F b o x (S.MN q m) o')/\cW (o.M b) a x/\ε x b 6 (J S.b)):=λa X B H=>by
  have p':=p.c B;have Y:ba a a.heap.size (sT X 1 1) [m]:=.inr ⟨X,0,1,rfl,H.f,λj m' hj=>by
   match j,hj with
   |0,hj=>
    simp only[AH,yA]at hj;subst hj;exact⟨.slice i k l,H.a 0 _ rfl,H.a 1 _ rfl,H.a 2 _ rfl,H.a 3 _ rfl,(ht.a B).d B.size⟩⟩
  refine(oH p' ⟨1,0,q,0,S.b,0,0,S.Ml,[],[m]⟩ hs (p'.e.a2 hr wf.num) (.inl ⟨⟨_,_,rfl⟩,rfl⟩) Y).mono ?_;rintro e x⟨rfl,o',g⟩;have c:=g.c.a;rw[(Md.ak S ⟨1,0,q,0,S.b,0,0,S.Ml,[],[m]⟩).e]at c;exact⟨rfl,⟨o',(p.d B).a g⟩,g.e,c.a 6 _ rfl⟩
 have W:Hid (∀a,Below w w a->ε a b 6 (J S.b)):=λa B=>(p.c B).a.a 6 _ rfl;have O:Hid (¬o.M b w.heap.size):=λe=>by have:=p.h e;omega
 obtain⟨v,t,mt,u⟩:=m;simp only at z;clear p hr wf ht;have HX:=af.d w _ rfl 179 #[J v,J t,.slice i k l,.string u];have A:Hid (∀a,Below (w.heap.size+1) (w.alloc (.cells #[J v,J t,.slice i k l,.string u] 179)) a->(ε a b 6 (J S.b)/\ε a w 0 (J v)/\ε a w 1 (J t)/\ε a w 2 (.slice i k l)/\ε a w 3 (.string u))/\Below w w a):=λa B=>by have H:=HX.c B ω;have hb:Below w w a:=((Below.refl _ _).alloc (yb _) _).trans (B.mono ω);exact⟨⟨W.out a hb,H.a 0 _ rfl,H.a 1 _ rfl,H.a 2 _ rfl,H.a 3 _ rfl⟩,hb⟩
 have y:Hid ((w.alloc (.cells #[J v,J t,.slice i k l,.string u] 179)).heap.size=w.heap.size+1):=by simp[Hid]
 clear HX W;unfold aU;go_enter func141,ntmps141;go_wp21;generalize w.alloc _=E at A y⊢;refine wp_region_held_drew (S:=λa=>ε a b 6 (J S.b)/\ε a w 0 (J v)/\ε a w 1 (J t)/\ε a w 2 (.slice i k l)/\ε a w 3 (.string u)) rfl (A.out _ (Below.refl _ _).drew).1 λd=>?_;(iterate 7 refine ψ ?_);refine wk 8 ?_;refine wpAnyH_ready κ ς (AllReadyH.cons (i:=7) rfl (λK s=>?s7) (AllReadyH.cons (i:=9) rfl (λK s=>?s9) AllReadyH.nil))
 case s7=>
  go_simp;refine(HR.out _ (A.out _ (Below.refl _ _).drew).2).mono ?_;rintro e P⟨rfl,U,-⟩;have h:Hid (Below (w.heap.size+1) E P):=((Below.refl _ _).drew).trans (U.mono (by simp[y.out]));clear U;go_wp21;refine s.out _ _ (A.out _ h.out).1 λd=>?_;clear s K;try simp only[pU]
  refine we 9 λK s=>?_;go_simp;have f:Hid (Below (w.heap.size+1) E (P.alloc (.cells #[J v,J t,.slice i k l,.string u] 179))):=h.out.alloc (by have:=h.out.size;rw[y.out]at this;exact this) _;have N:Hid (af (P.alloc (.cells #[J v,J t,.slice i k l,.string u] 179)) P.heap.size 179 #[J v,J t,.slice i k l,.string u]):=af.d P P.heap.size rfl 179 _;generalize P.alloc (.cells #[J v,J t,.slice i k l,.string u] 179)=w3 at f N⊢;refine s.out _ _ (A.out _ f.out).1 λd=>?_;clear s K;try simp only[pU]
  refine wk 10 ?_;refine we 11 λK s=>?_;go_simp;refine(z.out _ _ (A.out _ f.out).2 N.out).mono ?_;rintro e D⟨rfl,g,G,Z⟩;have R:Hid (ε D b 6 (J S.b)/\ε D w 0 (J v)/\ε D w 1 (J t)/\ε D w 2 (.slice i k l)/\ε D w 3 (.string u)):=by have L:=G.block w.heap.size (by have:=f.out.size;rw[y.out]at this;omega) O.out;have I:=(A.out _ f.out).1;exact⟨Z,(World.cell?_of_block (a:=(aT w 0)) L).trans I.2.1,(World.cell?_of_block (a:=(aT w 1)) L).trans I.2.2.1,(World.cell?_of_block (a:=(aT w 2)) L).trans I.2.2.2.1,(World.cell?_of_block (a:=(aT w 3)) L).trans I.2.2.2.2⟩
  have C:=ah g;clear g G Z;go_wp21;refine s.out _ _ R.out λd=>?_;clear s K;try simp only[pU]
  refine wpAnyH_done κ ?_ _;go_wp21;go_end0;exact⟨rfl,C.out⟩
 case s9=>
  go_simp;have h:Hid (Below (w.heap.size+1) E (E.alloc (.cells #[J v,J t,.slice i k l,.string u] 179)).drew):=((Below.refl _ _).alloc (by rw[y.out];omega) _).drew;have Q:Hid (af (E.alloc (.cells #[J v,J t,.slice i k l,.string u] 179)).drew E.heap.size 179 #[J v,J t,.slice i k l,.string u]):=(af.d E E.heap.size rfl 179 _).i;generalize (E.alloc (.cells #[J v,J t,.slice i k l,.string u] 179)).drew=P at h Q⊢;refine s.out _ _ (A.out _ h.out).1 λd=>?_;clear s K;try simp only[pU]
  refine we 7 λK s=>?_;go_simp;refine(HR.out _ (A.out _ h.out).2).mono ?_;rintro e w3⟨rfl,T,V⟩;have f:Hid (Below (w.heap.size+1) E w3):=h.out.trans (T.mono (by have:=h.out.size;rw[y.out]at this;exact this));have N:Hid (af w3 E.heap.size 179 #[J v,J t,.slice i k l,.string u]):=by have:=Q.out;unfold af at this;rw[<-V]at this;exact this
  clear T V Q;go_wp21;refine s.out _ _ (A.out _ f.out).1 λd=>?_;clear s K;try simp only[pU]
  refine wk 10 ?_;refine we 11 λK s=>?_;go_simp;refine(z.out _ _ (A.out _ f.out).2 N.out).mono ?_;rintro e D⟨rfl,g,G,Z⟩;have R:Hid (ε D b 6 (J S.b)/\ε D w 0 (J v)/\ε D w 1 (J t)/\ε D w 2 (.slice i k l)/\ε D w 3 (.string u)):=by have L:=G.block w.heap.size (by have:=f.out.size;rw[y.out]at this;omega) O.out;have I:=(A.out _ f.out).1;exact⟨Z,(World.cell?_of_block (a:=(aT w 0)) L).trans I.2.1,(World.cell?_of_block (a:=(aT w 1)) L).trans I.2.2.1,(World.cell?_of_block (a:=(aT w 2)) L).trans I.2.2.2.1,(World.cell?_of_block (a:=(aT w 3)) L).trans I.2.2.2.2⟩
  have C:=ah g;clear g G Z;go_wp21;refine s.out _ _ R.out λd=>?_;clear s K;try simp only[pU]
  refine wpAnyH_done κ ?_ _;go_wp21;go_end0;exact⟨rfl,C.out⟩
def tR(p:PP w F b S o)(d:Wf S)(a:Int):ϖ 164 #[pT b 0,J a] w λe c=>∃v,ϱ e v/\c.ownsRow w 3 1 v (Md.iX a S.n).length (cz (Md.iX a S.n))/\Below w w c:=Gp p.e d.c a
def PP.head(p:PP w F b S o){S':PS}{vc':Θ}{lb':Option Nat}(c:cW (λx=>x=b) w w')(K:af w' b 159 ((zc S' vc' o.i lb').c (sT o.kb S.n S.n) (.map (some o.m)) o.g o.d))(G:S'.n=S.n)(s:S'.q=S.q)(l:S'.o=S.o)(y:S'.j=S.j)(t:S'.e=S.e)(z:S'.i=S.i)(H:aE w (o.R F b) vc' S'.a.a)(D:(lb'=o.c/\S'.d=S.d)\/(lb'=none/\S'.d=none)):To w F b o w' S' {o with h:=vc',c:=lb'}:=by
 have E:∀x,({o with h:=vc',c:=lb'}:Pl).X x->o.X x:=λx a=>by rcases D with ⟨e,-⟩|⟨e,-⟩;rw[e]at a;exact a;rw[e]at a;rcases a with i|i|i;cases i;cases i.1;exact .inr (.inr i)
 have A:∀x,({o with h:=vc',c:=lb'}:Pl).M b x->o.M b x:=λx a=>a.elim .inl λh=>.inr (E x h);have d:jo (o.R F b) (({o with h:=vc',c:=lb'}:Pl).R F b) w w':=⟨c.size,λg u f=>⟨⟨u.1,λa=>u.2 (A g a)⟩,c.block g f λe=>u.2 (.inl (.inl e))⟩⟩;have j:=λx a=>c.block x (p.n a) λe=>p.nx a (.inl e);have k:∀{e C:Nat}{v:Θ}{n:Nat}{B:List Θ},e≠159->eB w F e C v n B->eB w' F e C v n B:=λI r=>r.i λg f=>c.block g (r.k f) λe=>r.o f p.e.a I (e▸rfl);refine⟨⟨?_,by rw[l];exact p.ms,λx a=>p.fx x (E x a),λx a=>p.up x (yr c.size a),H.f d,?_,by rw[z];exact p.left.c d λg f=>j g (.inr (.inr f))⟩,c.e λx _ a=>.inl (.inl a),λx a=>.inl (A x a)⟩;rw[s,y,t];exact p.e.p G K (λx a m _ _=>c.block x a m) (k θ p.e.c) (k θ p.e.f);rcases D with ⟨e,q⟩|⟨e,q⟩;subst e;rw[q];exact p.lead.a d j;subst e;rw[q];trivial
def DX:((List.range 64).all λa=>(List.range 64).all λc=>decide (bits .andNot .i64 (a:Nat) (c:Nat)=Md.cX (a:Nat) (c:Nat))&&decide (bits .and .i64 (a:Nat) (c:Nat)=Md.fK (a:Nat) (c:Nat))&&decide (bits .or .i64 (a:Nat) (c:Nat)=Md.j9 (a:Nat) (c:Nat))&&decide (Md.cX (a:Nat) (c:Nat)<64)&&decide (Md.fK (a:Nat) (c:Nat)<64)&&decide (Md.j9 (a:Nat) (c:Nat)<64))=true:=κ
def cK{x y:Int}(d:Md.bj x)(e:Md.bj y):bits .andNot .i64 x y=Md.cX x y/\bits .and .i64 x y=Md.fK x y/\bits .or .i64 x y=Md.j9 x y/\Md.bj (Md.cX x y)/\Md.bj (Md.fK x y)/\Md.bj (Md.j9 x y):=by
 obtain⟨a,rfl⟩:=Fi d.1;obtain⟨c,rfl⟩:=Fi e.1;have m:a<64:=by have:=d.2;omega
 have k:c<64:=by have:=e.2;omega
 have n:=y5.1 DX a (zD.2 m);have f:=y5.1 n c (zD.2 k);simp only[yB,decide_eq_true_eq]at f;obtain⟨⟨⟨⟨⟨l,g⟩,i⟩,j⟩,h⟩,p⟩:=f;exact⟨l,g,i,⟨Int.natCast_nonneg _,j⟩,⟨Int.natCast_nonneg _,h⟩,⟨Int.natCast_nonneg _,p⟩⟩
def oE{q:Nat}(a:q<6):IntKind.i64.wrap (2^min q 64)=Md.aO q/\Md.bj (Md.aO q):=by
 match q,a with
 |0,_=>exact⟨θ,θ,θ⟩
 |1,_=>exact⟨θ,θ,θ⟩
 |2,_=>exact⟨θ,θ,θ⟩
 |3,_=>exact⟨θ,θ,θ⟩
 |4,_=>exact⟨θ,θ,θ⟩
 |5,_=>exact⟨θ,θ,θ⟩

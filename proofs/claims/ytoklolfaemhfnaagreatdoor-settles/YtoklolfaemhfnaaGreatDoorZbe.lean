import Derived.Lib.TrailingZeros
import Derived.Test.YtoklolfaemhfnaaGreatDoorZbd
set_option maxRecDepth 100000
set_option maxHeartbeats 0
set_option linter.defProp false
open Go.Proofs.Tryz
namespace Go.Proofs.Y
section
open Go.RowKit
open Go.ChangeMaps (setBlock)
variable {w w':Δ}{F:ϑ}{pl:List bC}{base lb n:Nat}{vs:ϡ}{v' v:Θ}{c:Nat->List ϝ}
def jC(cur:ϡ):Prop:=∀u∈cur.toList,∃s,u=Value.string s
def Cw(k:Nat):jC (Builtin.zeroCells (Value.string ⟨#[]⟩).cells k):=by intro u a;simp only[Builtin.zeroCells,yV,yW]at a;obtain⟨i,-,rfl⟩:=a;refine⟨⟨#[]⟩,?_⟩;show (#[Value.string _])[i%1]! =_;grind
section
variable {P:ϛ}(w:Δ)
def vt(t K:ϟ)(C:Nat)(e:ϟ)(i:TypeInfo)(m:Nat)(Q:P.underlying t=some (.slice e))(S:P.info? e=some i)(T:i.zero=some (.string ⟨#[]⟩))(O:i.size=1)(N:i.bytes=m)(v:Θ)(n:Nat)(D:Ϣ)(l:w.ownsRow C e 1 v n D)(G:Addr)(c:Nat)(s:ϝ)(f:∀j u,[Value.string s][j]?=some u->w.cell? (G.add j)=some u)(M:n+1<=maxLen)(q:(n+1)*m<=140737488355328)(x:∀g b,v.ownBlock=some g->w.heap[g]?=some (.cells b e (0,0))->jC b){U:Δ}(B:(Builtin.append_ #[t,t] K #[v,.slice (some G) 1 c]).run P w=.ok v' U):∀g b e' Z,v'.ownBlock=some g->U.heap[g]?=some (.cells b e' Z)->jC b:=by
 subst N;have W:n+1<=9223372036854775807:=by simp only[maxLen]at M;lia
 have L:∀u∈D,∃s,u=Value.string s:=by rcases l.2 with ⟨-,r⟩|⟨g,o,b,r,-,I,-,-,-,E⟩;have h1:=l.1;grind;intro u d;rw[<-E]at d;exact x g b (by rw[r];rfl) I u ν
 have h:∀(z:Ϣ)(k:Nat),(∀u∈z,∃s,u=Value.string s)->jC (z.toArray++[Value.string s].toArray++Builtin.zeroCells (Value.string ⟨#[]⟩).cells k):=λz k ho u d=>by
  simp only[Array.toList_append,yz]at d;rcases d with (d|d)|d;grind;grind
  exact Cw k u d
 intro R V e2 a0 A p;rcases l.2 with ⟨rfl,rfl⟩|⟨g,o,b,rfl,-,I,X,-,Y,E⟩
 .rw[(run_append_nil w t K e i _ Q S T G 1 c _ ν f ω ω ω)]at B;injection B with e1 e3;subst e1 e3;obtain rfl:w=R:=by simpa[Value.ownBlock]using A
  have a:=heap_alloc_new w.drew (.cells ([Value.string s].toArray++Builtin.zeroCells (Value.string ⟨#[]⟩).cells (grownCap w 1 0 e-1)) e);rw[show w.drew.heap.size=w from rfl,p]at a;simp at a;rw[a.1];have:=h [] (grownCap w 1 0 e-1) ς;grind
 by_cases y:n+1<=o
 .rw[(run_append_room (P:=P) w t K e i Q S g n o b I G 1 c [.string s] ν f (by intro u d;simp at d;subst d;rfl) y ν)]at B;injection B with e1 e3;subst e1 e3;obtain rfl:g=R:=by simpa[Value.ownBlock]using A
  rw[setRow_heap w g b _ e _ I]at p;simp only[yA,Obj.cells.injEq]at p;rw[<-p.1];intro u d;simp only[yz]at d;rcases d with (d|d)|d;grind;grind
  exact(x g b rfl I) u ν
 rw[(run_append_grow (P:=P) w t K e i _ Q S T ⟨g,0,none⟩ n o D ν (l.cells (g:=g) rfl) G 1 c [.string s] ν f ω ω (growslice_fits ω q))]at B;injection B with e1 e3;subst e1 e3;obtain rfl:w=R:=by simpa[Value.ownBlock]using A
 have a:=heap_alloc_new w.drew (.cells (D.toArray++[Value.string s].toArray++Builtin.zeroCells (Value.string ⟨#[]⟩).cells (grownCap w (n+1) o e-(n+1))) e);simp_all
def ns{z:Array Oper}{o:Oper}{a:Act}{K:Act->Ξ}{Q:Exit->Act->Ξ}{E:Prop}(I:o.guard=none)(N x:Operand)(t:ϟ)(X:o.op=.call {callee:=.builtin .append,args:=#[N,x],argTypes:=#[t,t]})(b:Nat)(e:ϟ)(i:TypeInfo)(k:Nat)(S:P.underlying t=some (.slice e))(T:P.info? e=some i)(R:i.zero=some (.string ⟨#[]⟩))(l:i.size=1)(B:i.bytes=k)(v:Θ)(n:Nat)(D:Ϣ)(Z:a.eval N=v)(q:w.ownsRow b e 1 v n D)(G:Addr)(c:Nat)(s:ϝ)(Y:a.eval x=.slice (some G) 1 c)(m:∀j u,[Value.string s][j]?=some u->w.cell? (G.add j)=some u)(A:n+1<=maxLen)(f:(n+1)*k<=140737488355328)(r:b<=w)(H:Nat)(W:w=H)(C:∀g d,v.ownBlock=some g->w.heap[g]?=some (.cells d e (0,0))->jC d)(h:∀g p y,y.ownsRow b e 1 (sT g (n+1) p) (n+1) (D++[.string s])->w.grownBy y v.ownBlock->(v.ownBlock=some g\/g=H)->g<y->(∀d M L,y.heap[g]?=some (.cells d M L)->jC d)->K (a.put o.dst (sT g (n+1) p)) y):if Region.wanted o (yielded z a.tmps)=true then Oper.wp P o a w K Q else E:=by
 rw[if_pos (by simp[Region.wanted,I]:Region.wanted o (yielded z a.tmps)=true)];obtain⟨g,p,y,O,h2,h3,h4,h5⟩:=run_append_lies w t o.type b e i _ 1 _ S T R l B rfl θ v n D q G 1 c _ rfl m (by intro u U;simp at U;subst U;rfl) ω A f r H W;unfold Oper.wp execOp;simp only[X,resolve,invoke,builtin,Sem.run_bind,Sem.run_pure,Result.andThen_ok,Fj,yN,Cx,Z,Y,O];exact h g p y h2 h3 h4 h5 λd M L hc=>vt w t _ b e i _ S T R l B v n D q G c s m A f C O g d M L rfl hc
end
structure CF(w:Δ)(base lb n:Nat)(vs:ϡ)(c:Nat->List ϝ):Prop where
 a:af w lb 151 vs
 size:vs.size=n
 f:base<=lb
 b:∀j v,j<n->vs[j]?=some v->w.ownsRow base 9 1 v (c j).length ((c j).map Value.string)
 dis:∀i j v u g,i<n->j<n->vs[i]?=some v->vs[j]?=some u->v.ownBlock=some g->u.ownBlock=some g->i=j
 flat:∀j v g cur e fz,j<n->vs[j]?=some v->v.ownBlock=some g->w.heap[g]?=some (.cells cur e fz)->jC cur
def vq(c:Nat->List ϝ)(j:Nat)(s:ϝ):Nat->List ϝ:=λq=>if q=j then c j++[s] else c q
def lD{m:Nat}{h:Ϣ}(f:w.ownsRow base 9 1 v m h)(k:af w lb 151 vs):some lb≠v.ownBlock:=by
 intro e;rcases f.2 with ⟨b,-⟩|⟨g,j,l,b,-,a,-⟩;rw[b]at e;cases e;rw[b]at e;have i:lb=g:=by simpa[Value.ownBlock]using e
 subst i;rw[k]at a;grind
def CF.d(h:CF w base lb n vs c)(f:Ϟ w w'):CF w' base lb n vs c:=
 ⟨h.a.c f h.a.f,h.size,h.f,λj v a b=>aj (h.b j v a b) λg d=>f.block g ((h.b j v a b).lt g d).2,h.dis,λj v g i e k a b d l=>h.flat j v g i e k a b d (by rwa [<-f.block g ((h.b j v a b).lt g d).2])⟩
def CF.h{j g cap:Nat}{s:ϝ}{C:Δ}(h:CF w base lb n vs c)(E:j<n)(G:vs[j]?=some v)(B:w.grownBy C v.ownBlock)(L:v.ownBlock=some g\/w<=g)(K:v'=sT g ((c j).length+1) cap)(p:C.ownsRow base 9 1 v' ((c j).length+1) ((c j).map Value.string++[.string s]))(N:∀r e H,C.heap[g]?=some (.cells r e H)->jC r):CF (C.setCell ⟨lb,j,none⟩ v') base lb n (vs.setIfInBounds j v') (vq c j s):=by
 have t:af C lb 151 vs:=(B.block lb h.a.f (lD (h.b j v E G) h.a)).trans h.a;have A:∀k,v'.ownBlock=some k->k=g:=λk e=>by rw[K]at e;simpa[Value.ownBlock]using e.symm
 have o:∀{x:Nat},x≠lb->(C.setCell ⟨lb,j,none⟩ v').heap[x]?=C.heap[x]?:=λY=>yT _ _ _ _ Y;have f:∀q u,q<n->(vs.setIfInBounds j v')[q]?=some u->(q=j/\u=v')\/(q≠j/\vs[q]?=some u):=λq u l i=>by grind
 refine⟨t.e j _,ϰ h.size,h.f,λq u l i=>?_,λa b u R k V W i O Z d=>?_,λq u k r e H l i d I=>?_⟩;rcases f q u l i with ⟨rfl,rfl⟩|⟨m,i⟩;have X:vq c q s q=c q++[s]:=if_pos rfl;rw[X,yC,y8];refine aj p λk d=>o λe=>?_;exact lD p t ν;rw[show vq c j s q=c q from if_neg m];refine aj (h.b q u l i) λk d=>?_;rw[o λe=>lD (h.b q u l i) h.a ν];exact B.block k (((h.b q u l i).lt k d).2) λe=>m (h.dis q j u v k l E i G d e.symm)
 .have U:∀q z,q<n->q≠j->vs[q]?=some z->z.ownBlock=some g->False:=λq z l m Q D=>by rcases L with S|S;exact m (h.dis q j z v g l E Q G D S);have:=((h.b q z l Q).lt g D).2;lia
  rcases f a u V i with ⟨rfl,rfl⟩|⟨m,M⟩<;>rcases f b R W O with ⟨rfl,rfl⟩|⟨T,P⟩;rfl;grind;grind
  exact h.dis a b u R k V W M P Z d
 rcases f q u l i with ⟨rfl,rfl⟩|⟨m,i⟩;rw[o λe=>lD p t ν,A k d]at I;grind;rw[o λe=>lD (h.b q u l i) h.a ν,B.block k (((h.b q u l i).lt k d).2) λe=>m (h.dis q j u v k l E i G d e.symm)]at I;exact h.flat q u k r e H l i d I
def eC(pl:List bC)(j:Nat):List ϝ:=(pl.filter λx=>decide (x.1=(j:Int))).map (·.2)
def xZ(a:List bC)(j:Nat)(s:ϝ):eC (a++[((j:Int),s)])=vq (eC a) j s:=by grind[eC,vq]
def Gm:(prog.info? 9).map (λi=>(i.zero,i.size,i.bytes))=some (some (.string ⟨#[]⟩),1,16):=κ
def EF:(prog.info? 151).map (λi=>(i.zero,i.size,i.bytes))=some (some (sN),1,24):=κ
def EP(n:Nat)(i:n<=6)(u:Δ):(Instr.makeSlice 100 (J n) (J n)).run prog u=.ok (sT u n n) (u.alloc (.cells (Array.replicate n (Value.slice none 0 0)) 151)):=by
 obtain⟨d,f,a,b,g⟩:=info_parts EF;have h:=run_make u 100 151 d (sN) underlying100 f a .i64 .i64 n n ω (Ld _) ν ω;rw[CM]at h;have e:madeCells (Value.slice none 0 0).cells (n*d.size)=(Array.replicate n (Value.slice none 0 0)):=by rw[b,Nat.mul_one];apply Array.ext';rw[show (Value.slice none 0 0).cells=#[Value.slice none 0 0] from rfl,toList_madeCells_one];simp
 rwa [e]at h
def CF.k(w:Δ)(n:Nat):CF (w.alloc (.cells (Array.replicate n (Value.slice none 0 0)) 151)) w w n (Array.replicate n (Value.slice none 0 0)) (eC []):=by
 have a:∀{j:Nat}{v:Θ},(Array.replicate n (Value.slice none 0 0))[j]?=some v->v=sN:=λ{j v}h=>by grind
 refine⟨af.d w _ rfl 151 _,ς,Ϫ,λj v f d=>?_,λi j v u g q f d o b k=>?_,λj v g l e m f d b p=>?_⟩;rw[a d];exact y9 _ _ _ _;rw[a d]at b;cases b;rw[a d]at b;cases b
def Co(n:Nat)(hn:n<=6)(ao:ϣ)(vc:Nat)(r:eB w F 111 2 (.slice ao pl.length vc) pl.length (ar pl))(hl:pl.length<=1000000)(a8:∀x∈pl,∃j:Nat,j<n/\x.1=(j:Int)):ϖ 61 #[.slice ao pl.length vc,J n] w λe z=>ϱ e (sT w n n)/\Ϟ w z/\∃A,CF z w w n A (eC pl):=by
 obtain⟨i0,b8,c3,b5,b4⟩:=info_parts Gm;have c6:=EP n hn;have H0:=ah (CF.k w n);have P:Hid (Ϟ w (w.alloc (.cells (Array.replicate n (Value.slice none 0 0)) 151))):=Ϡ.alloc Ϫ _;have D:Hid (∀(k:Nat)wr,k<pl.length->Ϟ w wr->∃(g j:Nat)(s:ϝ),ao=some ⟨g,0,none⟩/\j<n/\wr.cell? ⟨g,k*2,none⟩=some (J j)/\wr.cell? ⟨g,k*2+1,none⟩=some (.string s)/\pl.take (k+1)=pl.take k++[((j:Int),s)]):=λk wr hk hb=>by obtain⟨g,O,Y,-,a3,c0,c1,-⟩:=kt r (yh hk);obtain⟨j,hj,hx⟩:=a8 _ (AF hk);injection Y with h1 h2 h3;refine⟨g,j,pl[k].2,h1,hj,(hb.cell (p:=⟨g,k*2,none⟩) a3).trans ν,(hb.cell (p:=⟨g,k*2+1,none⟩) a3).trans c1,?_⟩;grind[Lc]
 go_enter func61,ntmps61;go_wp2_with fail;generalize w.alloc _=w1 at H0 P|-;go_loopw [12] (λi wr=>∃k:Nat,k<=pl.length/\i=J k/\Below _ w wr/\∃A,CF wr _ _ n A (eC (pl.take k))) λi _=>pl.length-(intOf i).toNat
 case atStart=>exact⟨0,ω,rfl,P,_,H0⟩
 case round=>
  obtain⟨k,hk,rfl,f,A,L⟩:=hrel;by_cases b3:k<pl.length
  .obtain⟨g,j,s,rfl,hj,c0,c1,b0⟩:=D k wr b3 f;have c5:0<=k:=ω;have a9:k<pl.length:=ω;have c4:0<=j:=ω;have c8:j<n:=ω;have Q:=ah f;have q:=ah L;go_upto_region 5 with fail;have M:Hid (Ϟ wr (wr.alloc (.cells #[J j,.string s] 111))):=Ϡ.alloc Ϫ _;have hX:=af.d wr _ rfl 111 #[J j,.string s];have u:Hid ((wr.alloc (.cells #[J j,.string s] 111))=wr.heap.size+1):=by simp[Hid]
   obtain⟨v,Y⟩:∃v,A[j]?=some v:=⟨_,yl (show j<A.size by grind[CF.size])⟩;have l:=q.b j v hj Y;obtain⟨vo,I,a4⟩:=bG l;have b7:(eC (pl.take k) j).length<=1000000:=by unfold eC;rw[yL];apply yr (G3 _ _);rw[xk];lia
   have HS:Hid (∀z,Below (wr.heap.size+1) (wr.alloc (.cells #[J j,.string s] 111)) z->ε z w j v/\ε z wr 0 (J j)/\ε z wr 1 (.string s)):=λz hw=>⟨((q.d (M.trans (hw.mono ω))).a).a j v Y,(hX.c hw ω).a 0 _ rfl,(hX.c hw ω).a 1 _ rfl⟩;have HV:=ah Y;generalize b9:wr.alloc (.cells #[J j,.string s] 111)=B at M u HS|-;generalize R:(eC (pl.take k) j).length=m at a4 b7 l;have o:=ah l;have E:=ah R;subst a4;refine gl.b (λz=>ε z w j (.slice vo m I)/\ε z wr 0 (J j)/\ε z wr 1 (.string s)) 13 rfl (HS _ Ϡ.drew) λhHeld=>?_;(iterate 10 refine χ ?_);refine te 10 λK C=>?_;go_simp;have y:Hid (Ϟ B (B.alloc (.cells #[.string s] 9)).drew):=(Ϡ.alloc Ϫ _).drew;refine C.out _ _ (λ_=>HS _ (y.mono (by rw[u];lia))) λhHeld=>?_;have HE:Hid (af (B.alloc (.cells #[.string s] 9)).drew B 9 #[.string s]):=(af.d B B rfl 9 _).i;have N:Hid ((B.alloc (.cells #[.string s] 9)).drew=B.heap.size+1):=by simp[Hid]
   generalize (B.alloc (.cells #[.string s] 9)).drew=w4 at y HE N hHeld|-;have t:Hid (Ϟ wr w4):=M.trans (y.mono (by rw[u];lia));refine te 11 λK C=>?_;have p:=q.d t;refine ns w4 rfl (.tmp 23) (.tmp 26) 151 rfl w 9 i0 16 underlying151 b8 c3 b5 b4 (.slice vo m I) m ((eC (pl.take k) j).map Value.string) rfl (aQ o t) (aT B 0) 1 s rfl (IZ HE) (by simp[maxLen];lia) ω (ϵ Q.size t.size) (B.heap.size+1) N (λg c2 hg hc=>p.flat j _ g c2 _ _ hj HV hg hc) ?_;intro g2 O V W d Z b1 U;have H:=p.h (s:=s) hj HV d (g:=g2) (cap:=O) (Z.imp id λe=>ϕ N.out) (by rw[E]) (by rwa [E]) U;rw[<-xZ,<-(ah b0)]at H;have a0:∀x,(Value.slice vo m I).ownBlock=some x->w<=x/\x<wr:=λx hx=>o.lt x hx;have b2:=Q.size;have a1:=t.size;have X:=lD o q.a;have S:af V w 151 A:=(d.block _ p.a.f X).trans p.a;have a6:Hid (ε V w j (.slice vo m I)/\ε V wr 0 (J j)/\ε V wr 1 (.string s)):=
    have h4:=HS _ (y.mono (by rw[u];lia));have a2:wr.heap.size<w4:=by have:=y.size;rw[u]at this;lia
    have nx:some wr.heap.size≠(Value.slice vo m I).ownBlock:=λe=>ν
    ⟨(d.cell_far ⟨w.heap.size,j,none⟩ p.a.f X).trans h4.1,(d.cell_far ⟨wr.heap.size,0,none⟩ a2 nx).trans h4.2.1,(d.cell_far ⟨wr.heap.size,1,none⟩ a2 nx).trans h4.2.2⟩
   have G:Hid (Ϟ w (V.setCell ⟨w.heap.size,j,none⟩ (sT g2 (m+1) O))/\∃A,CF (V.setCell ⟨w.heap.size,j,none⟩ (sT g2 (m+1) O)) w.heap.size w.heap.size n A (eC (pl.take (k+1)))):=⟨((Q.trans (t.mono b2)).trans {d with block:=λx hx=>d.block x ω (λe=>by grind)}).trans (((ej.d w.heap.size V).a j _).c Ϫ),_,H⟩;have c7:=S.b j;refine C.out _ _ (λ_=>a6) λhHeld=>?_;have hHeld:=hHeld θ;refine te 12 λK C=>?_;go_simp;refine C.out _ _ (λ_=>a6) λhHeld=>?_;have hHeld:=hHeld θ;refine te 13 λK C=>?_;go_simp;refine C.out _ _ (λh=>absurd rfl h) λ_=>?_;refine gl.done κ ?_ _;go_wp2_with fail;go_roundw
   case rel=>exact⟨k+1,ω,by go_num,G⟩
   case measure=>simp[intOf];lia
  have a9:¬(k:Int)<(pl.length:Int):=ω;have b6:k=pl.length:=ω;have G:Hid (Ϟ w wr/\∃A,CF wr w.heap.size w.heap.size n A (eC pl)):=⟨f,A,by grind⟩;go_wp2_with fail;go_ret;exact⟨rfl,G⟩
def bw(c:Int)(n:Nat):Nat:=((if c<0 then -(c+1) else c)%(n:Int)).toNat
def cM(c:Int){n:Nat}(d:1<=n):bw c n<n:=by unfold bw;have b:=Int.emod_lt_of_pos (if c<0 then -(c+1) else c) (show (0:Int)<n by lia);have a:=Int.emod_nonneg (if c<0 then -(c+1) else c) (show (n:Int)≠0 by lia);lia
def fO(c:Int)(n:Nat)(w:Δ)(l:-9223372036854775808<=c/\c<=9223372036854775807)(m:1<=n)(i:n<=1000000):ϖ 34 #[J c,J n] w λe k=>ϱ e (J (bw c n))/\k=w:=by
 have a:(n:Int)≠0:=ω;have f:¬(n:Int)=-1:=ω;unfold bw;by_cases h:c<0
 .have g:wrap64 (c+1)=c+1:=by unfold wrap64;lia
  have j:wrap64 (-(c+1))=-(c+1):=by unfold wrap64;lia
  have b:Hid (-(c+1).tmod n=(((-(c+1))%(n:Int)).toNat:Int)):=by unfold Hid;rw[<-Int.neg_tmod,Int.tmod_eq_emod_of_nonneg ω];have:=Int.emod_nonneg (-(c+1)) a;lia
  rw[if_pos h];go_enter func34,ntmps34;go_wp21;go_ret;refine⟨?_,rfl⟩;show Ending.returned (J _)=_;rw[b]
 rw[if_neg h];go_enter func34,ntmps34;go_wp21;go_ret;refine⟨?_,rfl⟩;show Ending.returned (J _)=Ending.returned _;rw[Int.max_eq_left (Int.emod_nonneg c a)]
def xU(s:ϝ)(n:Nat):ϝ:=if n<s.size then s.extract 0 n else s
def BQ(s:ϝ)(n:Nat):(xU s n).size<=n:=by
 unfold xU;split
 .rw[ByteArray.size_extract];lia
 lia
def Iy(s:ϝ)(n:Nat)(w:Δ):ϖ 58 #[.string s,J n] w λe b=>ϱ e (.string (xU s n))/\b=w:=by
 unfold xU;by_cases h:n<s.size
 .have a:n<s.size:=ω;rw[if_pos h];go_enter func58,ntmps58;go_wp21;go_ret;exact⟨rfl,rfl⟩
 have a:¬n<s.size:=ω;rw[if_neg h];go_enter func58,ntmps58;go_wp21;go_ret;exact⟨rfl,rfl⟩
def Iz(e:Ev):Θ:=.agg #[J e.b,J e.a,J e.d,J e.seq,J e.c,.string e.e]
def dv(e:Ev):Bool:=decide (e.b=1\/e.b=2)
def cA(a b:Ev):Bool:=decide (a.a=b.a/\a.d=b.d/\a.seq=b.seq)
def pL:∀{l:List Ev}{k:Nat}{e:Ev},l[k]?=some e->∀i,i<6->(az l)[k*6+i]?=e.f[i]?
 |[],k,e,h=>by cases h
 |y::l,0,e,h=>by simp only[AH,yA]at h;subst h;intro i a;rw[show az (y::l)=y.f++az l from rfl,y7 (by show _<6;lia)];congr 1;lia
 |y::l,k+1,e,h=>by intro i a;have:=pL (by simpa using h) i a;rw[show az (y::l)=y.f++az l from rfl,Fl (by show 6<=_;lia),<-this];congr 1;show (k+1)*6+i-6=_;lia
def jU{w:Δ}{c:Nat}{v:Θ}{l:List Ev}(r:w.ownsRow c 64 6 v l.length (az l)){k:Nat}{e:Ev}(h:l[k]?=some e):∃g a,v=sT g l.length a/\w.cell? ⟨g,k*6,none⟩=some (J e.b)/\w.cell? ⟨g,k*6+1,none⟩=some (J e.a)/\w.cell? ⟨g,k*6+2,none⟩=some (J e.d)/\w.cell? ⟨g,k*6+3,none⟩=some (J e.seq)/\w.cell? ⟨g,k*6+4,none⟩=some (J e.c)/\w.cell? ⟨g,k*6+5,none⟩=some (.string e.e):=by
 have j:=(ym.1 h).1;rcases r.2 with ⟨-,f⟩|⟨g,a,o,f,-⟩
 .lia
 have b:=λi u n m=>by have:=r.cells (by rw[f];rfl:v.ownBlock=some g) _ u ((pL h i n).trans m);rwa [lu]at this
 exact⟨g,a,f,b 0 _ ω rfl,b 1 _ ω rfl,b 2 _ ω rfl,b 3 _ ω rfl,b 4 _ ω rfl,b 5 _ ω rfl⟩
variable {l:List Ev}{e:Ev}
def gC(l:List Ev)(e:Ev):Int:=if l.findIdx (λx=>dv x&&cA x e)<l.length then (l.findIdx λx=>dv x&&cA x e) else -1
def Er(h:∀x∈l,(dv x&&cA x e)=false):gC l e=-1:=by simp_all[gC]

def j7(c:Int):Prop:=-9223372036854775808<=c/\c<=9223372036854775807
def jXa{w:Δ}{X:Nat}{T:ϟ}{f g i:Θ}(h:af w X T #[f,g,i])(a c b:Θ):af (((w.setCell ⟨X,0,none⟩ a).setCell ⟨X,1,none⟩ c).setCell ⟨X,2,none⟩ b) X T #[a,c,b]/\ej X w (((w.setCell ⟨X,0,none⟩ a).setCell ⟨X,1,none⟩ c).setCell ⟨X,2,none⟩ b):=
 have j:=h.e 0 a;have e:=j.e 1 c;have d:=e.e 2 b
 ⟨d,(((ej.d X w).a 0 a).a 1 c).a 2 b⟩
def BP(a b c:Int)(w:Δ)(L:j7 a)(M:j7 b)(I:j7 c):ϖ 14 #[.agg #[J a,J b,J c]] w λe g=>ϱ e (.agg #[J ((1+bw a 6:Nat):Int),J ((1+bw b 8:Nat):Int),J ((1+bw c 4000:Nat):Int)])/\Ϟ w g:=by
 have H:=ah λg=>fO a 6 g L ω ω;have C:=ah λg=>fO b 8 g M ω ω;have D:=ah λg=>fO c 4000 g I ω ω;have z:=cM a (n:=6) ω;have A:=cM b (n:=8) ω;have y:=cM c (n:=4000) ω;generalize bw a 6=p at H z|-;generalize bw b 8=q at C A|-;generalize bw c 4000=r at D y|-;have P:IntKind.i64.wrap (1+(p:Int))=((1+p:Nat):Int):=by simp[IntKind.wrap,IntKind.bits,IntKind.signed];lia
 have Q:IntKind.i64.wrap (1+(q:Int))=((1+q:Nat):Int):=by simp[IntKind.wrap,IntKind.bits,IntKind.signed];lia
 have T:IntKind.i64.wrap (1+(r:Int))=((1+r:Nat):Int):=by simp[IntKind.wrap,IntKind.bits,IntKind.signed];lia
 have E:=(af.d w _ rfl 23 #[J a,J b,J c]).g (.cells #[J 0,J 0,J 0] 23);have F:=af.d (w.alloc (.cells #[J a,J b,J c] 23)) (w.heap.size+1) ς 23 #[J 0,J 0,J 0];have x:Hid (Ϟ w ((w.alloc (.cells #[J a,J b,J c] 23)).alloc (.cells #[J 0,J 0,J 0] 23))):=(Ϡ.alloc Ϫ _).alloc ς _;have B:Hid (∀m,(((w.alloc (.cells #[J a,J b,J c] 23)).alloc (.cells #[J 0,J 0,J 0] 23)).drewN m).cell? (aT w 0)=some (J a)/\(((w.alloc (.cells #[J a,J b,J c] 23)).alloc (.cells #[J 0,J 0,J 0] 23)).drewN m).cell? (aT w 1)=some (J b)/\(((w.alloc (.cells #[J a,J b,J c] 23)).alloc (.cells #[J 0,J 0,J 0] 23)).drewN m).cell? (aT w 2)=some (J c)):=λm=>
  have h:=E.c (below_drewN (yi (w.heap.size+2) _) m) ω
  ⟨h.a 0 _ rfl,h.a 1 _ rfl,h.a 2 _ rfl⟩
 have G:=ah F;clear E F L M I;go_enter func14,ntmps14;go_upto_region 1 with fail;generalize ((w.alloc _).alloc _)=V at B G x|-;have j:=ah (B 1);refine gl.b (λg=>ε g w 0 (J a)/\ε g w 1 (J b)/\ε g w 2 (J c)) 13 rfl j λf=>?_;(iterate 2 refine χ ?_);apply tw 4;apply tw 5;apply tw 8;apply tw 9;refine te 2 λK i=>?_;go_simp;apply (H _).mono;rintro _ N⟨rfl,rfl⟩;go_wp21;refine i.out _ _ (λ_=>j) λf=>?_;clear i K;try simp only[pU]
 apply tw 3;refine te 6 λK i=>?_;go_simp;apply (C _).mono;rintro _ N⟨rfl,rfl⟩;go_wp21;refine i.out _ _ (λ_=>j) λf=>?_;clear i K;try simp only[pU]
 apply tw 7;refine te 10 λK i=>?_;go_simp;apply (D _).mono;rintro _ N⟨rfl,rfl⟩;go_wp21;refine i.out _ _ (λ_=>j) λf=>?_;clear i K;try simp only[pU]
 (iterate 2 refine χ ?_)
 have d:=G;have t:=d.a 0 _ rfl;have u:=d.a 1 _ rfl;have v:=d.a 2 _ rfl;have O:=d.b 0;have R:=d.b 1;have S:=d.b 2;simp only[yf,yd,ye]at t u v;refine te 13 λK i=>?_;go_simp;refine i.out _ _ (λh=>absurd rfl h) λ_=>?_;clear i K t u v O R S;try simp only[pU]
 refine gl.done κ ?_ _;go_wp21;obtain⟨n,l⟩:=jXa d (J (1+(p:Int))) (J (1+(q:Int))) (J (1+(r:Int)));have k:=n.i;have s:=(x.trans (l.c (Nat.le_succ _))).drew;refine DU (p:=bodyPost _ _ _ _ _) _ λU o=>?_;rw[<-o]at k s;clear o n l;have t:=k.a 0 _ rfl;have u:=k.a 1 _ rfl;have v:=k.a 2 _ rfl;simp only[yf,yd,ye]at t u v;exact bodyPost_ret (v:=.agg #[J (1+(p:Int)),J (1+(q:Int)),J (1+(r:Int))]) (by simp[results,results14,go_sem,t,u,v]) rfl ⟨ς,s⟩
section
section
variable {w w':Δ}{F:ϑ}{b:Nat}{h:Hd}{kn:List (Υ)}{l:aL}{evs:List Ev}{snt:List bC}{kb mb:Nat}{rbs:Ϙ}{es:Array MapEntry}{clk:Nat}{ev sv:Θ}
def Ez(p:PA w F b h kn l evs snt kb mb rbs es clk ev sv)(X:h.n<=6)(m:ϥ)(t:ϣ)(y z:Nat)(s:Nat)(hs:s<h.n)(R:m.a=s)(H:∀x∈l,gL m.a m.seq x.1=false)(V:dz h.b kn s m.seq=false)(P:jc h.b s=false):ϖ 254 #[pT b 0,aU m (.slice t y z)] w λe a=>ϱ e ϳ/\Ϟ w a:=by
 let ⟨ms,d,mt,A⟩:=m
 simp only at R H V;subst R;have Y:Hid (∀a,Ϟ w a->ε a b 15 (.map (some mb))/\(Instr.lookup 156 (.map (some mb)) (.agg #[J s,J d]) true).run prog a=.ok (.tuple #[.agg #[J 0,J 0,sN,.string ⟨#[]⟩],.bool false]) a):=λa f=>by refine⟨(World.cell?_of_block (a:=(aT b 15)) (f.block b p.a.f)).trans (p.a.y 15),?_⟩;exact my a s d ((f.block mb p.q).trans p.map) p.o H true
 have U:Hid (Ϟ w (w.alloc (.cells #[J s,J d,.slice t y z,.string A] 179))):=Ϡ.alloc Ϫ _;have O:Hid (∀a,Ϟ w a->ϖ 186 #[pT b 0,.agg #[J s,J d]] a λe a1=>ϱ e (.bool false)/\Ϟ a a1):=λa f=>by have p':=p.j f;have:=kx b kb h (.map (some mb)) ev sv rbs kn a p'.a p'.e X s hs d;rwa [V]at this
 have I:=p.a.y 7;simp only[Hd.c,yf,yd,ye]at I;have HC:Hid (∀a,Ϟ w a->ε a b 7 (J h.b)/\ε a b 15 (.map (some mb))/\a.cell? (aT w 0)=a.cell? (aT w 0)):=λa f=>⟨(World.cell?_of_block (a:=(aT b 7)) (f.block b p.a.f)).trans I,(Y a f).1,rfl⟩;have S:=af.d w _ rfl 179 #[J s,J d,.slice t y z,.string A];have HX:Hid (∀a,Below (w.heap.size+1) (w.alloc (.cells #[J s,J d,.slice t y z,.string A] 179)) a->ε a w 0 (J s)/\ε a w 1 (J d)/\ε a w 2 (.slice t y z)/\ε a w 3 (.string A)):=λa f=>
  have:=S.c f ω
  ⟨this.y 0,this.y 1,this.y 2,this.y 3⟩
 have G:=ah (λa=>by have:=gE h.b s a ω;rwa [P]at this)
 unfold aU;go_enter func254,ntmps254;go_wp21;apply (jR ⟨s,d,mt,A⟩ _ _).m;rintro q r;have j:=ah (U.trans (r.mono ς));have Q:Hid (Below (w.heap.size+1) (w.alloc (.cells #[J s,J d,.slice t y z,.string A] 179)) q):=r.mono ς;unfold bQ;simp only;go_wp21;have g:Hid (∀a,Below (q.alloc (.cells #[J s,J d] 186)) (q.alloc (.cells #[J s,J d] 186)) a->Ϟ w a/\ε a q 0 (J s)/\ε a q 1 (J d)):=λa f=>
  have X:=(af.d q q rfl 186 #[J s,J d]).c f ς
  ⟨(j.alloc j.size _).trans (f.mono (by have:=j.size;simp;lia)),X.y 0,X.y 1⟩
 have C:Hid (Ϟ w (q.alloc (.cells #[J s,J d] 186))):=j.alloc j.size _;have u:Hid (Below (w.heap.size+1) (w.alloc (.cells #[J s,J d,.slice t y z,.string A] 179)) (q.alloc (.cells #[J s,J d] 186))):=Q.alloc (by have:=r.size;simpa using this) _;generalize a3:q.heap.size=E at g|-;generalize a0:q.alloc _=L at g C u|-;have W:Hid (∀a,Ϟ L a->ε a b 15 (.map (some mb))/\(Instr.lookup 156 (.map (some mb)) (.agg #[J s,J d]) true).run prog a=.ok (.tuple #[.agg #[J 0,J 0,sN,.string ⟨#[]⟩],.bool false]) a/\ε a E 0 (J s)/\ε a E 1 (J d)):=λa f=>⟨(Y a (g a f).1).1,(Y a (g a f).1).2,(g a f).2⟩;refine wp_region_held_drew (S:=λa=>ε a b 15 (.map (some mb))/\(Instr.lookup 156 (.map (some mb)) (.agg #[J s,J d]) true).run prog a=.ok (.tuple #[.agg #[J 0,J 0,sN,.string ⟨#[]⟩],.bool false]) a/\ε a E 0 (J s)/\ε a E 1 (J d)) rfl (W _ Ϡ.drew) λc=>?_;(iterate 9 refine ψ ?_);refine we 9 λK o=>?_;go_simp;refine o.out _ _ (W _ (Ϡ.drew.alloc Ϫ _)) λc=>?_;refine we 10 λK o=>?_;go_simp;refine o.out _ _ (W _ (Ϡ.alloc Ϫ _).drew) λc=>?_;apply wk 11;refine wpAnyH_done κ ?_ _;have v:Hid (Ϟ w (L.alloc (.cells #[J 0,J 0,sN,.string ⟨#[]⟩] 179)).drew):=(C.alloc C.size _).drew;have i:Hid (Ϟ L (L.alloc (.cells #[J 0,J 0,sN,.string ⟨#[]⟩] 179)).drew):=(Ϡ.alloc Ϫ _).drew;generalize (L.alloc (.cells #[J 0,J 0,sN,.string ⟨#[]⟩] 179)).drew=N at v i|-;have M:Hid (Below (w.heap.size+1) (w.alloc (.cells #[J s,J d,.slice t y z,.string A] 179)) N):=u.trans (i.mono (by have:=u.size;simpa using this));have k:Hid (∀a,Ϟ N a->Ϟ w a/\ε a b 7 (J h.b)/\ε a b 15 (.map (some mb))/\ε a E 0 (J s)/\ε a E 1 (J d)/\ε a w 0 (J s)/\ε a w 1 (J d)/\ε a w 2 (.slice t y z)/\ε a w 3 (.string A)):=λa f=>
  have Z:=v.trans (f.mono v.size)
  ⟨Z,(HC a Z).1,(HC a Z).2.1,(g a (i.trans (f.mono i.size))).2.1,(g a (i.trans (f.mono i.size))).2.2,HX a (M.trans (f.mono (by have:=M.size;simpa using this)))⟩
 go_wp21
 refine wp_region_held_drew (S:=λa=>Ϟ w a/\ε a b 7 (J h.b)/\ε a E 0 (J s)/\ε a E 1 (J d)/\ε a w 0 (J s)) rfl (have:=k _ Ϡ.drew;⟨this.1,this.2.1,this.2.2.2.1,this.2.2.2.2.1,this.2.2.2.2.2.1⟩) λc=>?_;(iterate 4 refine ψ ?_);refine we 4 λK o=>?_;go_simp;apply (O _ c.1).m;rintro w5 T;have B:Hid (Ϟ N w5):=(Ϡ.drew).trans (T.mono ς);go_wp21;refine o.out _ _ (have:=k _ B;⟨this.1,this.2.1,this.2.2.2.1,this.2.2.2.2.1,this.2.2.2.2.2.1⟩) λc=>?_;(iterate 8 refine ψ ?_);refine we 13 λK o=>?_;go_simp;apply (G _).m;rintro w6 rfl;go_wp21;refine o.out _ _ (have:=k _ B;⟨this.1,this.2.1,this.2.2.2.1,this.2.2.2.2.1,this.2.2.2.2.2.1⟩) λc=>?_;(iterate 2 refine ψ ?_);refine wpAnyH_done κ ?_ _;go_wp21;(try simp);apply bodyPost_ret (results_none rfl _ _ _) rfl;exact⟨rfl,((k _ B).1)⟩
end
open Md (PS Vote Bal Lft Wf MsgW)
variable {w w':Δ}{F:ϑ}{b:Nat}{S:PS}{o:Pl}
def PP.a7(p:PP w F b S o)(c:Wf S):DC S.n o.l:=λx a=>(c.ms x.1 (p.ms▸Hq a)).s
def PP.d(p:PP w F b S o)(a:Ϟ w w'):To w F b o w' S o:=p.step (cW.d a) (λ_ h=>.inl h) (λ_ h=>.inl h) (λ_ h=>.inl h) (p.e.j a) p.ms rfl rfl rfl
def To.f(p:PP w F b S o):To w F b o w S o:=p.d Ϡ
def rT(p:PP w F b S o)(c:Wf S):Do 140 #[pT b 0] ϳ w F b o S.M1:=by apply (km p.e c.c (p.a7 c)).m;rintro i⟨d,f,g⟩;refine⟨rfl,_,p.step (cW.f d λx a=>by injection a with a;subst a;exact .inr (.inl rfl)) (λ_ h=>.inl h) (λ_ h=>.inl h) (λ_ h=>.inl h) g ?_ rfl rfl rfl⟩;rw[cL,p.ms];rfl
def pX(p:PP w F b S o)(f:Wf S){q:Nat}(m:q<S.n){a:Υ}{v:Θ}(k:aE w (o.R F b) v a)(i:a.length=S.n):Do 253 #[pT b 0,J q,v] ϳ w F b o (S.My q a):=by
 obtain⟨g,c,rfl,-,-,t⟩:=mE k.d (i▸f.n0);have:=EH p.e f.c (p.a7 f) q m a g 0 c (λh=>(k.c g rfl).2 (.inl (.inr (.inr (.inl h))))) λj s=>by rw[yS];exact t j (by rwa [i])
 rw[i];apply this.m;rintro z⟨d,y,r⟩;refine⟨rfl,_,p.step (d.e λx _ l=>l.elim (λe=>.inr (.inl e)) λe=>.inr (.inr (.inl e))) (λ_ h=>.inl h) (λ_ h=>.inl h) (λ_ h=>.inl h) r ?_ rfl rfl rfl⟩;rw[cL,p.ms];rfl
def Ak(p:PP w F b S o)(E:Wf S){m:ϥ}{L:Θ}(U:MsgW S.n m)(A:aE w (o.R F b) L m.c):Do 254 #[pT b 0,aU m L] ϳ w F b o (S.MX m):=by
 let ⟨s,G,k⟩:=U.s
 obtain⟨B,C,D,rfl⟩:=A.a;have z:m.a.toNat=s:=by rw[k];rfl
 have i:∀{u},Below _ w u->S.MX m=S->∃T,To w F b o u (S.MX m) T:=λt e=>by rw[e];exact⟨_,p.d t⟩
 by_cases r:∃x∈o.l,gL m.a m.seq x.1=true
 .let ⟨x,j,v⟩:=r
  have e:S.MX m=S:=by have:S.o.any (Md.eA m.a m.seq)=true:=List.any_eq_true.2 ⟨x.1,p.ms▸Hq j,v⟩;unfold PS.MX;rw[this];rfl
  apply (Ey p.e m B C D x j v).m;rintro u t;exact⟨rfl,i t e⟩
 have q:∀x∈o.l,gL m.a m.seq x.1=false:=λx j=>by rw[<-Kr];exact λe=>r ⟨x,j,e⟩
 have f:S.o.any (Md.eA m.a m.seq)=false:=by rw[List.any_eq_false];intro y M;rw[<-p.ms]at M;obtain⟨x,j,rfl⟩:=yW.1 M;exact λe=>by rw[show Md.eA m.a m.seq x.1=gL m.a m.seq x.1 from rfl,q x j]at e;cases e
 have d:S.Nh m=dz S.m S.q s m.seq:=by unfold PS.Nh;rw[z];rfl
 cases c:dz S.m S.q s m.seq with
 |true=>
  apply (vQ p.e E.c m B C D s G k q c).m;rintro u t;exact⟨rfl,i t (by unfold PS.MX;rw[f,d,c];rfl)⟩
 |false=>
  have K:Md.aV S.m m.a.toNat=jc S.m s:=by rw[z];rfl
  cases a:jc S.m s;apply (Ez p.e E.c m B C D s G k q c a).m;rintro u t;exact⟨rfl,i t (by unfold PS.MX;rw[f,d,c,K,a];rfl)⟩;have e:S.MX m={S with o:=S.o++[m]}:=by unfold PS.MX;rw[f,d,c,K,a];rfl
  refine(EA p.e E.c m B C D s G k q c a ⟨A.d,λg H=>(A.c g H).1⟩ λg H P=>(A.c g H).2 (.inl (.inr (.inr (.inl P))))).m ?_;rintro u⟨N,O,Q⟩;rw[e];exact⟨rfl,_,p.step (cW.f N λx j=>by injection j with j;subst j;exact .inr (.inl rfl)) (λ_ h=>.inl h) (λ_ h=>.inl h) (λ_ h=>.inl h) Q (by rw[y8,p.ms];rfl) rfl rfl rfl⟩
end
end
section
open Go.RowKit
open Go.ChangeMaps (setBlock)
variable {v:Θ}
section
section
variable{w w':Δ}{F:ϑ}{b:Nat}{h:Hd}{kn:List (Υ)}{l:aL}{evs:List Ev}{snt:List bC}{kb mb:Nat}{rbs:Ϙ}{es:Array MapEntry}{clk:Nat}{ev sv:Θ}
def Ax(p:PA w F b h kn l evs snt kb mb rbs es clk ev sv)(f:Codec.Frame)(a:f.f=h.a)(s r m:ϣ)(u q x o t k:Nat)(C:aw w w.heap.size (.slice s u q) f.g)(i:aw w w.heap.size (.slice r x o) f.i)(K:ba w w.heap.size (.slice m t k) f.d)(g:Codec.dg f=false):ϖ 165 #[pT b 0,.agg #[J f.c,J 0,J f.j,J f.b,J f.h,J f.a,J f.e,.slice s u q,.slice r x o,.slice m t k]] w λe z=>ϱ e ϳ/\Ϟ w z:=by
 have d:=ah (λz n=>by have:=rQ f _ _ _ _ z (C.a n) (i.a n) (K.a n) n.size g;rwa [a]at this)
 obtain⟨I,N,H,D,G,B,E,P,Q,M⟩:=f;simp only at a d|-;subst a;have A:=(p.a.c (w':=w.alloc (.cells #[J I,J 0,J H,J D,J G,J B,J E,.slice s u q,.slice r x o,.slice m t k] 165)) (Ϡ.alloc Ϫ _) p.a.f).a 0 _ rfl;simp only[Hd.c,yf,yd]at A;have c:Hid (Below _ w (w.alloc (.cells #[J I,J h.a,J H,J D,J G,J B,J E,.slice s u q,.slice r x o,.slice m t k] 165))):=Ϡ.alloc Ϫ _;clear p C i K g;go_enter func165,ntmps165;go_wp21;clear A;generalize w.alloc _=L at c|-;apply (d L c).mono;rintro e O⟨rfl,j⟩;have y:=ah (c.trans (j.mono c.size));clear j c d;go_wp21;go_end0;exact⟨rfl,y⟩
end
open Md (PS Vote Bal Lft Wf MsgW)
variable {w w':Δ}{F:ϑ}{b:Nat}{S:PS}{o:Pl}
def To.g{g:Δ}{i:Pl}{k j:PS}{f:FuncId}{a:ϡ}(h:To w F b o g k i)(d:Do f a v g F b i j):ϖ f a g λe n=>ϱ e v/\∃c,To w F b o n j c:=
 d.mono λ_ _⟨l,c,m⟩=>⟨l,c,h.a m⟩
def oH(p:PP w F b S o)(f:Codec.Frame)(B:S.e.length<=1000000){rv cv mv:Θ}(c:aw w w.heap.size rv f.g)(d:aw w w.heap.size cv f.i)(i:ba w w.heap.size mv f.d):Do 165 #[pT b 0,.agg #[J f.c,J 0,J f.j,J f.b,J f.h,J f.a,J f.e,rv,cv,mv]] ϳ w F b o (S.MZ f):=by
 obtain⟨r,t,m,rfl⟩:=c.b;obtain⟨q,u,n,rfl⟩:=d.b;obtain⟨l,s,k,rfl⟩:=i.b;cases a:Codec.dg _;apply (Ax p.e {f with f:=S.c} rfl r q l t m u n s k c d i a).mono;rintro e y⟨rfl,D⟩;rw[show S.MZ f=S by unfold PS.MZ;rw[a];rfl];exact⟨rfl,_,p.d D⟩;apply (Aw p.e {f with f:=S.c} rfl r q l t m u n s k c d i a (ϰ B)).mono;rintro e y⟨rfl,g,C,j,A⟩;rw[show S.MZ f={S with e:=S.e++[{f with f:=S.c}]} by unfold PS.MZ;rw[a];rfl];exact⟨rfl,_,p.step (g.e λx _ z=>z.elim .inl λe=>.inr (.inr (.inr (.inr e)))) (λ_ h=>h) (λ_ h=>.inl h) j (by rwa [y8]) p.ms rfl rfl rfl⟩
def Ej(p:PP w F b S o)(l:Wf S){m:ϥ}{k:Θ}(A:MsgW S.n m)(y:∃j n c,k=.slice j n c)(a:Int):Do 138 #[pT b 0,aU m k,J a] ϳ w F b o (S.Ms m a):=by obtain⟨s,t,d⟩:=A.s;obtain⟨j,u,z,rfl⟩:=y;apply (pG p.e m j u z a s t d l.num (ϕ l.a7)).mono;rintro e B⟨rfl,g,q,i,r⟩;refine⟨rfl,_,p.step (es':=o.n) (clk':=o.j) (g.e λx _ f=>f.elim .inl λf=>f.elim (λe=>.inr (.inr (.inl e))) λe=>.inr (.inr (.inr (.inl e)))) (λ_ h=>h) i (λ_ h=>.inl h) ?_ p.ms rfl rfl rfl⟩;simp only[PS.Ms,PS.Ng,PS.Ml,(by rw[d];rfl:m.a.toNat=s)];exact r
def PP.i(p:PP w F b S o)(d:Wf S):∃r,o.k[S.c]?=some r/\aw w w.heap.size (sT r S.n S.n) S.Ml/\af w r 3 (ints S.Ml).toArray:=by obtain⟨r,c,a,-,-⟩:=p.e.m d.num;exact⟨r,c,p.e.a2 c d.num,a⟩
def np(p:PP w F b S o){r:Nat}(c:o.k[S.c]?=some r):ϖ 119 #[pT b 0] w λe a=>ϱ e (sT r S.n S.n)/\Ϟ w a/\a.heap=w.heap:=iM p.e c
def PP.a(p:PP w F b S o):af w b 159 #[J S.c,J S.n,J S.r,.bool S.f,.bool S.out,.bool S.h,J S.b,J S.m,J S.k,J S.g,J S.a.b,J S.a.m,o.h,eb o.c,sT o.kb S.n S.n,.map (some o.m),o.i,o.g,o.d]:=p.e.a
def PP.c(p:PP w F b S o)(a:Ϟ w w'):PP w' F b S o:=(p.d a).c
def BY(p:PP w F b S o)(m:Wf S)(C:S.e.length<=1000000)(q:Nat):Do 111 #[pT b 0,J q] ϳ w F b o (S.gossip q):=by
 obtain⟨r,s,-,-⟩:=p.i m;have B:Hid (∀a,Ϟ w a->ϖ 119 #[pT b 0] a λe g=>ϱ e (sT r S.n S.n)/\Ϟ a g/\g.heap=a.heap):=λa h=>np (p.c h) s;have f:Hid (∀a,Ϟ w a->ϖ 165 #[pT b 0,.agg #[J 2,J 0,J q,J 0,J S.b,J S.g,J 0,sT r S.n S.n,sN,sN]] a λe g=>ϱ e ϳ/\∃x,To w F b o g (S.gossip q) x):=λa h=>
  have A:=p.c h
  (p.d h).g (oH A ⟨2,0,q,0,S.b,S.g,0,S.Ml,[],[]⟩ C (A.e.a2 s m.num) (.inl ⟨⟨_,_,rfl⟩,rfl⟩) (.inl ⟨⟨_,_,rfl⟩,rfl⟩))
 have y:Hid (∀a,Ϟ w a->ε a b 6 (J S.b)/\ε a b 9 (J S.g)):=λa h=>⟨(p.c h).a.a 6 _ rfl,(p.c h).a.a 9 _ rfl⟩;clear p m s;go_enter func111,ntmps111;go_wp21;refine wp_region_held_drew (S:=λa=>ε a b 6 (J S.b)/\ε a b 9 (J S.g)) rfl (y _ Ϡ.drew) λd=>?_;(iterate 11 refine ψ ?_);refine we 11 λK k=>?_;go_simp;apply (B _ Ϡ.drew).mono;rintro e D⟨rfl,j,-⟩;have l:Hid (Ϟ w D):=(Ϡ.drew).trans (j.mono ς);clear j;go_wp21;refine k.out _ _ (y _ l) λd=>?_;clear k K;try simp only[pU]
 apply wk 12;refine we 13 λK k=>?_;go_simp;apply (f _ l).mono;rintro e z⟨rfl,x,i⟩;have t:=ah i;have u:Hid (ε z b 6 (J S.b)/\ε z b 9 (J S.g)):=by have e:=(Md.ak S ⟨2,0,q,0,S.b,S.g,0,S.Ml,[],[]⟩).e;have c:=i.c.a;rw[show S.gossip q=_ from e]at c;exact⟨c.a 6 _ rfl,c.a 9 _ rfl⟩
 clear i f B;go_wp21;refine k.out _ _ u λd=>?_;clear k K;try simp only[pU]
 refine wpAnyH_done κ ?_ _;go_wp21;go_end0;exact⟨rfl,x,t⟩
end
open Md (PS Vote Bal Lft Wf MsgW)
variable {w w':Δ}{F:ϑ}{b:Nat}{S:PS}{o:Pl}
def nU(p:PP w F b S o)(wf:Wf S)(hs:S.e.length<=1000000)(q:Nat)(m:ϥ){tv:Θ}(ht:aw w w.heap.size tv m.c):Do 141 #[pT b 0,J q,aU m tv] ϳ w F b o (S.MN q m):=by
 obtain⟨i,k,l,rfl⟩:=ht.b;obtain⟨r,hr,-,-⟩:=p.i wf;have HR:Hid (∀a,Ϟ w a->ϖ 119 #[pT b 0] a λe x=>ϱ e (sT r S.n S.n)/\Ϟ a x/\x.heap=a.heap):=λa B=>np (p.c B) hr;have z:Hid (∀a X,Ϟ w a->af a X 179 #[J m.a,J m.seq,.slice i k l,.string m.b]->ϖ 165 #[pT b 0,.agg #[J 1,J 0,J q,J 0,J S.b,J 0,J 0,sT r S.n S.n,sN,sT X 1 1]] a λe x=>ϱ e ϳ/\(∃o',To w F b o x (S.MN q m) o')/\cW (o.M b) a x/\ε x b 6 (J S.b)):=λa X B H=>by
  have p':=p.c B;have Y:ba a a.heap.size (sT X 1 1) [m]:=.inr ⟨X,0,1,rfl,H.f,λj m' hj=>by
   match j,hj with
   |0,hj=>
    simp only[AH,yA]at hj;subst hj;exact⟨.slice i k l,H.a 0 _ rfl,H.a 1 _ rfl,H.a 2 _ rfl,H.a 3 _ rfl,(ht.a B).d B.size⟩⟩
  apply (oH p' ⟨1,0,q,0,S.b,0,0,S.Ml,[],[m]⟩ hs (p'.e.a2 hr wf.num) (.inl ⟨⟨_,_,rfl⟩,rfl⟩) Y).mono;rintro e x⟨rfl,o',g⟩;have c:=g.c.a;rw[(Md.ak S ⟨1,0,q,0,S.b,0,0,S.Ml,[],[m]⟩).e]at c;exact⟨rfl,⟨o',(p.d B).a g⟩,g.e,c.a 6 _ rfl⟩
 have W:Hid (∀a,Ϟ w a->ε a b 6 (J S.b)):=λa B=>(p.c B).a.a 6 _ rfl;have O:Hid (¬o.M b w.heap.size):=λe=>ϕ (p.h e);obtain⟨v,t,mt,u⟩:=m;simp only at z;clear p hr wf ht;have HX:=af.d w _ rfl 179 #[J v,J t,.slice i k l,.string u];have A:Hid (∀a,Below (w.heap.size+1) (w.alloc (.cells #[J v,J t,.slice i k l,.string u] 179)) a->(ε a b 6 (J S.b)/\ε a w 0 (J v)/\ε a w 1 (J t)/\ε a w 2 (.slice i k l)/\ε a w 3 (.string u))/\Ϟ w a):=λa B=>
  have H:=HX.c B ω;have hb:Ϟ w a:=(Ϡ.alloc Ϫ _).trans (B.mono ω)
  ⟨⟨W a hb,H.a 0 _ rfl,H.a 1 _ rfl,H.a 2 _ rfl,H.a 3 _ rfl⟩,hb⟩
 have y:Hid ((w.alloc (.cells #[J v,J t,.slice i k l,.string u] 179)).heap.size=w.heap.size+1):=by simp[Hid]
 clear HX W;unfold aU;go_enter func141,ntmps141;go_wp21;generalize w.alloc _=E at A y|-;refine wp_region_held_drew (S:=λa=>ε a b 6 (J S.b)/\ε a w 0 (J v)/\ε a w 1 (J t)/\ε a w 2 (.slice i k l)/\ε a w 3 (.string u)) rfl (A _ Ϡ.drew).1 λd=>?_;(iterate 7 refine ψ ?_);apply wk 8;refine wpAnyH_ready κ ς (AllReadyH.cons (i:=7) rfl (λK s=>?s7) (AllReadyH.cons (i:=9) rfl (λK s=>?s9) AllReadyH.nil))
 case s7=>
  go_simp;apply (HR _ (A _ Ϡ.drew).2).mono;rintro e P⟨rfl,U,-⟩;have h:Hid (Below (w.heap.size+1) E P):=(Ϡ.drew).trans (U.mono (by simp[y.out]));clear U;go_wp21;refine s.out _ _ (A _ h).1 λd=>?_;clear s K;try simp only[pU]
  refine we 9 λK s=>?_;go_simp;have f:Hid (Below (w.heap.size+1) E (P.alloc (.cells #[J v,J t,.slice i k l,.string u] 179))):=h.alloc (by have:=h.size;rwa [y]at this) _;have N:Hid (af (P.alloc (.cells #[J v,J t,.slice i k l,.string u] 179)) P.heap.size 179 #[J v,J t,.slice i k l,.string u]):=af.d P P.heap.size rfl 179 _;generalize P.alloc (.cells #[J v,J t,.slice i k l,.string u] 179)=w3 at f N|-;refine s.out _ _ (A _ f).1 λd=>?_;clear s K;try simp only[pU]
  apply wk 10;refine we 11 λK s=>?_;go_simp;apply (z _ _ (A _ f).2 N).mono;rintro e D⟨rfl,g,G,Z⟩;have R:Hid (ε D b 6 (J S.b)/\ε D w 0 (J v)/\ε D w 1 (J t)/\ε D w 2 (.slice i k l)/\ε D w 3 (.string u)):=
   have L:=G.block w.heap.size (by have:=f.size;rw[y]at this;lia) O;have I:=(A _ f).1
   ⟨Z,(World.cell?_of_block (a:=(aT w 0)) L).trans I.2.1,(World.cell?_of_block (a:=(aT w 1)) L).trans I.2.2.1,(World.cell?_of_block (a:=(aT w 2)) L).trans I.2.2.2.1,(World.cell?_of_block (a:=(aT w 3)) L).trans I.2.2.2.2⟩
  have C:=ah g;clear g G Z;go_wp21;refine s.out _ _ R λd=>?_;clear s K;try simp only[pU]
  refine wpAnyH_done κ ?_ _;go_wp21;go_end0;exact⟨rfl,C⟩
 case s9=>
  go_simp;have h:Hid (Below (w.heap.size+1) E (E.alloc (.cells #[J v,J t,.slice i k l,.string u] 179)).drew):=(Ϡ.alloc (by rw[y];lia) _).drew;have Q:Hid (af (E.alloc (.cells #[J v,J t,.slice i k l,.string u] 179)).drew E.heap.size 179 #[J v,J t,.slice i k l,.string u]):=(af.d E E.heap.size rfl 179 _).i;generalize (E.alloc (.cells #[J v,J t,.slice i k l,.string u] 179)).drew=P at h Q|-;refine s.out _ _ (A _ h).1 λd=>?_;clear s K;try simp only[pU]
  refine we 7 λK s=>?_;go_simp;apply (HR _ (A _ h).2).mono;rintro e w3⟨rfl,T,V⟩;have f:Hid (Below (w.heap.size+1) E w3):=h.trans (T.mono (by have:=h.size;rwa [y]at this));have N:Hid (af w3 E.heap.size 179 #[J v,J t,.slice i k l,.string u]):=by have:=Q;unfold af at this;rwa [<-V]at this
  clear T V Q;go_wp21;refine s.out _ _ (A _ f).1 λd=>?_;clear s K;try simp only[pU]
  apply wk 10;refine we 11 λK s=>?_;go_simp;apply (z _ _ (A _ f).2 N).mono;rintro e D⟨rfl,g,G,Z⟩;have R:Hid (ε D b 6 (J S.b)/\ε D w 0 (J v)/\ε D w 1 (J t)/\ε D w 2 (.slice i k l)/\ε D w 3 (.string u)):=
   have L:=G.block w.heap.size (by have:=f.size;rw[y]at this;lia) O;have I:=(A _ f).1
   ⟨Z,(World.cell?_of_block (a:=(aT w 0)) L).trans I.2.1,(World.cell?_of_block (a:=(aT w 1)) L).trans I.2.2.1,(World.cell?_of_block (a:=(aT w 2)) L).trans I.2.2.2.1,(World.cell?_of_block (a:=(aT w 3)) L).trans I.2.2.2.2⟩
  have C:=ah g;clear g G Z;go_wp21;refine s.out _ _ R λd=>?_;clear s K;try simp only[pU]
  refine wpAnyH_done κ ?_ _;go_wp21;go_end0;exact⟨rfl,C⟩
def tR(p:PP w F b S o)(d:Wf S)(a:Int):ϖ 164 #[pT b 0,J a] w λe c=>∃v,ϱ e v/\c.ownsRow w 3 1 v (Md.iX a S.n).length (cz (Md.iX a S.n))/\Ϟ w c:=Gp p.e d.c a
def PP.head(p:PP w F b S o){S':PS}{vc':Θ}{lb':Option Nat}(c:cW (λx=>x=b) w w')(K:af w' b 159 ((zc S' vc' o.i lb').c (sT o.kb S.n S.n) (.map (some o.m)) o.g o.d))(G:S'.n=S.n)(s:S'.q=S.q)(l:S'.o=S.o)(y:S'.j=S.j)(t:S'.e=S.e)(z:S'.i=S.i)(H:aE w (o.R F b) vc' S'.a.a)(D:(lb'=o.c/\S'.d=S.d)\/(lb'=none/\S'.d=none)):To w F b o w' S' {o with h:=vc',c:=lb'}:=by
 have E:∀x,({o with h:=vc',c:=lb'}:Pl).X x->o.X x:=λx a=>by rcases D with ⟨e,-⟩|⟨e,-⟩;rwa [e]at a;rw[e]at a;rcases a with i|i|i;cases i;cases i.1;exact .inr (.inr i)
 have A:∀x,({o with h:=vc',c:=lb'}:Pl).M b x->o.M b x:=λx a=>a.elim .inl λh=>.inr (E x h);have d:jo (o.R F b) (({o with h:=vc',c:=lb'}:Pl).R F b) w w':=⟨c.size,λg u f=>⟨⟨u.1,λa=>u.2 (A g a)⟩,c.block g f λe=>u.2 (.inl (.inl e))⟩⟩;have j:=λx a=>c.block x (p.n a) λe=>p.nx a (.inl e);have k:∀{e C:Nat}{v:Θ}{n:Nat}{B:Ϣ},e≠159->eB w F e C v n B->eB w' F e C v n B:=λI r=>r.i λg f=>c.block g (r.k f) λe=>r.o f p.e.a I (e▸rfl);refine⟨⟨?_,l▸p.ms,λx a=>p.fx x (E x a),λx a=>p.up x (yr c.size a),H.f d,?_,z▸p.left.c d λg f=>j g (.inr (.inr f))⟩,c.e λx _ a=>.inl (.inl a),λx a=>.inl (A x a)⟩;rw[s,y,t];exact p.e.p G K (λx a m _ _=>c.block x a m) (k θ p.e.c) (k θ p.e.f);rcases D with ⟨e,q⟩|⟨e,q⟩;subst e;rw[q];exact p.lead.a d j;subst e;rw[q];trivial
def DX:((List.range 64).all λa=>(List.range 64).all λc=>decide (bits .andNot .i64 (a:Nat) (c:Nat)=Md.cX (a:Nat) (c:Nat))&&decide (bits .and .i64 (a:Nat) (c:Nat)=Md.fK (a:Nat) (c:Nat))&&decide (bits .or .i64 (a:Nat) (c:Nat)=Md.j9 (a:Nat) (c:Nat))&&decide (Md.cX (a:Nat) (c:Nat)<64)&&decide (Md.fK (a:Nat) (c:Nat)<64)&&decide (Md.j9 (a:Nat) (c:Nat)<64))=true:=κ
def cK{x y:Int}(d:Md.bj x)(e:Md.bj y):bits .andNot .i64 x y=Md.cX x y/\bits .and .i64 x y=Md.fK x y/\bits .or .i64 x y=Md.j9 x y/\Md.bj (Md.cX x y)/\Md.bj (Md.fK x y)/\Md.bj (Md.j9 x y):=by obtain⟨a,rfl⟩:=Fi d.1;obtain⟨c,rfl⟩:=Fi e.1;have n:=y5.1 DX a (zD.2 (ϕ d.2));have f:=y5.1 n c (zD.2 (ϕ e.2));simp only[yB,decide_eq_true_eq]at f;obtain⟨⟨⟨⟨⟨l,g⟩,i⟩,j⟩,h⟩,p⟩:=f;exact⟨l,g,i,⟨Int.natCast_nonneg _,j⟩,⟨Int.natCast_nonneg _,h⟩,⟨Int.natCast_nonneg _,p⟩⟩
def oE{q:Nat}(a:q<6):IntKind.i64.wrap (2^min q 64)=Md.aO q/\Md.bj (Md.aO q):=by
 match q,a with
 |0,_=>exact⟨θ,θ,θ⟩
 |1,_=>exact⟨θ,θ,θ⟩
 |2,_=>exact⟨θ,θ,θ⟩
 |3,_=>exact⟨θ,θ,θ⟩
 |4,_=>exact⟨θ,θ,θ⟩
 |5,_=>exact⟨θ,θ,θ⟩
def Md.Wf.b2(a:Wf S):IntKind.i64.wrap (2^min S.c 64)=Md.aO S.c/\Md.bj (Md.aO S.c):=oE (ϵ a.c a.num)
def nm(p:PP w F b S o)(j:Wf S):ϖ 110 #[pT b 0] w λe a=>∃v,ϱ e v/\a.ownsRow w 3 1 v S.L8.length (cz S.L8)/\Ϟ w a:=by
 have r:Hid (∀a g,Ϟ w a->ϖ 164 #[pT b 0,J g] a _):=λa g l=>tR (p.c l) j g;have d:Hid (bits .andNot .i64 S.m (IntKind.i64.wrap (2^min S.c 64))=Md.cX S.m (Md.aO S.c)):=by rw[Hid,j.b2.1,(cK j.mem j.b2.2).1]
 have n:Hid (∀a,Below _ w a->ε a b 7 _/\ε a b 0 _):=λa l=>⟨(p.c l).a.a 7 _ rfl,(p.c l).a.a 0 _ rfl⟩;have q:0<=S.c:=ω;clear p j;go_enter func110,ntmps110;go_wp21;refine wp_region_held_drew (S:=λa=>ε a b 7 _/\ε a b 0 (J S.c)) rfl (n _ Ϡ.drew) λf=>?_;(iterate 11 refine ψ ?_);refine we 11 λK m=>?_;go_simp;apply (r _ _ Ϡ.drew).mono;rintro e s⟨v,rfl,c,i⟩;rw[d]at c;have k:Hid (Ϟ w s):=(Ϡ.drew).trans (i.mono ς);have h:=ah c;clear c i d r;go_wp21;refine m.out _ _ (n _ k) λf=>?_;clear m K;try simp only[pU]
 apply wk 12;refine wpAnyH_done κ ?_ _;go_wp21;go_ret;exact⟨_,rfl,h,k⟩
def cW.a{w:Δ}{X:Nat}(j:Nat)(u:Θ):cW (λx=>x=X) w (w.setCell ⟨X,j,none⟩ u):=⟨rfl,rfl,rfl,ς,λk _ a=>Below.heap_setCell _ _ _ _ a⟩
def qm(p:PP w F b S o)(g:Wf S){c:Int}(d:Md.bj c):Do 106 #[pT b 0,J c] ϳ w F b o (S.suspect c):=by
 have e:=p.a;have q:=e.a 7 _ rfl;have y:=e.a 8 _ rfl;have s:=e.a 0 _ rfl;simp only[yf,yd,ye]at s q y;have n:0<=S.c:=ω;have x:=e.b 8;have l:=cK d g.mem;have j:=cK l.2.2.2.2.1 g.b2.2;have m:=cK g.sus j.2.2.2.1;have r:Hid (bits .or .i64 S.k (bits .andNot .i64 (bits .and .i64 c S.m) (IntKind.i64.wrap (2^min S.c 64)))=(S.suspect c).k):=by rw[Hid,g.b2.1,l.2.1,j.1,m.2.2.1];rfl
 have i:Hid (∃u,To w F b o ((w.setCell ⟨b,8,none⟩ (J (S.suspect c).k)).drew) (S.suspect c) u):=⟨_,p.head ⟨rfl,rfl,rfl,ς,λk _ v=>Below.heap_setCell _ _ _ _ v⟩ (e.e 8 _) rfl rfl rfl rfl rfl rfl p.vote (.inl ⟨rfl,rfl⟩)⟩;clear p g e l j m d;go_enter func106,ntmps106;go_wp21;refine gl.b (λt=>t=w.drew) 19 rfl rfl λa=>?_;(iterate 17 refine χ ?_);refine te 17 λK f=>?_;go_simp;refine f.out _ _ (λ_=>rfl) λa=>?_;clear f K;try simp only[pU]
 have a:=a θ;apply tw 18;refine te 19 λK f=>?_;go_simp;refine f.out _ _ (λh=>absurd rfl h) λ_=>?_;clear f K;try simp only[pU]
 refine gl.done κ ?_ _;go_wp21;go_end0;rw[r];exact⟨rfl,i⟩
def pW(p:PP w F b S o)(a:Int):ϖ 256 #[pT b 0,J a] w λe j=>ϱ e (.bool (S.MY a))/\j=w:=by
 have c:=p.a.a 13 _ rfl;rcases p.lead.cases with ⟨f,d⟩|⟨x,B,f,d,h⟩
 .have g:Hid (S.MY a=false):=by simp[Hid,PS.MY,d]
  rw[f]at c;simp only[eb,yf,yd,ye]at c;clear p f d;go_enter func256,ntmps256;go_wp2;go_ret;rw[g];exact⟨rfl,rfl⟩
 have g:Hid (S.MY a=decide (B.g=a)):=by simp only[Hid,PS.MY,d,Option.any_some];rfl
 have i:=h.c.a 0 _ rfl;rw[f]at c;simp only[eb,bu,yf,yd,ye]at c i;clear p f d h;go_enter func256,ntmps256;go_wp2;go_ret;rw[g];exact⟨rfl,rfl⟩
def qg(p:PP w F b S o)(a:Int):Do 236 #[pT b 0,J a] ϳ w F b o (S.MH a):=by
 have d:=p.a;have c:To w F b o (w.setCell ⟨b,9,none⟩ (J a)) {S with g:=a} o:=p.head (cW.a 9 _) (d.e 9 _) rfl rfl rfl rfl rfl rfl p.vote (.inl ⟨rfl,rfl⟩);have f:Hid (ϖ 256 #[pT b 0,J a] (w.setCell ⟨b,9,none⟩ (J a)) λe l=>ϱ e (.bool (S.MY a))/\l=w.setCell ⟨b,9,none⟩ (J a)):=pW c.c a;have j:Hid (S.MY a=false->To w F b o ((w.setCell ⟨b,9,none⟩ (J a)).setCell ⟨b,13,none⟩ (.pointer none)) (S.MH a) {o with c:=none}):=λe=>by
  have:S.MH a={S with g:=a,d:=none}:=by unfold PS.MH;rw[e];rfl
  rw[this];exact c.a (c.c.head (S':={S with g:=a,d:=none}) (vc':=o.h) (lb':=none) (cW.a 13 _) (c.c.a.e 13 _) rfl rfl rfl rfl rfl rfl c.c.vote (.inr ⟨rfl,rfl⟩))
 have q:Hid (S.MY a=true->To w F b o (w.setCell ⟨b,9,none⟩ (J a)) (S.MH a) o):=λe=>by
  have:S.MH a={S with g:=a}:=by unfold PS.MH;rw[e];rfl
  rwa [this]
 have m:=d.b 9;have k:=d.a 9 _ rfl;have i:=c.c.a.b 13;have h:=c.c.a.a 13 _ rfl;simp only[yf,yd,ye]at k h;clear p d c;cases g:S.MY a with
 |true=>
  rw[g]at f;go_enter func236,ntmps236;go_wp21;apply f.mono;rintro e n⟨rfl,rfl⟩;go_wp21;go_end0;exact⟨rfl,_,q g⟩
 |false=>
  rw[g]at f;go_enter func236,ntmps236;go_wp21;apply f.mono;rintro e n⟨rfl,rfl⟩;go_wp21;go_end0;exact⟨rfl,_,j g⟩
def tQ(p:PP w F b S o)(a:Int):Do 193 #[pT b 0,J a] ϳ w F b o (S.Mx a):=by have g:=ah (qg p a);clear p;go_enter func193,ntmps193;go_wp21;apply g.mono;rintro e l⟨rfl,h,c⟩;have d:=c.c.a;have k:=d.b 5;have i:=d.a 5 _ rfl;simp only[yf,yd,ye]at i;have f:Hid (∃j,To w F b o _ _ j):=⟨_,c.a (c.c.head (S':=S.Mx a) (vc':=h.h) (lb':=h.c) (cW.a 5 _) (d.e 5 _) rfl rfl rfl rfl rfl rfl c.c.vote (.inl ⟨rfl,rfl⟩))⟩;clear c d g;go_wp21;go_end0;exact⟨rfl,f⟩
def Cm(x:Nat)(c:x<64)(w:Δ):ϖ 294 #[.int .u64 x] w λe a=>ϱ e (J (Md.ir x))/\a=w:=by go_enter func294,ntmps294;go_wp2;go_ret;refine⟨dN ?_,rfl⟩;clear w;revert x;decide+kernel
def Ar(x:Nat)(a:x<64)(w:Δ):ϖ 268 #[.int .u64 x] w λe c=>ϱ e (J (Md.ir x))/\c=w:=by have h:=Cm x a;go_enter func268,ntmps268;go_wp2_with (go_at_call 294;apply (h _).mono;rintro e d⟨rfl,rfl⟩);go_ret;exact⟨rfl,rfl⟩
def CH(w:Δ):Prop:=∀i:Nat,i<64->ε w 1 i (.int .u8 (Lib.deBruijn64tab.getD i 0:Nat))
def IC:∀x:Nat,x<64->x≠0->0<=(IntKind.u64.wrap (bits .and .u64 (x:Nat) (IntKind.u64.wrap (-(x:Nat)))*285870213051353865)/288230376151711744)/\(IntKind.u64.wrap (bits .and .u64 (x:Nat) (IntKind.u64.wrap (-(x:Nat)))*285870213051353865)/288230376151711744).toNat<64/\Lib.deBruijn64tab.getD (IntKind.u64.wrap (bits .and .u64 (x:Nat) (IntKind.u64.wrap (-(x:Nat)))*285870213051353865)/288230376151711744).toNat 0=Md.Ik x:=by decide+kernel
def K4:∀i:Nat,i<64->Lib.deBruijn64tab.getD i 0<64:=by decide+kernel
def EL(x:Nat)(f:x<64)(w:Δ)(c:CH w):ϖ 235 #[.int .u64 x] w λe i=>ϱ e (J (Md.Ik x))/\i=w:=by
 by_cases d:x=0
 .subst d;go_enter func235,ntmps235;go_wp2;go_ret;exact⟨rfl,rfl⟩
 have g:¬x=0:=ω;have a:=IC x f d;have h:=c _ a.2.1;have k:=a.1;have l:(IntKind.u64.wrap (bits .and .u64 x (IntKind.u64.wrap (-(x:Nat)))*285870213051353865)/288230376151711744)<64:=ϕ a.2.1;rw[a.2.2]at h;have j:=ah (a.2.2▸K4 _ a.2.1);clear a c;go_enter func235,ntmps235;go_wp2;go_ret;refine⟨dN ?_,rfl⟩;have:=j.out;unfold wrap64;lia
def ID(x:Nat)(c:x<64)(w:Δ)(a:CH w):ϖ 192 #[.int .u64 x] w λe d=>ϱ e (J (Md.Ik x))/\d=w:=by have h:=EL x c w a;go_enter func192,ntmps192;go_wp2_with (go_at_call 235;apply h.mono;rintro e f⟨rfl,rfl⟩);go_ret;exact⟨rfl,rfl⟩
def tX(s:Int):Md.ir s<=6:=by unfold Md.ir Md.iX;exact yr (G3 _ _) ς
def zx{x:Int}(h:Md.bj x):∃a:Nat,x=a/\a<64:=by obtain⟨a,rfl⟩:=Fi h.1;exact⟨a,rfl,ϕ h.2⟩
def EM(p:PP w F b S o)(i:Wf S){d:Int}(c:Md.bj d):ϖ 237 #[pT b 0,J d] w λe q=>ϱ e (.bool (S.Nj d))/\Ϟ w q:=by
 have h:=p.a.a 7 _ rfl;simp only[yf,yd,ye]at h;obtain⟨a,rfl,n⟩:=zx c;obtain⟨m,g,f⟩:=zx i.mem;have k:Hid (S.Nj a=decide (Md.ir m<2*Md.ir a)):=by unfold Hid PS.Nj;rw[g]
 rw[g]at h;have t:=tX a;have s:=tX (m:Nat);have l:=Ar a n;have j:=Ar m f;clear p i c g;generalize u:Md.ir _=A at*;generalize r:Md.ir _=M at*;go_enter func237,ntmps237;go_wp21;go_quiet (first|(go_at_call 268;exact Calls.quiet_of_same (l _))|(go_at_call 268;exact Calls.quiet_of_same (j _)));go_wp21;go_ret;rw[k];refine⟨aB ?_,below_drewN Ϡ _⟩;rw[Bool.eq_iff_iff];simp;lia
def Cq(p:PP w F b S o)(i:Wf S)(j:CH w):ϖ 160 #[pT b 0] w λe t=>ϱ e (.bool S.M4)/\Ϟ w t:=by
 have s:=p.a.a 0 _ rfl;have q:=p.a.a 7 _ rfl;have n:=p.a.a 8 _ rfl;simp only[yf,yd,ye]at s q n;have g:=cK i.mem i.sus;obtain⟨a,f,d⟩:=zx g.2.2.2.1;have c:=g.1.trans f;have l:=λm=>ID a d (w.drewN m) j;have r:IntKind.u64.wrap (a:Int)=a:=
  have:∀x:Nat,x<64->IntKind.u64.wrap (x:Int)=x:=by decide+kernel
  this a d
 by_cases h:S.k=0
 .have k:Hid (S.M4=false):=by simp[Hid,PS.M4,h]
  rw[h]at n;clear p i j g f c l h;go_enter func160,ntmps160;go_wp21;go_quiet (fail);go_wp21;go_ret;rw[k];exact⟨rfl,below_drewN Ϡ _⟩
 have k:Hid (S.M4=decide (Md.Ik a=S.c)):=by simp[Hid,PS.M4,h,f]
 have u:(S.k==0)=false:=ϰ h;clear p i j g f;go_enter func160,ntmps160;go_wp21;go_quiet ((go_at_call 192;exact Calls.quiet_of_same (l _)));go_wp21;go_ret;rw[k];refine⟨aB ?_,below_drewN Ϡ _⟩;rw[Bool.eq_iff_iff];simp;try lia
def ET(p:PP w F b S o):ϖ 161 #[pT b 0] w λe h=>ϱ e (.bool S.Nb)/\Ϟ w h:=by
 have a:=p.a.a 13 _ rfl;have j:=p.a.a 8 _ rfl;simp only[yf,yd,ye]at j;rcases p.lead.cases with ⟨d,c⟩|⟨x,B,d,c,g⟩
 .have f:Hid (S.Nb=true):=by simp[Hid,PS.Nb,c]
  rw[d]at a;simp only[eb,yf,yd,ye]at a;clear p d c;go_enter func161,ntmps161;go_wp21;go_quiet (fail);go_wp21;go_ret;rw[f];exact⟨rfl,below_drewN Ϡ _⟩
 have f:Hid (S.Nb=decide (B.out≠S.k)):=by simp[Hid,PS.Nb,c]
 have i:=g.c.a 2 _ rfl;rw[d]at a;simp only[eb,bu,yf,yd,ye]at a i;clear p d c g;go_enter func161,ntmps161;go_wp21;go_quiet (fail);go_wp21;go_ret;rw[f];refine⟨aB ?_,below_drewN Ϡ _⟩;rw[Bool.eq_iff_iff];simp
end
section
open Go.RowKit
open Md (PS Vote Bal Lft Wf MsgW)
variable {w w':Δ}{F:ϑ}{b:Nat}{S:PS}{o:Pl}{k:Nat}{cut:Υ}{x:ϥ×Θ}
theorem pN{a:Type}{f:Nat->Option a}{n:Nat}{m:a}(h:∀q,q<k->f q=none)(g:f k=some m)(i:k<n):(List.range n).findSome? f=some m:=by
 induction n with
 |zero=>lia
 |succ n d=>
  rw[List.range_succ,List.findSome?_append];by_cases e:k=n;subst e;have:=List.findSome?_eq_none_iff.2 λq c=>h q (zD.1 c);rw[this];simp[g];rw[d ω];rfl
def PP.a4(p:PP w F b S o){m:ϥ}(h:m∈S.o):∃c,(m,c)∈o.l:=by rw[<-p.ms]at h;obtain⟨x,a,rfl⟩:=yW.1 h;exact⟨x.2,a⟩
def PP.p(p:PP w F b S o)(a:Wf S)(h:x∈o.l):MsgW S.n x.1:=a.ms x.1 (p.ms▸Hq h)
def PP.v(p:PP w F b S o)(a:∀x∈o.l,gL k (S.Ml.getD k 0+1) x.1=false):S.M9 cut k=none:=by
 have:S.o.find? (Md.eA k _)=none:=List.find?_eq_none.2 λm d=>by
  let ⟨e,c⟩:=p.a4 d
  have:=a _ c;rw[show Md.eA k _ m=gL k _ m from rfl,this];simp
 unfold PS.M9;rw[this];rfl
def PP.s(p:PP w F b S o)(a:x∈o.l)(g:gL k (S.Ml.getD k 0+1) x.1=true):S.M9 cut k=if Md.aR cut x.1&&ey S.Ml x.1.c k then some x.1 else none:=by
 have j:S.o.find? (Md.eA k (S.Ml.getD k 0+1))=some x.1:=by
  rcases e:S.o.find? _ with _|m;exact absurd g (List.find?_eq_none.1 e x.1 (p.ms▸Hq a))
  let ⟨i,n⟩:=p.a4 (List.mem_of_find?_eq_some e)
  by_cases f:x=(m,i)
  rw[f];exfalso;have d:=cu.1 ((List.find?_some e));have c:=cu.1 g;exact pC p.e.i a n f (by rw[cu];exact⟨d.1.trans c.1.symm,d.2.trans c.2.symm⟩)
 unfold PS.M9;rw[j];rfl
theorem pK(p:PP w F b S o)(O:Wf S)(cb cc:Nat)(Q:∀q,q<S.n->ε w cb q (J (cut.getD q 0))):ϖ 301 #[pT b 0,sT cb S.n cc] w λe a=>Ϟ w a/\((S.Mh cut=none/\ϱ e (.tuple #[.agg #[J 0,J 0,sN,.string ⟨#[]⟩],.bool false]))\/∃x∈o.l,S.Mh cut=some x.1/\ϱ e (.tuple #[aU x.1 x.2,.bool true])):=by
 let ⟨r,hr,_,b9⟩:=p.i O
 have d5:=World.block_lt_of_cell? w _ (Q S.c O.num);have d7:=O.g.1;have e6:=O.c;have HR:Hid (∀a,Ϟ w a->ϖ 119 #[pT b 0] a λe w''=>ϱ e (sT r S.n S.n)/\Ϟ a w''/\w''.heap=a.heap):=λa j=>np (p.c j) hr;have HC:Hid (∀a,Ϟ w a->ε a b 15 (.map (some o.m))/\∀q,q<S.n->ε a r q (J (S.Ml.getD q 0))):=λa j=>⟨(p.c j).a.a 15 _ rfl,λq hq=>(b9.c j b9.f).a q _ (ie ω)⟩;have b5:Hid (∀a(s q:Int),Ϟ w a->(∀x∈o.l,gL s q x.1=false)->(Instr.lookup 156 (.map (some o.m)) (.agg #[J s,J q]) true).run prog a=.ok (.tuple #[.agg #[J 0,J 0,sN,.string ⟨#[]⟩],.bool false]) a):=λa s q j D=>my a s q ((j.block o.m p.e.q).trans p.e.map) p.e.o D true;have R:Hid (∀a(s q:Int)(x:ϥ×Θ),Ϟ w a->x∈o.l->gL s q x.1=true->(Instr.lookup 156 (.map (some o.m)) (.agg #[J s,J q]) true).run prog a=.ok (.tuple #[aU x.1 x.2,.bool true]) a):=λa s q x j M hk=>mz a s q ((j.block o.m p.e.q).trans p.e.map) p.e.o p.e.i M hk true;have HT:Hid (∀x∈o.l,∃f g,x.2=sT f S.n g):=λx M=>by
  let ⟨f,g,e,_⟩:=jf p.e O.n0 M (p.p O M).t
  exact⟨f,g,e⟩
 have E:Hid (∀a(m:ϥ)(f g s:Nat),Ϟ w a->(m,Value.slice (some ⟨f,0,none⟩) S.n g)∈o.l->m.a=s->ϖ 304 #[pT b 0,aU m (sT f S.n g)] a λe w''=>ϱ e (.bool (ey S.Ml m.c s))/\Ϟ a w''):=λa m f g s j M Z=>by
  have a5:=(p.p O M).t;have p':=p.e.j j
  let ⟨e4,e7,e,hc⟩:=jf p' O.n0 M a5
  injection e with T e2 e3;injection T with T;injection T with T;subst T;exact Av p' O.c O.num m f g s Z a5 hc
 have HW:Hid (∀a(m:ϥ)(f g s:Nat),Ϟ w a->s<S.n->m.a=s->ϖ 273 #[sT cb S.n cc,aU m (sT f S.n g)] a λe w''=>ϱ e (.bool (Md.aR cut m))/\Ϟ a w''):=λa m f g s j hs Z=>by have:=lE (w:=a) cb S.n cc m (some ⟨f,0,none⟩) S.n g s (cut.getD s 0) hs Z ((j.cell (p:=(aT cb s)) d5).trans (Q s hs));rwa [show decide (m.seq<=cut.getD s 0)=Md.aR cut m by unfold Md.aR;rw[Z];rfl]at this
 have G:Hid (∀a,Below (w.heap.size+1) (w.alloc (.cells #[J 0,J 0,sN,.string ⟨#[]⟩] 179)) a->Ϟ w a/\af a w 179 #[J 0,J 0,sN,.string ⟨#[]⟩]):=λa j=>⟨(Ϡ.alloc Ϫ _).trans (j.mono ω),(af.d w _ rfl 179 #[J 0,J 0,sN,.string ⟨#[]⟩]).c j ω⟩;have c6:Hid (Below (w.heap.size+1) (w.alloc (.cells #[J 0,J 0,sN,.string ⟨#[]⟩] 179)) (w.alloc (.cells #[J 0,J 0,sN,.string ⟨#[]⟩] 179))):=Below.refl _ _;have a2:Hid ((w.alloc (.cells #[J 0,J 0,sN,.string ⟨#[]⟩] 179))=w.heap.size+1):=by simp[Hid]
 have P:Hid (∀q,q<S.n->0<=S.Ml.getD q 0/\S.Ml.getD q 0<=20):=λq hq=>O.g.at hq;have b0:Hid (∀k:Nat,(∀x∈o.l,gL k (S.Ml.getD k 0+1) x.1=false)->S.M9 cut k=none):=λk hk=>p.v hk;have b2:Hid (∀(k:Nat)x,x∈o.l->gL k (S.Ml.getD k 0+1) x.1=true->S.M9 cut k=if Md.aR cut x.1&&ey S.Ml x.1.c k then some x.1 else none):=λk x M hk=>p.s M hk;have HD:Hid (∀(k:Nat)(m:ϥ),(∀q,q<k->S.M9 cut q=none)->S.M9 cut k=some m->k<S.n->S.Mh cut=some m):=λk m h1 h2 h3=>pN h1 h2 h3;have a9:Hid ((∀q,q<S.n->S.M9 cut q=none)->S.Mh cut=none):=λh=>List.findSome?_eq_none_iff.2 λq hq=>h q (zD.1 hq);go_enter func301,ntmps301;go_wp21;generalize w.alloc _=w1 at G c6 a2|-;apply (HR w1 (G w1 c6).1).m;rintro w2⟨c1,-⟩;have c8:Hid (Below (w.heap.size+1) w1 w2):=c1.mono (by rw[a2];lia);go_wp21;go_loopw [13] (λi wr=>∃k:Nat,k<=S.n/\i=J k/\(∀q,q<k->S.M9 cut q=none)/\Below _ w1 wr) λi _=>S.n-(intOf i).toNat
 case atStart=>exact⟨0,ω,rfl,λx hq=>absurd hq ω,c8⟩
 case round=>
  obtain⟨k,hk,rfl,K,C⟩:=hrel;have a4:=ah C
  let ⟨j,Y⟩:=G wr C
  have d4:=ah j;have d:=ah Y;have B:=ah K;by_cases X:k<S.n
  .let ⟨e8,U⟩:=HC wr j
   have cr:=U k X;have d8:k<S.n:=ω;have e5:0<=k:=ω;have hb:=P k X;have H:Hid (S.M9 cut k=none->∀q,q<k+1->S.M9 cut q=none):=λe q hq=>by rcases Kq.1 hq with h|h;exact B q h;rwa [h]
   have c3:wrap64 (S.Ml.getD k 0+1)=S.Ml.getD k 0+1:=by unfold wrap64;lia
   by_cases D:∀x∈o.l,gL k (S.Ml.getD k 0+1) x.1=false
   .have t:=b5 wr k (S.Ml.getD k 0+1) j D;have HN:=H (b0 k D);have L:=ah HN;clear K C j Y U hb D HN;generalize S.Ml.getD k 0=y at cr c3 t;go_wp21;refine⟨⟨k+1,ω,by go_num,L,a4.alloc (by have:=a4.size;rwa [a2]at this) _⟩,by simp[intOf];lia⟩
   let ⟨x,M⟩:=Classical.not_forall.1 D
   let ⟨N,a6⟩:=Classical.not_imp.1 M
   have V:=Bool.of_not_eq_false a6
   let ⟨f,g,c5⟩:=HT x N
   have a0:=b2 k x N V
   let ⟨c,xv⟩:=x
   simp only at c5 V a0;subst c5;have t:=R wr k (S.Ml.getD k 0+1) _ j N V;simp only at t;have a8:c.a=(k:Int):=(cu.1 V).1;have L:Hid ((Md.aR cut c&&ey S.Ml c.c k)=false->∀q,q<k+1->S.M9 cut q=none):=λe=>H (by rw[a0,e];rfl);have a7:Hid ((Md.aR cut c&&ey S.Ml c.c k)=true->S.Mh cut=some c):=λe=>HD k c B (by rw[a0,e];rfl) X;have b7:Hid (∀a,Ϟ w a->ϖ 304 #[pT b 0,aU c (sT f S.n g)] a λe w''=>ϱ e (.bool (ey S.Ml c.c k))/\Ϟ a w''):=λa j=>E a c f g k j N a8;have c0:Hid (∀a,Ϟ w a->ϖ 273 #[sT cb S.n cc,aU c (sT f S.n g)] a λe w''=>ϱ e (.bool (Md.aR cut c))/\Ϟ a w''):=λa j=>HW a c f g k j X a8;have c9:=ah N;have b8:Hid (w.heap.size+1<=wr):=by have:=a4.size;rwa [a2]at this
   clear K C j Y U hb D HW E HT B N V M R b5 HC P a8 a0 H b0 b2 HD a9;generalize S.Ml.getD k 0=y at cr c3 t;generalize ey S.Ml c.c k=sb at L a7 b7;generalize Md.aR cut c=ic at L a7 c0;unfold aU at t b7 c0;go_wp21;have b4:Hid (Below (w.heap.size+1) w1 (wr.alloc (.cells #[J c.a,J c.seq,sT f S.n g,.string c.b] 179))):=a4.alloc b8 _;have c2:Hid (af (wr.alloc (.cells #[J c.a,J c.seq,sT f S.n g,.string c.b] 179)) wr 179 #[J c.a,J c.seq,sT f S.n g,.string c.b]):=af.d wr wr rfl 179 _;have d6:Hid (Below (wr.heap.size+1) (wr.alloc (.cells #[J c.a,J c.seq,sT f S.n g,.string c.b] 179)) (wr.alloc (.cells #[J c.a,J c.seq,sT f S.n g,.string c.b] 179))):=Below.refl _ _;have a1:Hid ((wr.alloc (.cells #[J c.a,J c.seq,sT f S.n g,.string c.b] 179))=wr.heap.size+1):=by simp[Hid]
   generalize wr.alloc (.cells #[J c.a,J c.seq,sT f S.n g,.string c.b] 179)=w3 at b4 c2 d6 a1|-;apply (c0 _ (G _ b4).1).m;rintro w4 a3;have b6:Hid (Below (w.heap.size+1) w1 w4):=b4.trans (a3.mono (ϵ a1.out b8.out));have A:Hid (af w4 wr 179 #[J c.a,J c.seq,sT f S.n g,.string c.b]):=c2.c a3 (by rw[a1];lia);have c4:Hid (wr.heap.size+1<=w4):=by have:=a3.size;rwa [a1]at this
   have d0:=A.z 0;have d1:=A.z 1;have d2:=A.z 2;have d3:=A.z 3;cases ic with
   |false=>
    go_wp21
    refine⟨⟨k+1,ω,by go_num,L ς,b6⟩,by simp[intOf];lia⟩
   |true=>
   go_wp21
   apply (b7 _ (G _ b6).1).m;rintro w5 b3;have b1:Hid (Below (w.heap.size+1) w1 w5):=b6.trans (b3.mono (ϵ c4.out b8.out));have I:Hid (af w5 wr 179 #[J c.a,J c.seq,sT f S.n g,.string c.b]):=A.c b3 (ϕ c4.out);have d0:=I.z 0;have d1:=I.z 1;have d2:=I.z 2;have d3:=I.z 3;have d:=ah ((G _ b1).2);have f0:=d.b 0;have f1:=d.b 1;have f2:=d.b 2;have f3:=d.b 3;have z0:=d.z 0;have z1:=d.z 1;have z2:=d.z 2;have z3:=d.z 3;have c7:=ah ((G _ b1).1);cases sb
   .go_wp21
    refine⟨⟨k+1,ω,by go_num,L ς,b1⟩,by simp[intOf];lia⟩
   go_wp21
   let ⟨u,W⟩:=ql d (J c.a) (J c.seq) (sT f S.n g) (.string c.b)
   generalize ((((w5.setCell ⟨w,0,none⟩ (J c.a)).setCell ⟨w,1,none⟩ (J c.seq)).setCell ⟨w,2,none⟩ (sT f S.n g)).setCell ⟨w,3,none⟩ (.string c.b))=w6 at u W|-;have e0:=u.z 0;have T:=u.z 1;have e3:=u.z 3;(try simp only[Exit.inBlock,Exit.then]);apply bodyPost_ret (v:=.tuple #[.agg #[J c.a,J c.seq,sT f S.n g,.string c.b],.bool true]) (by simp[results,results301,go_sem,e0,T,(u.z 2),e3]) rfl;exact⟨c7.trans (W.c Ϫ),.inr ⟨_,c9,a7 rfl,rfl⟩⟩
  have M:k=S.n:=ω;have d9:¬(k:Int)<(S.n:Int):=ω;have HE:=ah (a9 λq hq=>B q ω);have f0:=d.b 0;have f1:=d.b 1;have f2:=d.b 2;have f3:=d.b 3;have z0:=d.z 0;have z1:=d.z 1;have z2:=d.z 2;have z3:=d.z 3;go_wp21
  let ⟨u,W⟩:=ql d (J 0) (J 0) (sN) (.string ⟨#[]⟩)
  generalize ((((wr.setCell ⟨w,0,none⟩ (J 0)).setCell ⟨w,1,none⟩ (J 0)).setCell ⟨w,2,none⟩ (sN)).setCell ⟨w,3,none⟩ (.string ⟨#[]⟩))=w6 at u W|-;have e0:=u.z 0;have T:=u.z 1;have e2:=u.z 2;(try simp);apply bodyPost_ret (v:=.tuple #[.agg #[J 0,J 0,sN,.string ⟨#[]⟩],.bool false]) (by simp[results,results301,go_sem,e0,T,e2,(u.z 3)]) rfl;exact⟨d4.trans (W.c Ϫ),.inl ⟨HE,rfl⟩⟩
variable {wr:Δ}{T:PS}{oT:Pl}
def PP.z(p:PP w F b S o):mj w b=S.j.length:=p.e.v
structure Dz(w:Δ)(F:ϑ)(b:Nat)(o:Pl)(S:PS)(cut:Υ)(wr:Δ)(T:PS)(oT:Pl):Prop where
 a:To w F b o wr T oT
 c:Wf T
 n:T.n=S.n
 k:∃k,k+Md.fI T.Ml=Md.fI S.Ml/\T.j.length=S.j.length+k/\S.Mb cut=PS.Mt (121-k) T cut
theorem Dz.step{e:Δ}{g:Pl}{m:ϥ}(a:Wf S)(d:Dz w F b o S cut wr T oT)(i:T.Mh cut=some m)(h:To w F b o e (T.Ms m 2).M1 g):Dz w F b o S cut e (T.Ms m 2).M1 g:=by
 obtain⟨c,q,j,s,r,-⟩:=Md.dy i;obtain⟨l,t⟩:=d.c.k j s r (d.c.ms m c).a 2;obtain⟨k,x,u,p⟩:=d.k;have f:=Md.py a.g;have v:=a.c;refine⟨h,l.j,d.n,k+1,by show k+1+Md.fI (T.Ms m 2).Ml=_;lia,?_,?_⟩
 .show (T.j++[_]).length=_;simp only[yC,yx,yD];lia
 rw[p,show 121-k=(121-(k+1))+1 by lia,PS.Mt,i]
theorem Dz.d(a:Wf S)(d:Dz w F b o S cut wr T oT)(f:T.Mh cut=none):S.Mb cut=T:=by obtain⟨k,g,h,e⟩:=d.k;have c:=Md.py a.g;have i:=a.c;rw[e,show 121-k=(121-(k+1))+1 by lia,PS.Mt,f]
theorem iF(p:PP w F b S o)(z:Wf S)(H cc:Nat)(I:¬o.M b H)(g:∀q,q<S.n->ε w H q (J (cut.getD q 0))):Do 287 #[pT b 0,sT H S.n cc] ϳ w F b o (S.Mb cut):=by
 have v:=World.block_lt_of_cell? w _ (g S.c z.num);have d0:Hid (∃T f,Dz w F b o S cut w T f):=⟨S,o,To.f p,z,rfl,0,ω,ω,rfl⟩;have H1:Hid (∀wr T f,Dz w F b o S cut wr T f->Calls _ 301 _ wr λe w''=>Below _ wr w''/\((∃m i j r,(m,Value.slice i j r)∈f.l/\T.Mh cut=some m/\ϱ e (.tuple #[.agg #[J m.a,J m.seq,.slice i j r,.string m.b],.bool true]))\/(T.Mh cut=none/\ϱ e _))):=λwr T f d=>by have:=pK d.a.c d.c (cut:=cut) H cc λq X=>(World.cell?_of_block (a:=(aT H q)) (d.a.e.block H v I)).trans (g q (by rwa [<-d.n]));rw[d.n]at this;apply this.mono;rintro e w''⟨C,y⟩;refine⟨C,?_⟩;rcases y with ⟨G,rfl⟩|⟨x,A,G,rfl⟩;exact .inr ⟨G,rfl⟩;obtain⟨i,j,r,hv⟩:=(d.a.c.e.d x A).1.a;exact .inl ⟨x.1,i,j,r,by rwa [<-hv],G,by rw[<-hv];rfl⟩
 have H2:Hid (∀wr w'' T f(m:ϥ)i j r,Dz w F b o S cut wr T f->Ϟ wr w''->(m,Value.slice i j r)∈f.l->ϖ 138 #[pT b 0,.agg #[J m.a,J m.seq,.slice i j r,.string m.b],J 2] w'' λe E=>ϱ e ϳ/\∃Q,To w F b o E (T.Ms m 2) Q):=λwr w'' T f m i j r d C A=>
  (d.a.a (d.a.c.d C)).g (Ej (d.a.c.c C) d.c (d.a.c.p d.c A) ⟨_,_,_,rfl⟩ 2)
 have H3:Hid (∀wr E T f(m:ϥ)Q,Dz w F b o S cut wr T f->T.Mh cut=some m->To w F b o E (T.Ms m 2) Q->ϖ 140 #[pT b 0] E λe V=>ϱ e ϳ/\(∃T' o',Dz w F b o S cut V T' o')/\mj V b=T.j.length+1):=λwr E T f m Q d W h=>by obtain⟨Z,q,X,G,h2,-⟩:=Md.dy W;apply (h.g (rT h.c (d.c.k X G h2 (d.c.ms m Z).a 2).1)).mono;rintro e V⟨rfl,o4,h4⟩;refine⟨rfl,⟨_,_,d.step z W h4⟩,?_⟩;rw[h4.c.z];show (T.j++[_]).length=_;simp
 have HL:Hid (∀wr T f,Dz w F b o S cut wr T f->mj wr b=T.j.length/\T.j.length<=S.j.length+120):=λwr T f d=>⟨d.a.c.z,by obtain⟨k,G,h2,-⟩:=d.k;have:=Md.py z.g;have:=z.c;lia⟩;have HE:Hid (∀wr T f,Dz w F b o S cut wr T f->T.Mh cut=none->∀w'',Ϟ wr w''->∃o',To w F b o w'' (S.Mb cut) o'):=λwr T f d W w'' C=>d.d z W▸⟨_,d.a.a (d.a.c.d C)⟩;clear p z g I v;go_enter func287,ntmps287;go_wp2_with fail;go_loopw [] (λwr=>∃T f,Dz w F b o S cut wr T f) λwr=>S.j.length+121-mj wr b
 case atStart=>exact d0
 case round=>
  obtain⟨T,f,d⟩:=hrel;have D:=ah d;have K:=H1 _ _ _ d;have u:=HL _ _ _ d;clear d;go_wp2_with fail;apply K.mono;rintro e w2⟨L,y⟩;have s:=ah L;clear K L;rcases y with ⟨m,i,j,r,A,t,rfl⟩|⟨U,rfl⟩
  .have HX:=ah A;have R:=ah t;clear A t;go_wp2_with fail;have N:Hid (Ϟ wr (w2.alloc (.cells #[J m.a,J m.seq,.slice i j r,.string m.b] 179))):=s.alloc s.size _;have B:=H2 _ _ _ _ _ _ _ _ D N HX;generalize w2.alloc _=E at N B|-;apply B.mono;rintro e V⟨rfl,Q,h3⟩;have O:=H3 _ _ _ _ _ _ D R h3;clear B h3;go_wp2_with fail;apply O.mono;rintro e w5⟨rfl,P,Y⟩;have a1:=ah P;clear O P;go_wp2_with fail;exact⟨a1,by rw[Y,u.1];have:=u.2;lia⟩
  have a0:=ah U;clear U;go_wp2_with fail;(try simp only[Exit.inBlock,Exit.then]);apply bodyPost_ret (results_none rfl _ _ _) rfl;exact⟨rfl,HE _ _ _ D a0 _ (s.alloc s.size _)⟩
def nh(p:PP w F b S o)(d:Wf S){e:Θ}(f:aE w (o.R F b) e cut)(a:cut.length=S.n):Do 287 #[pT b 0,e] ϳ w F b o (S.Mb cut):=by obtain⟨c,h,rfl,-,-,i⟩:=mE f.d (a▸d.n0);have:=iF p d c h (f.c c rfl).2 λq g=>i q (by rwa [a]);rwa [a]
theorem qK(p:PP w F b S o)(i:Wf S):Do 255 #[pT b 0] ϳ w F b o S.MG:=by
 have l:Below _ w (w.alloc (.cells #[J 20] 3)):=Ϡ.alloc Ϫ _;have y:=(p.c l).a.a 1 _ rfl;simp only[yf,yd,ye]at y;have v:=Cn (x:=⟨⟨0,0,[],⟨#[]⟩⟩,J 0⟩) S.n _ 1 i.c i.n0 _ ((af.d w _ rfl 3 #[J 20]).a 0 _ rfl);have f:=ah v;have u:Hid (∀d g m,Below _ w d->w.heap.size<=g->(∀q,q<S.n->ε d g q (J 20))->Calls _ 287 _ d λe d=>ϱ e _/\∃z,To w F b o d S.MG z):=λd g m t s a=>
  (p.d t).g (iF (p.c t) i g m (λx=>ϕ (p.h x)) λq k=>(a q k).trans (by simp[k]))
 clear p v i;go_enter func255,ntmps255;go_wp21;apply f.mono;rintro e A⟨g,s,rfl,j,a⟩;have r:=u A g S.n (l.trans (j.mono ς)) (by have:=s;simp at this;lia) a;clear a f u;go_wp21;apply r.mono;rintro e B⟨rfl,c⟩;have h:=ah c;clear r c;go_wp21;go_end0;exact⟨rfl,h⟩
def Cb(l:List ϥ):(S.Mc l).n=S.n:=by
 unfold PS.Mc;induction l generalizing S with
 |nil=>rfl
 |cons m l a=>exact(a).trans (Md.DD m)
def tO(l:List ϥ)(m:ϥ):S.Mc (l++[m])=(S.Mc l).MX m:=by simp[PS.Mc]
theorem lB(p:PP w F b S o)(E:Wf S){l:List ϥ}{L:Θ}(A:bI w (o.R F b) L l)(B:∀m∈l,MsgW S.n m)(U:l.length<=1000):Do 257 #[pT b 0,L] ϳ w F b o (S.Mc l):=by
 have y:Hid (∀(k:Nat)wr o',k<l.length->To w F b o wr (S.Mc (l.take k)) o'->∃g j m r t u,L=sT g l.length j/\l[k]?=some m/\wr.cell? ⟨g,k*4,none⟩=some (J m.a)/\wr.cell? ⟨g,k*4+1,none⟩=some (J m.seq)/\wr.cell? ⟨g,k*4+2,none⟩=some (.slice r t u)/\wr.cell? ⟨g,k*4+3,none⟩=some (.string m.b)/\∀q,Ϟ wr q->ϖ 254 #[pT b 0,.agg #[J m.a,J m.seq,.slice r t u,.string m.b]] q λe Z=>ϱ e ϳ/\∃o3,To w F b o Z (S.Mc (l.take (k+1))) o3):=λk wr o' v h=>by have K:=A.c h.d;rcases K with ⟨-,e⟩|⟨g,j,f,hg,hR,z⟩;subst e;simp at v;have O:l[k]?=some l[k]:=yh v;obtain⟨tv,X,h1,C,h3,T⟩:=z k _ O;obtain⟨r,t,u,rfl⟩:=T.a;refine⟨g,j,l[k],r,t,u,f,O,X,h1,C,h3,λq H=>?_⟩;have V:=E.f (l:=l.take k) λm A=>B m (List.mem_of_mem_take A);rw[(by rw[<-tO,List.take_append_getElem v]:S.Mc (l.take (k+1))=(S.Mc (l.take k)).MX l[k])];have s:=T.f (h.c.d H).d;exact(h.a (h.c.d H)).g (Ak (h.c.c H) V (by rw[Cb];exact B _ (AF v)) s)
 have P:Hid (∃o',To w F b o w (S.Mc (l.take 0)) o'):=⟨o,To.f p⟩;have I:Hid (l.take l.length=l):=AE;rcases A with ⟨⟨r,c,rfl⟩,rfl⟩|⟨g,j,rfl,-,-,-⟩
 .clear p E B y I;go_enter func257,ntmps257;go_wp2_with fail;go_loopw [8] (λi wr=>i=J 0/\wr=w) λ_ _=>0
  case atStart=>exact⟨rfl,rfl⟩
  case round=>
   obtain⟨rfl,rfl⟩:=hrel;go_wp2_with fail;go_end0;exact⟨rfl,P⟩
 clear p E B;go_enter func257,ntmps257;go_wp2_with fail;go_loopw [8] (λi wr=>∃k:Nat,k<=l.length/\i=J k/\∃o',To w F b o wr (S.Mc (l.take k)) o') λi _=>l.length-(intOf i).toNat
 case atStart=>exact⟨0,ω,rfl,P⟩
 case round=>
  obtain⟨k,v,rfl,o',s⟩:=hrel;by_cases D:k<l.length
  .have N:k<l.length:=ω;have a0:0<=k:=ω;obtain⟨g',M,m,r,t,u,f,-,c0,c1,c2,c3,z⟩:=y k wr o' D s;injection f with f _ hcap;injection f with f;injection f with f;subst f hcap;have Q:=z (wr.alloc (.cells #[J m.a,J m.seq,.slice r t u,.string m.b] 179)) (Ϡ.alloc Ϫ _);have x:=ah Q;clear z Q s y;go_wp2_with fail;apply x.mono;rintro e w2⟨rfl,o2,C⟩;have H2:Hid (∃o',To w F b o w2 (S.Mc (l.take (k+1))) o'):=⟨o2,C⟩;clear C x;go_wp2_with fail;go_roundw
   case rel=>exact⟨k+1,ω,by go_num,H2⟩
   case measure=>simp[intOf];lia
  have W:¬(k:Int)<(l.length:Int):=ω;have G:k=l.length:=ω;have Y:Hid (∃o',To w F b o wr (S.Mc l) o'):=⟨o',by rwa [G,I]at s⟩;clear s y I;go_wp2_with fail;go_end0;exact⟨rfl,Y⟩
variable {xs:aL}
theorem PP.u(p:PP w F b S o)(g:Wf S):S.o.length<=126:=by
 have r:=BG.1 p.e.i;rw[p.ms]at r;have E:=g.c;have k:∀d:List _,(∀m∈d,MsgW S.n m)->Mo.gv d->(d.map λm=>m.a.toNat*21+m.seq.toNat).Nodup:=by
  intro d;induction d with
  |nil=>intros;simp
  |cons x d v=>
   intro j i;have c:=K9.1 i;rw[yN,List.nodup_cons];refine⟨λh=>?_,v (λm l=>j m (by simp[l])) c.2⟩;obtain⟨y,q,e⟩:=yW.1 h;have a:=j x ς;have f:=j y (by simp[q]);obtain⟨t,-,u⟩:=a.s;obtain⟨G,-,H⟩:=f.s;have B:=a.b;have A:=a.a;have D:=f.b;have C:=f.a;exact c.1 y q ⟨ω,ω⟩
 have a:=k S.o g.ms r;have f:=Mo.mh 126 _ a λx h=>by obtain⟨m,l,rfl⟩:=yW.1 h;have a:=g.ms m l;obtain⟨t,z,u⟩:=a.s;have B:=a.b;have A:=a.a;lia
 simpa using f
def PP.b3(p:PP w F b S o):∀a∈S.o,∀c∈S.o,a.a=c.a->a.seq=c.seq->a=c:=λa l c j h g=>by obtain⟨i,d⟩:=p.a4 l;obtain⟨k,f⟩:=p.a4 j;by_cases e:(a,i)=(c,k);injection e;exact absurd (cu.2 ⟨h.symm,g.symm⟩) (pC p.e.i d f e)
theorem vl.a(p:PP w F b S o)(h:vl xs o.l):xs.map Prod.fst=S.Mp:=by refine Md.DI (p.ms▸h.1.map _) (List.pairwise_map.2 (h.2.imp λ{x y}a=>?_)) p.b3;rw[Am,decide_eq_false_iff_not]at a;rw[Md.iC];lia
def fu.r{M a:Nat}{R:ϑ}(h:fu w M xs xs.length)(s:R M)(r:∀x∈xs,aE w R x.2 x.1.c):bI w R (sT M xs.length a) (xs.map Prod.fst):=by obtain⟨g,l,t,f⟩:=h;refine .inr ⟨M,a,by rw[yL],(yk.1 l).1,s,λj m q=>?_⟩;obtain⟨x,d,rfl⟩:∃x,xs[j]?=some x/\x.1=m:=ϰ q;have e:=(ym.1 d).1;obtain⟨k,p,n,i⟩:=f j x e d;have c:af w M 179 g:=l;rw[Nat.mul_comm 4 j]at k p n i;exact⟨x.2,c.a _ _ k,c.a _ _ p,c.a _ _ n,c.a _ _ i,r x (yy d)⟩
def gF(p:PP w F b S o)(j:Wf S):ϖ 166 #[pT b 0] w λe d=>Ϟ w d/\∃M a,w.heap.size<=M/\ϱ e (sT M a.length a.length)/\fu d M a a.length/\a.map Prod.fst=S.Mp/\∀x∈a,x∈o.l:=by
 have k:o.l.length<=126:=by have:=p.u j;rw[<-p.ms]at this;simpa using this
 apply (jQ p.e ω).mono;rintro e d⟨i,M,a,h,f,rfl,c⟩;rw[<-f.1.length_eq]at c|-;exact⟨i,M,a,h,rfl,c,f.a p,λx g=>f.1.mem_iff.1 g⟩
def PP.g(p:PP w F b S o){x:Nat}(a:w.heap.size<=x):o.R F b x:=⟨p.up x a,λh=>ϕ (p.h h)⟩
def pR(p:PP w F b S o)(h:Wf S):ϖ 166 #[pT b 0] w λe d=>Ϟ w d/\∃v,ϱ e v/\bI d (o.R F b) v S.Mp:=by apply (gF p h).mono;rintro e d⟨f,M,j,g,rfl,c,a,i⟩;refine⟨f,_,rfl,?_⟩;rw[<-a];exact c.r (p.g g) λx a=>(p.c f).a3 (i x a)
end
section
open Go.RowKit
open Md (PS Vote Bal Lft Wf MsgW)
variable {w w':Δ}{xb cb n cc M N:Nat}{cut:Υ}{f:Nat->Option (ϥ×Θ)}
structure nC(w:Δ)(xb cb n cc:Nat)(cut:Υ):Prop where
 c:ε w xb 0 (sT cb n cc)
 d:∀q,q<n->ε w cb q (J (cut.getD q 0))
 g:xb<w
 e:cb<w
def nC.b(h:nC w xb cb n cc cut)(b:w'.heap[xb]?=w.heap[xb]?)(d:w'.heap[cb]?=w.heap[cb]?)(a:w.heap.size<=w'):nC w' xb cb n cc cut:=
 ⟨(World.cell?_of_block b).trans h.c,λq c=>(World.cell?_of_block d).trans (h.d q c),yg h.g a,yg h.e a⟩
def nC.a(h:nC w xb cb n cc cut)(a:Ϟ w w'):nC w' xb cb n cc cut:=h.b (a.block _ h.g) (a.block _ h.e) a.size
def sd(h:nC w xb cb n cc cut)(m:ϥ)(g:ϣ)(c d:Nat)(r:∃s:Nat,s<n/\m.a=s):ϖ 272 #[aU m (.slice g c d),pT xb 0] w λe p=>ϱ e (.bool (!Md.aR cut m))/\Ϟ w p:=by
 obtain⟨s,o,b⟩:=r;have i:Hid (Ϟ w (w.alloc (.cells #[J m.a,J m.seq,.slice g c d,.string m.b] 179))):=Ϡ.alloc Ϫ _;have t:=(h.a i).c;have l:Hid (ϖ 273 #[sT cb n cc,.agg #[J m.a,J m.seq,.slice g c d,.string m.b]] (w.alloc (.cells #[J m.a,J m.seq,.slice g c d,.string m.b] 179)) λe j=>ϱ e (.bool (Md.aR cut m))/\Ϟ w j):=by apply (lE cb n cc m g c d s _ o b ((h.a i).d s o)).mono;rintro e q⟨rfl,a⟩;exact⟨by rw[show decide _=Md.aR cut m by unfold Md.aR;rw[b];rfl],i.trans (a.mono ς)⟩
 generalize Md.aR cut m=u at l;clear h b;unfold aU;go_enter func272,ntmps272;go_wp21;apply l.mono;rintro e q⟨rfl,a⟩;have k:=ah a;clear a l;go_wp21;go_ret;exact⟨rfl,k⟩
structure In(w:Δ)(M N:Nat)(at_:Nat->Option (ϥ×Θ)):Prop where
 c:∃cur:ϡ,w.heap[M]?=some (.cells cur 179 (0,0))/\cur.size=N*4/\∀i x,at_ i=some x->i<N->cur[i*4]?=some (J x.1.a)/\cur[i*4+1]?=some (J x.1.seq)/\cur[i*4+2]?=some x.2/\cur[i*4+3]?=some (.string x.1.b)
def In.b(h:In w M N f){i:Nat}{x:ϥ×Θ}(d:f i=some x)(l:i<N):w.cell? ⟨M,i*4,none⟩=some (J x.1.a)/\w.cell? ⟨M,i*4+1,none⟩=some (J x.1.seq)/\w.cell? ⟨M,i*4+2,none⟩=some x.2/\w.cell? ⟨M,i*4+3,none⟩=some (.string x.1.b):=by obtain⟨c,j,-,b⟩:=h.c;obtain⟨g,m,k,e⟩:=b i x d l;have a:af w M 179 c:=j;exact⟨a.a _ _ g,a.a _ _ m,a.a _ _ k,a.a _ _ e⟩
def In.e(h:In w M N f):M<w:=by obtain⟨a,b,-⟩:=h.c;exact(yk.1 b).1
def In.a(h:In w M N f)(d:w'.heap[M]?=w.heap[M]?):In w' M N f:=
 let ⟨a,e,c,b⟩:=h.c
 ⟨a,d.trans e,c,b⟩
def ED{cap:Nat}(h:nC w xb cb n cc cut)(b:aL)(t:In w M b.length λi=>b[i]?)(H:∀x∈b,MsgW n x.1)(U:∀x∈b,∃l o p,x.2=.slice l o p)(hl:b.length<=1000):ϖ 295 #[sT M b.length cap,.func (.func 272) #[] #[pT xb 0]] w λe F=>Ϟ w F/\((ϱ e (J (-1))/\∀x∈b,Md.aR cut x.1=true)\/∃k:Nat,ϱ e (J k)/\k<b.length/\(∀x∈b.take k,Md.aR cut x.1=true)/\∀x,b[k]?=some x->Md.aR cut x.1=false):=by
 have eg:=enters_of func272 κ rfl;have Q:Hid (∀(k:Nat)wr,k<b.length->Ϟ w wr->∃m l o p,b[k]?=some (m,.slice l o p)/\wr.cell? ⟨M,k*4,none⟩=some (J m.a)/\wr.cell? ⟨M,k*4+1,none⟩=some (J m.seq)/\wr.cell? ⟨M,k*4+2,none⟩=some (.slice l o p)/\wr.cell? ⟨M,k*4+3,none⟩=some (.string m.b)/\ϖ 272 #[.agg #[J m.a,J m.seq,.slice l o p,.string m.b],pT xb 0] wr λe F=>ϱ e (.bool (!Md.aR cut m))/\Ϟ w F):=λk wr A r=>by have d:=yh A;have O:=AF A;obtain⟨l,o,p,I⟩:=U _ O;obtain⟨R,T,W,S⟩:=(t.a (r.block _ t.e)).b d A;refine⟨b[k].1,l,o,p,by rw[d,<-I],R,T,by rwa [<-I],S,?_⟩;apply (sd (h.a r) b[k].1 l o p (H _ O).s).mono;rintro e G⟨rfl,c⟩;exact⟨rfl,r.trans (c.mono r.size)⟩
 have L:Hid (∀(k:Nat)x,b[k]?=some x->Md.aR cut x.1=true->(∀x∈b.take k,Md.aR cut x.1=true)->∀x∈b.take (k+1),Md.aR cut x.1=true):=λk x d D Z y z=>by obtain⟨A,d⟩:=ym.1 d;rw[<-List.take_append_getElem A,yz,yu]at z;rcases z with z|z;exact Z y z;rwa [z,d]
 clear h t H U;go_enter func295,ntmps295;go_wp2_with fail;go_loopw [5,8] (λ_ i wr=>∃k:Nat,k<=b.length/\i=J k/\(∀x∈b.take k,Md.aR cut x.1=true)/\Below _ w wr) λ_ i _=>b.length-(intOf i).toNat
 case atStart=>exact⟨0,ω,rfl,ς,Below.refl _ _⟩
 case round=>
  obtain⟨k,A,rfl,q,r⟩:=hrel;have g:=ah q;have HB:=ah r;clear q;by_cases B:k<b.length
  .have K:k<b.length:=ω;have a0:0<=k:=ω;obtain⟨m,l,o,p,d,R,T,W,S,D⟩:=Q k wr B r;have s:=ah D;have P:=ah λe=>L k _ d e g;have V:Hid (Md.aR cut m=false->∀x,b[k]?=some x->Md.aR cut x.1=false):=λe x C=>by rw[d]at C;cases C;exact e
   clear r D Q L d;generalize Md.aR cut m=Y at s P V;cases Y with
   |true=>
    go_wp2_with (go_at_call 272;apply s.mono;rintro e G⟨rfl,c⟩;have u:=ah c;clear c);go_roundw
    case rel=>exact⟨k+1,ω,by go_num,P trivial,u⟩
    case measure=>simp[intOf];lia
   |false=>
    go_wp2_with (go_at_call 272;apply s.mono;rintro e G⟨rfl,c⟩;have u:Hid (Ϟ w G):=c;clear c);go_ret;exact⟨u,.inr ⟨k,rfl,B,g,V trivial⟩⟩
  have X:¬(k:Int)<(b.length:Int):=ω;have E:k=b.length:=ω;go_wp2_with fail;go_ret;exact⟨HB,.inl ⟨rfl,λa v d=>g (a,v) (by rwa [E,AE])⟩⟩
def BO(w:Δ)(M o m c:Nat)(s:m≠0){a:ϡ}(p:w.heap[M]?=some (.cells a 179 (0,0)))(y:o+m*4<=a.size):∃l,(Builtin.clear_ #[163] 0 #[.slice (some ⟨M,o,none⟩) m c]).run prog w=.ok ϳ l/\w.grownBy l (some M)/\∃b:ϡ,l.heap[M]?=some (.cells b 179 (0,0))/\b.size=a.size/\∀i,i<o->b[i]?=a[i]?:=by
 have r:=zeroValue179 w;have d:(Builtin.zeroCells (Value.agg #[J 0,J 0,sN,.string ⟨#[]⟩]).cells m).toList.length=m*4:=by rw[AG,size_zeroCells];rfl
 have g:∀v∈(Builtin.zeroCells (Value.agg #[J 0,J 0,sN,.string ⟨#[]⟩]).cells m).toList,v.oneCell'=true:=by
  intro v n;simp only[Builtin.zeroCells,yV,yW]at n;obtain⟨i,-,rfl⟩:=n;have:i%(Value.agg #[J 0,J 0,sN,.string ⟨#[]⟩]).cells.size<4:=Nat.mod_lt _ θ;generalize i%(Value.agg _).cells.size=j at this;match j,this with
  |0,_=>rfl
  |1,_=>rfl
  |2,_=>rfl
  |3,_=>rfl
 have f:=run_storeCells_at prog M o 179 _ 0 a w p (by rw[d];lia) g;generalize k:(Builtin.zeroCells _ m).toList=t at f d;generalize q:(a.toList.take (o+0)++t++a.toList.drop _).toArray=R at f;refine⟨w.setRow M R,?_,⟨rfl,rfl,rfl,by simp[World.setRow],λx _ h=>setRow_other _ _ _ _ λe=>h (by rw[e])⟩,R,setRow_heap w M _ _ 179 _ p,?_,λi u=>?_⟩
 .cases m with
  |zero=>exact absurd rfl s
  |succ m=>
   simp only[Builtin.clear_,ya7,AH,Sem.run_bind,run_underlying underlying163,Result.andThen,r,k,f,Sem.run_pure]
 .rw[<-q];simp only[yJ,yC,xk,I5,d,AG];lia
 rw[<-q,ya7,I3,y7 (by simp;lia),List.getElem?_take,if_pos ω,Array.getElem?_toList]
def In.put{w l:Δ}{M N i:Nat}{f:Nat->Option (ϥ×Θ)}(h:In w M N f)(x:ϥ×Θ)(o:l=(((w.setCell ⟨M,i*4,none⟩ (J x.1.a)).setCell ⟨M,i*4+1,none⟩ (J x.1.seq)).setCell ⟨M,i*4+2,none⟩ x.2).setCell ⟨M,i*4+3,none⟩ (.string x.1.b)):In l M N λa=>if a=i then some x else f a:=by
 obtain⟨c,v,m,k⟩:=h.c;have r:af w M 179 c:=v;have g:=(((r.e (i*4) (J x.1.a)).e (i*4+1) (J x.1.seq)).e (i*4+2) x.2).e (i*4+3) (.string x.1.b);rw[<-o]at g;refine⟨_,g,ϰ m,λa y j z=>?_⟩;by_cases e:a=i
 .subst e;rw[if_pos rfl]at j;cases j;simp only[LK,Array.size_setIfInBounds];refine⟨?_,?_,?_,?_⟩<;>simp (config:={decide:=true}) [m]<;>lia
 rw[if_neg e]at j;obtain⟨u,s,A,t⟩:=k a y j z;have n:∀p q,p<4->q<4->i*4+p≠a*4+q:=λp q B d=>ω;have b:∀q,q<4->((((c.setIfInBounds (i*4) (J x.1.a)).setIfInBounds (i*4+1) (J x.1.seq)).setIfInBounds (i*4+2) x.2).setIfInBounds (i*4+3) (.string x.1.b))[a*4+q]?=c[a*4+q]?:=λq d=>by rw[yP (n 3 q θ d),yP (n 2 q θ d),yP (n 1 q θ d),yP (by have:=n 0 q θ d;simpa using this)]
 exact⟨(b 0 θ).trans u,(b 1 θ).trans s,(b 2 θ).trans A,(b 3 θ).trans t⟩
def In.d{w:Δ}{M N:Nat}{f g:Nat->Option (ϥ×Θ)}(h:In w M N f)(k:∀a x,a<N->g a=some x->f a=some x):In w M N g:=
 let ⟨c,j,i,b⟩:=h.c
 ⟨c,j,i,λa x e d=>b a x (k a x d e) d⟩
variable {xs:aL}{j:Nat}{x:ϥ×Θ}
def bq(cut:Υ)(xs:aL)(j:Nat):aL:=(xs.take j).filter λx=>Md.aR cut x.1
theorem rV(a:Υ)(b:aL)(j:Nat):(bq a b j).length<=j:=yr (G3 _ _) (by simp;lia)
def ff(a:xs[j]?=some x):bq cut xs (j+1)=if Md.aR cut x.1 then bq cut xs j++[x] else bq cut xs j:=by obtain⟨b,rfl⟩:=ym.1 a;unfold bq;rw[<-List.take_append_getElem b,La];cases h:Md.aR cut xs[j].1<;>simp[h]
def fh(cut:Υ)(xs:aL)(j a:Nat):Option (ϥ×Θ):=if a<(bq cut xs j).length then (bq cut xs j)[a]? else if j<=a then xs[a]? else none
def EN(d:xs[j]?=some x)(e:Md.aR cut x.1=false)(a:Nat)(y:ϥ×Θ)(h:fh cut xs (j+1) a=some y):fh cut xs j a=some y:=by
 unfold fh at h|-;rw[ff d,e]at h;simp at h;split
 .rename_i b;rwa [if_pos b]at h
 rename_i b
 rw[if_neg b]at h;by_cases c:j+1<=a;rw[if_pos c]at h;rwa [if_pos ω];rw[if_neg c]at h;cases h
def Gs(d:xs[j]?=some x)(g:Md.aR cut x.1=true)(a:Nat)(y:ϥ×Θ)(h:fh cut xs (j+1) a=some y):(if a=(bq cut xs j).length then some x else fh cut xs j a)=some y:=by unfold fh at h|-;rw[ff d,g]at h;simp at h;have f:=rV cut xs j;by_cases e:a=(bq cut xs j).length;subst e;rw[if_pos rfl];rw[if_pos ω,Fl Ϫ]at h;simpa using h;rw[if_neg e];by_cases b:a<(bq cut xs j).length;rw[if_pos b];rwa [if_pos ω,y7 b]at h;rw[if_neg b];rw[if_neg ω]at h;by_cases c:j+1<=a;rw[if_pos c]at h;rwa [if_pos ω];rw[if_neg c]at h;cases h
theorem vH{w:Δ}{xb cb n cc M:Nat}(h:nC w xb cb n cc cut)(b4:xb≠M)(c5:cb≠M)(xs:aL)(N:In w M xs.length λi=>xs[i]?)(hW:∀x∈xs,MsgW n x.1)(hT:∀x∈xs,∃s t u,x.2=.slice s t u)(hl:xs.length<=1000):ϖ 271 #[sT M xs.length xs.length,.func (.func 272) #[] #[pT xb 0]] w λe p=>ϱ e (sT M (xs.filter λx=>Md.aR cut x.1).length xs.length)/\w.grownBy p (some M)/\In p M xs.length λi=>(xs.filter λx=>Md.aR cut x.1)[i]?:=by
 have eg:=enters_of func272 κ rfl;have a1:=N.e;have a5:=ah ((ED (cap:=xs.length) h xs N hW hT hl));have K:Hid (∀p,Ϟ w p->(∀x∈xs,Md.aR cut x.1=true)->xs.filter (λx=>Md.aR cut x.1)=xs/\w.grownBy p (some M)/\In p M xs.length λi=>(xs.filter λx=>Md.aR cut x.1)[i]?):=λp v Y=>by rw[(List.filter_eq_self.2 Y)];exact⟨rfl,{v with block:=λk A _=>v.block k A},N.a (v.block M a1)⟩
 have a2:Hid (∀p(k:Nat),Ϟ w p->k<xs.length->(∀x∈xs.take k,Md.aR cut x.1=true)->(∀x,xs[k]?=some x->Md.aR cut x.1=false)->k=(bq cut xs (k+1)).length/\w.grownBy p (some M)/\In p M xs.length (fh cut xs (k+1))/\(bq cut xs xs.length).length<xs.length):=λp k v A Y hf=>by
  have G:xs[k]?=some xs[k]:=yh A;have e0:bq cut xs k=xs.take k:=List.filter_eq_self.2 Y;have e1:bq cut xs (k+1)=xs.take k:=by rw[ff G,hf _ G,e0];rfl
  refine⟨by rw[e1,xk];lia,{v with block:=λk A _=>v.block k A},(N.a (v.block M a1)).d λa y d7 F=>?_,?_⟩
  .unfold fh at F;rw[e1]at F;split at F
   .rename_i h1
    rwa [List.getElem?_take,if_pos (by rw[xk]at h1;lia)]at F
   split at F;exact F;cases F
  unfold bq;rw[AE];refine Nat.lt_of_le_of_ne (G3 _ _) λe=>?_;have:=List.length_filter_eq_length_iff.1 e xs[k] (AF A);rw[hf _ G]at this;cases this
 have HC:Hid (∀(j:Nat)wr,j<xs.length->w.grownBy wr (some M)->In wr M xs.length (fh cut xs j)->∃m s t u,xs[j]?=some (m,.slice s t u)/\wr.cell? ⟨M,j*4,none⟩=some (J m.a)/\wr.cell? ⟨M,j*4+1,none⟩=some (J m.seq)/\wr.cell? ⟨M,j*4+2,none⟩=some (.slice s t u)/\wr.cell? ⟨M,j*4+3,none⟩=some (.string m.b)/\∀p,Ϟ wr p->ϖ 272 #[.agg #[J m.a,J m.seq,.slice s t u,.string m.b],pT xb 0] p λe c4=>ϱ e (.bool (!Md.aR cut m))/\Ϟ p c4):=λj wr hj O hmid=>by
  have G:xs[j]?=some xs[j]:=yh hj;have hm:=AF hj
  let ⟨s,t,u,hv⟩:=hT _ hm
  have c9:=rV cut xs j;have P:fh cut xs j j=some xs[j]:=by unfold fh;rwa [if_neg ω,if_pos Ϫ]
  let ⟨c0,c1,c2,c3⟩:=hmid.b P hj
  refine⟨xs[j].1,s,t,u,by rw[G,<-hv],c0,c1,by rwa [<-hv],c3,λp v=>?_⟩;exact sd ((h.b (O.block xb h.g λe=>b4 (by injection e)) (O.block cb h.e λe=>c5 (by injection e)) O.size).a v) xs[j].1 s t u (hW _ hm).s
 have a6:Hid (∀wr,w.grownBy wr (some M)->In wr M xs.length (fh cut xs xs.length)->(bq cut xs xs.length).length<xs.length->∃H,(Builtin.clear_ #[163] 0 #[.slice (some ⟨M,(bq cut xs xs.length).length*4,none⟩) (xs.length-(bq cut xs xs.length).length) (xs.length-(bq cut xs xs.length).length)]).run prog wr=.ok ϳ H/\w.grownBy H (some M)/\In H M xs.length λi=>(bq cut xs xs.length)[i]?):=λwr O hmid T=>by
  let ⟨Q,hc,hs,P⟩:=hmid.c
  let ⟨H,hr,S,a8,c6,c7,W⟩:=BO wr M ((bq cut xs xs.length).length*4) (xs.length-(bq cut xs xs.length).length) (xs.length-(bq cut xs xs.length).length) ω hc (by rw[hs];lia)
  refine⟨H,hr,O.trans S,a8,c6,by rw[c7,hs],λi x G hi=>?_⟩;have b9:=(ym.1 G).1
  let ⟨h0,h1,h2,h3⟩:=P i x (by unfold fh;rwa [if_pos b9]) hi
  exact⟨(W _ ω).trans h0,(W _ ω).trans h1,(W _ ω).trans h2,(W _ ω).trans h3⟩
 have D:Hid (∀wr(i:Nat)f,In wr M xs.length f->i<xs.length->∀q,wr.frozen? ⟨M,i*4+q,none⟩=false):=λwr i f hmid hi q=>
  let ⟨Q,hc,hs,P⟩:=hmid.c
  frozen_of_row wr M (i*4+q) Q 179 hc
 have X:Hid (∀wr(i:Nat)f,In wr M xs.length f->i<xs.length->∀q,q<4->∃c,wr.cell? ⟨M,i*4+q,none⟩=some c):=λwr i f hmid hi q hq=>
  let ⟨Q,hc,hs,P⟩:=hmid.c
  have hB:af wr M 179 Q:=hc;have T:i*4+q<Q.size:=by rw[hs];lia
  ⟨_,hB.a _ _ (yl T)⟩
 have b0:Hid (bq cut xs xs.length=xs.filter λx=>Md.aR cut x.1):=by unfold Hid bq;rw[AE]
 go_enter func271,ntmps271;go_wp21;apply a5.mono;rintro e H⟨U,b2⟩;rcases b2 with ⟨rfl,Y⟩|⟨k,rfl,A,Y,hf⟩
 .let ⟨e1,e2,e3⟩:=K H U Y
  have HE:Hid (xs.filter (λx=>Md.aR cut x.1)=xs/\w.grownBy H (some M)/\In H M xs.length λi=>(xs.filter λx=>Md.aR cut x.1)[i]?):=⟨e1,e2,e3⟩;go_wp21;go_ret;exact⟨by rw[HE.1];rfl,HE.2⟩
 let ⟨e1,e2,e3,e4⟩:=a2 H k U A Y hf
 have HK:=ah e4;have H0:Hid (k=(bq cut xs (k+1)).length/\w.grownBy H (some M)/\In H M xs.length (fh cut xs (k+1))):=⟨e1,e2,e3⟩;have e8:((k:Int)== -1)=false:=by rw[beq_eq_false_iff_ne];lia
 clear Y hf e1 e2 e3 e4 a2 K a5 U;go_wp21;go_loopw [5,6] (λui uj wr=>∃i j:Nat,ui=J i/\uj=J j/\j<=xs.length/\i=(bq cut xs j).length/\i<=j/\w.grownBy wr (some M)/\In wr M _ (fh cut xs j)) λ_ uj _=>xs.length-(intOf uj).toNat
 case atStart=>exact⟨k,k+1,rfl,by go_num,ω,H0.1,ω,H0.2⟩
 case round=>
  obtain⟨i,j,rfl,rfl,hj,hi,e7,O,hmid⟩:=hrel;have B:=ah hi;have HG:=ah O;have HM:=ah hmid;clear hi;by_cases T:j<xs.length
  .have c8:(j:Int)<(xs.length:Int):=ω;have d6:(0:Int)<=(j:Int):=ω;have b8:(0:Int)<=(i:Int):=ω;have b7:(i:Int)<(xs.length:Int):=ω
   let ⟨m,s,t,u,G,c0,c1,c2,c3,hc⟩:=HC j wr T O hmid
   have a4:Ϟ wr (wr.alloc (.cells #[J m.a,J m.seq,.slice s t u,.string m.b] 179)):=Ϡ.alloc Ϫ _;have r:Hid (ϖ 272 _ _ _):=hc _ a4;have HX:=ah G;have a3:Hid (af (wr.alloc (.cells #[J m.a,J m.seq,.slice s t u,.string m.b] 179)) wr 179 #[J m.a,J m.seq,.slice s t u,.string m.b]):=af.d wr wr rfl 179 _;have L:Hid ((wr.alloc (.cells #[J m.a,J m.seq,.slice s t u,.string m.b] 179))=wr.heap.size+1):=by simp[Hid]
   have V:=ah a4;cases C:Md.aR cut m
   .rw[C]at r;go_wp21;generalize wr.alloc (.cells #[J m.a,J m.seq,.slice s t u,.string m.b] 179)=w3 at r a3 L V|-;apply r.m;rintro z E;have l:Hid (Ϟ wr z):=V.trans (E.mono (by rw[L];lia));have HR:Hid (i=(bq cut xs (j+1)).length/\w.grownBy z (some M)/\In z M xs.length (fh cut xs (j+1))):=by refine⟨by rwa [ff HX,C],HG.trans {l with block:=λk A _=>l.block k A},(HM.a (l.block M HM.e)).d λa y _ F=>EN HX C a y F⟩
    go_wp21
    exact⟨⟨i,j+1,rfl,by go_num,ω,HR.1,ω,HR.2⟩,by simp[intOf];lia⟩
   rw[C]at r;go_wp21;generalize wr.alloc (.cells #[J m.a,J m.seq,.slice s t u,.string m.b] 179)=w3 at r a3 L V|-;apply r.m;rintro z E;have l:Hid (Ϟ wr z):=V.trans (E.mono (by rw[L];lia));have I:=a3.c E (by rw[L];lia);have d0:=I.z 0;have d1:=I.z 1;have d2:=I.z 2;have d3:=I.z 3;have o:=ah (HM.a (l.block M HM.e));have f0:=D z i _ o ω 0;have f1:=D z i _ o ω 1;have f2:=D z i _ o ω 2;have f3:=D z i _ o ω 3;simp at f0
   let ⟨g0,b5⟩:=X z i _ o ω 0 θ
   let ⟨g1,d9⟩:=X z i _ o ω 1 θ
   let ⟨g2,S⟩:=X z i _ o ω 2 θ
   let ⟨g3,e6⟩:=X z i _ o ω 3 θ
   simp at b5;have R:=ah (HG.trans {l with block:=λk A _=>l.block k A});have HR:Hid (∀w5,w5=(((z.setCell ⟨M,i*4,none⟩ (J m.a)).setCell ⟨M,i*4+1,none⟩ (J m.seq)).setCell ⟨M,i*4+2,none⟩ (.slice s t u)).setCell ⟨M,i*4+3,none⟩ (.string m.b)->i+1=(bq cut xs (j+1)).length/\w.grownBy w5 (some M)/\In w5 M xs.length (fh cut xs (j+1))):=λw5 e5=>by
    refine⟨by rw[ff HX,C];simp[B.out],?_,(o.put (m,.slice s t u) e5).d λa y _ F=>?_⟩
    .rw[e5];exact⟨R.os,R.tape,R.output,ϰ R.size,λk A a7=>by have Z:k≠M:=λe=>a7 (by rw[e]);rw[Below.heap_setCell _ _ _ _ Z,Below.heap_setCell _ _ _ _ Z,Below.heap_setCell _ _ _ _ Z,Below.heap_setCell _ _ _ _ Z];exact R.block k A a7⟩
    have:=Gs HX C a y F;rwa [B]
   go_wp21
   let ⟨r1,r2,r3⟩:=HR _ rfl
   exact⟨⟨i+1,j+1,by go_num,by go_num,ω,r1,ω,r2,r3⟩,by simp[intOf];lia⟩
  have d4:¬(j:Int)<(xs.length:Int):=ω;have b3:j=xs.length:=ω;subst b3
  let ⟨b1,b6,S,a0⟩:=a6 wr O hmid HK
  have HR:Hid (w.grownBy b1 (some M)/\In b1 M xs.length λi=>(bq cut xs xs.length)[i]?):=⟨S,a0⟩;rw[<-B]at b6;have b8:(0:Int)<=(i:Int):=ω;have b7:(i:Int)<=(xs.length:Int):=ω;have d5:¬xs.length=i:=ϵ HK.out B.out;have d8:i<=xs.length:=ω;go_wp21;go_ret
  let ⟨r1,r2⟩:=HR
  rw[b0]at r2;have e:=B;rw[b0]at e;rw[<-e];exact⟨rfl,r1,r2⟩
variable {F:ϑ}{b:Nat}{S:PS}{o:Pl}
def fu.in(h:fu w M xs xs.length):In w M xs.length λi=>xs[i]?:=by obtain⟨c,g,f,a⟩:=h;refine⟨c,g,by rw[f,Nat.mul_comm],λi x d e=>?_⟩;have:=a i x e d;rwa [Nat.mul_comm 4 i]at this
def In.r{N a:Nat}{R:ϑ}(h:In w M N λi=>xs[i]?)(q:xs.length<=N)(n:R M)(k:∀x∈xs,aE w R x.2 x.1.c):bI w R (sT M xs.length a) (xs.map Prod.fst):=by refine .inr ⟨M,a,by rw[yL],h.e,n,λj m g=>?_⟩;obtain⟨x,c,rfl⟩:∃x,xs[j]?=some x/\x.1=m:=ϰ g;have e:=(ym.1 c).1;obtain⟨f,p,l,d⟩:=h.b c ω;exact⟨x.2,f,p,l,d,k x (yy c)⟩
theorem lA(p:PP w F b S o)(z:Wf S){a:Υ}{O:Θ}(t:aE w (o.R F b) O a)(D:a.length=S.n):ϖ 240 #[pT b 0,O] w λe u=>Ϟ w u/\∃v,ϱ e v/\bI u (o.R F b) v (S.Mm a):=by
 obtain⟨K,E,rfl,-,s,P⟩:=mE t.d (D▸z.n0);rw[D];have C:Below _ w (w.alloc (.cells #[sT K S.n E] 69)):=Ϡ.alloc Ϫ _;have c:(w.alloc (.cells #[sT K S.n E] 69)).heap.size=w.heap.size+1:=ς;have L:=ah (gF (p.c C) z);have j:nC _ _ K S.n E a:=⟨(af.d w _ rfl 69 _).a 0 _ rfl,λq V=>(C.cell s).trans (P q (by rwa [D])),by rw[c];lia,by rw[c];lia⟩;have I:Hid (∀m M i,Ϟ _ m->w.heap.size+1<=M->fu m M i _->i.map Prod.fst=S.Mp->(∀x∈i,x∈o.l)->Calls _ 271 _ m λe u=>Below _ w u/\∃v,ϱ e v/\bI u _ v (S.Mm a)):=λm M i N G h g d=>by
  have T:i.length<=126:=by have X:=p.u z;have W:=congrArg List.length g;rw[yL,Md.ll]at W;lia
  refine(vH (j.a N) ω ω i h.in (λx g=>p.p z (d x g)) (λx g=>(p.e.d x (d x g)).1.a) ω).mono ?_;rintro e H⟨rfl,B,A⟩;have f:=(C.trans (N.mono (by rw[c];lia))).trans {B with block:=λk Y=>B.block k (by have:=N.size;rw[c]at this;lia) λe=>by injection e with e;lia};refine⟨f,_,rfl,?_⟩;rw[(by rw[cL,g];rfl:S.Mm a=(i.filter λx=>Md.aR a x.1).map Prod.fst)];exact A.r (G3 _ _) (p.g ω) λx g=>(p.c f).a3 (d x (yM.1 g).1)
 clear p z t D P j s;go_enter func240,ntmps240;go_wp21;generalize w.alloc _=Z at L I c C|-;apply L.mono;rintro e m⟨y,M,i,G,rfl,h,g,d⟩;have Q:=I m M i y (by rwa [<-c]) h g d;clear L I y G h g d;go_wp21;apply Q.mono;rintro e H⟨f,v,rfl,t⟩;have U:Hid (Ϟ w H/\bI H (o.R F b) v (S.Mm a)):=⟨f,t⟩;clear Q f t;go_wp21;go_ret;exact⟨U.1,_,rfl,U.2⟩
open Md (Sends)
def rX(S:PS)(q:Nat)(T:PS)(m:ϥ):PS:=if S.Nl q m then T.MN q m else T
def eD(S:PS)(q k:Nat):PS:=(S.Mp.take k).foldl (rX S q) S
theorem vZ(S:PS)(q k:Nat):Sends S (eD S q k) k:=
 have h:=Md.bK (rX S q) 1 (λT m=>by unfold rX;split;exact Md.ak T _;exact(Sends.f T).c ω) (S.Mp.take k) S
 h.c (by rw[xk];lia)
def qb{q k:Nat}{m:ϥ}(c:S.Mp[k]?=some m):eD S q (k+1)=rX S q (eD S q k) m:=by obtain⟨a,rfl⟩:=ym.1 c;unfold eD;rw[<-List.take_append_getElem a,List.foldl_append];rfl
def Cf(q:Nat):eD S q S.Mp.length=S.Mz q:=by unfold eD;rw[AE];rfl
theorem qj(p:PP w F b S o)(U:Wf S)(hs:S.e.length<=900000)(q:Nat)(hq:q<S.n):Do 112 #[pT b 0,J q] ϳ w F b o (S.Mz q):=by
 have b5:=ah (gF p U);have c9:S.Mp.length<=126:=Md.ll▸p.u U;have u:Hid (∀g M xs,Ϟ w g->w.heap.size<=M->fu g M xs xs.length->xs.map Prod.fst=S.Mp->(∀x∈xs,x∈o.l)->xs.length=S.Mp.length/\(∃o',To g F b o g (eD S q 0) o')/\(∀wr o',To g F b o wr (eD S q S.Mp.length) o'->∃o',To w F b o wr (S.Mz q) o')/\∀(k:Nat)wr o',k<xs.length->To g F b o wr (eD S q k) o'->∃(m:ϥ)(B:ϣ)(C D s r kb:Nat),m.a=s/\s<S.n/\(ε wr b 14 (sT kb S.n S.n)/\ε wr kb q (sT r S.n S.n)/\ε wr r s (J ((S.q.getD q []).getD s 0))/\b<wr/\kb<wr/\r<wr)/\(wr.cell? ⟨M,k*4,none⟩=some (J m.a)/\wr.cell? ⟨M,k*4+1,none⟩=some (J m.seq)/\wr.cell? ⟨M,k*4+2,none⟩=some (.slice B C D)/\wr.cell? ⟨M,k*4+3,none⟩=some (.string m.b))/\(¬(S.q.getD q []).getD s 0<m.seq->∀I,Ϟ wr I->∃Q,To g F b o I (eD S q (k+1)) Q)/\((S.q.getD q []).getD s 0<m.seq->∀I,Ϟ wr I->ϖ 141 #[pT b 0,J q,.agg #[J m.a,J m.seq,.slice B C D,.string m.b]] I λe w3=>ϱ e ϳ/\∃Q,To g F b o w3 (eD S q (k+1)) Q)):=λg M xs a7 hM a1 hx E=>by
  have p1:=p.c a7;refine⟨by rw[<-hx,yL],⟨o,To.f p1⟩,λwr o' h=>⟨o',(p.d a7).a (by rwa [Cf]at h)⟩,λk wr o' hk h=>?_⟩;have a5:=yh hk;have a4:S.Mp[k]?=some xs[k].1:=by rw[<-hx,yZ,a5];rfl
  have P:=E _ (AF hk);obtain⟨B,C,D,hv⟩:=(p.e.d _ P).1.a;obtain⟨s,b0,t⟩:=(p.p U P).s;have G:=vZ S q k;have hn:(eD S q k).n=S.n:=by rw[G.e]
  have y:=h.c.e;rw[(by rw[G.e]:(eD S q k).q=S.q)]at y;obtain⟨r,hr,b3,T,a2⟩:=y.m (q:=q) (by show q<(eD S q k).n;rwa [hn]);obtain⟨c0,c1,c2,c3⟩:=(a1.in.a (h.e.block M a1.in.e λe=>ϕ (p.h e))).b a5 hk;have b4:S.Nl q xs[k].1=decide ((S.q.getD q []).getD s 0<xs[k].1.seq):=by unfold PS.Nl;rw[t];rfl
  refine⟨xs[k].1,B,C,D,s,r,o'.kb,t,b0,⟨?_,?_,b3.a s _ (ie (by rw[T];show s<(eD S q k).n;rwa [hn])),y.a.f,y.e.h.1,b3.f⟩,⟨c0,c1,by rwa [<-hv],c3⟩,λb8 I j=>?_,λa3 I j=>?_⟩;have:=y.a.a 14 _ rfl;rwa [show (o'.q (eD S q k)).n=S.n from hn]at this;rwa [show (o'.q (eD S q k)).n=S.n from hn]at a2;rw[qb a4];unfold rX;rw[b4,decide_eq_false b8];exact⟨_,h.a (h.c.d j)⟩;rw[qb a4];unfold rX;rw[b4,decide_eq_true a3];simp only[if_true];have c6:aE I (o'.R F b) (.slice B C D) xs[k].1.c:=by have b6:=((p1.a3 P).f (h.a (h.c.d j)).d);rwa [hv]at b6
  exact(h.a (h.c.d j)).g (nU (h.c.c j) (G.d U) (by have:=G.b;rw[<-yL (f:=Prod.fst),hx]at hk;lia) q xs[k].1 (aX c6.d))
 have d7:=U.c;have e1:0<=q:=ω;have d9:q<S.n:=ω;clear p U hs;go_enter func112,ntmps112;go_wp2_with fail;apply b5.mono;rintro e g⟨b2,M,xs,hM,rfl,a9,X,E⟩;obtain⟨hL,h0,hE,a0⟩:=u g M xs b2 hM a9 X E;have H0:=ah h0;have HE:=ah hE;have HS:=a0;have N:=ah HS;have c7:=hL;clear b2 hM a9 X E h0 hE a0 HS u b5 hL;go_wp2_with fail;go_loopw [9] (λi wr=>∃k:Nat,k<=xs.length/\i=J k/\∃o',To g F b o wr (eD S q k) o') λi _=>xs.length-(intOf i).toNat
 case atStart=>exact⟨0,ω,rfl,H0⟩
 case round=>
  obtain⟨k,hk,rfl,o',ht⟩:=hrel;by_cases b7:k<xs.length
  .obtain⟨⟨ms,W,mt,mx⟩,B,C,D,s,r,kb,t,hs,⟨a6,ck,cr,c5,V,T⟩,⟨m0,m1,m2,m3⟩,K,A⟩:=N k wr o' b7 ht;simp only at t m0 m1 m2 m3 K A;subst t;have O:=ah λh=>K ω;have v:=ah A;have d4:k<xs.length:=ω;have d6:0<=k:=ω;have d8:0<=s:=ω;have e0:s<(S.n:Int):=ω;have f:Hid (Ϟ wr (wr.alloc (.cells #[J s,J W,.slice B C D,.string mx] 179))):=Ϡ.alloc Ϫ _;have Y:=af.d wr wr.heap.size rfl 179 #[J s,J W,.slice B C D,.string mx];have d0:=Y.a 0 _ rfl;have d1:=Y.a 1 _ rfl;have d2:=Y.a 2 _ rfl;have d3:=Y.a 3 _ rfl;simp only[yf,yd,ye]at d0 d1 d2 d3;have H:=(f.cell (p:=(aT b 14)) c5).trans a6;have Z:=(f.cell (p:=(aT kb q)) V).trans ck;have L:=(f.cell (p:=(aT r s)) T).trans cr;clear Y K A N a6 ck cr ht;generalize (S.q.getD q []).getD s 0=z at L O v;by_cases hz:z<W
   .go_wp2_with fail;generalize wr.alloc (.cells #[J s,J W,.slice B C D,.string mx] 179)=w5 at f d0 d1 d2 d3 H Z L|-;go_quiet (fail);go_wp2_with fail;apply (v hz _ (below_drewN f _)).mono;rintro e w6⟨rfl,b1⟩;have c8:=ah b1;clear b1 v O;go_wp2_with fail;exact⟨⟨k+1,ω,by go_num,c8⟩,by simp[intOf];lia⟩
   go_wp2_with fail;generalize wr.alloc (.cells #[J s,J W,.slice B C D,.string mx] 179)=w5 at f d0 d1 d2 d3 H Z L|-;go_quiet (fail);go_wp2_with fail;exact⟨⟨k+1,ω,by go_num,O hz _ (below_drewN f _)⟩,by simp[intOf];lia⟩
  have d5:¬(k:Int)<(xs.length:Int):=ω;have c4:k=xs.length:=ω;have HT:Hid (∃o',To w F b o wr (S.Mz q) o'):=HE wr o' (by rwa [<-c7,<-c4]);clear ht N HE;go_wp2_with fail;go_end0;exact⟨rfl,HT⟩
end
section
open Go.RowKit
open Md (PS Grp Book)
variable {e a b:Ev}{l:List Ev}{k q:Nat}
section
def xR(q:Nat)(l:List Ev):Prop:=∀(i:Nat)(e:Ev),l[i]?=some e->dv e=true->gC l e=i/\(e.d=q↔e.b=1)
variable {C:List (Int×ϥ)}{G:Grp}
end
def CB(s:Int)(k:Nat):Md.aV s (k+1)=Md.aV (s/2) k:=by unfold Md.aV;rw[Int.pow_succ',Int.ediv_ediv_of_nonneg ω]
def xQ(s:Int)(q:Nat)(w:Δ)(g:Md.bj s)(j:q<64):Calls prog 44 #[J s,J q] w λe l=>ϱ e (.bool (Md.aV s q))/\l=w:=by
 go_wp2
 go_loop [0,1] (λa b=>∃(k:Nat)(z:Int),k<64/\0<=z/\z<64/\Md.aV s q=Md.aV z k/\a=J z/\b=J k) λ_ b=>(intOf b).toNat
 case atStart=>exact⟨q,s,j,g.1,g.2,rfl,rfl,rfl⟩
 case round=>
  obtain⟨k,z,h,m,n,f,rfl,rfl⟩:=hrel;have c:=ah f;clear f;match k,h,c with
  |0,_,c=>
   have d:Hid (Md.aV s q=(z%2==1)):=by rw[Hid,c.out];unfold Md.aV;rw[Bool.eq_iff_iff];simp
   go_wp2
   go_ret;exact⟨by rw[d.out];rfl,rfl⟩
  |i+1,h,c=>
   have d:Hid (Md.aV s q=Md.aV (z/2) i):=by rw[Hid,c.out,CB]
   go_wp2
   go_round
   case rel=>exact⟨i,_,ω,ω,ω,d,congrArg _ ω,by go_num⟩
   case measure=>simp[intOf]
def Bm(s:Int)(k:Nat):Nat:=((List.range k).filter (Md.aV s)).length
def z8(s:Int)(k:Nat):Bm s (k+1)=Bm s k+if Md.aV s k=true then 1 else 0:=by unfold Bm;rw[List.range_succ,La,yC];cases h:Md.aV s k<;>simp[h]
def xP(s:Int):∀k,Bm s k<=k
 |0=>Ϫ
 |k+1=>by rw[z8];have:=xP s k;split<;>omega
def Ct(s:Int)(w:Δ)(o:Md.bj s):ϖ 45 #[J s] w λe p=>ϱ e (J (Md.ir s))/\p=w:=by
 have i:=ah λq m=>xQ s q w o m;have j:=ah (xP s);have h:=ah (z8 s);go_enter func45,ntmps45;go_wp2_with fail;go_loop [3,4] (λa b=>∃k:Nat,k<=6/\a=J (Bm s k)/\b=J k) λ_ b=>6-(intOf b).toNat
 case atStart=>exact⟨0,ω,rfl,rfl⟩
 case round=>
  obtain⟨k,u,rfl,rfl⟩:=hrel;by_cases n:k<6
  .have r:=j.out k;have g:=ah (i.out k ω);have f:=h.out k;have c:=ah f;clear f i j h;go_wp2_with fail;refine g.out.m ?_;rintro v rfl;clear g;cases l:Md.aV s k with
   |true=>
    have d:Hid (Bm s (k+1)=Bm s k+1):=by rw[Hid,c.out,l];rfl
    clear c;go_wp2_with fail;go_round
    case rel=>exact⟨k+1,ω,by rw[d.out];go_num,by go_num⟩
    case measure=>simp[intOf];omega
   |false=>
    have d:Hid (Bm s (k+1)=Bm s k):=by rw[Hid,c.out,l];rfl
    clear c;go_wp2_with fail;go_round
    case rel=>exact⟨k+1,ω,by rw[d.out],by go_num⟩
    case measure=>simp[intOf];omega
  have t:¬(k:Int)<6:=ω;obtain rfl:k=6:=ω;go_wp2_with fail;go_ret;exact⟨rfl,rfl⟩


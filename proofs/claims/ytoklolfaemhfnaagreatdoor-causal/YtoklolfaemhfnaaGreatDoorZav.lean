import Derived.Test.YtoklolfaemhfnaaGreatDoorZau
set_option maxRecDepth 100000
set_option maxHeartbeats 0
set_option linter.defProp false
open Go.Proofs.Tryz (prog)
namespace Go.Proofs.YtoklolfaemhfnaaGreatDoor
section
open Go.RowKit
open Go.ChangeMaps (setBlock)
variable {w w':World}{Fn:Nat->Prop}{gb:Nat}{pv:Value}{lim:Nat}{pl:List bC}{nv:Value}
def Ix(w:World)(g o c:Nat){a:Array Value}(h:w.heap[g]?=some (.cells a 111 (0,0)))(i:o+1<a.size) :
 (Builtin.clear_ #[92] 0 #[.slice (some ⟨g,o,none⟩) 1 c]).run prog w=.ok (.tuple #[]) (w.setRow g (a.toList.take o++[Value.int .i64 0,Value.string ⟨#[]⟩]++a.toList.drop (o+2)).toArray):=by
 have f:=Tryz.zeroValue111 w;have b:=run_storeCells_at prog g o 111 [J 0,.string ⟨#[]⟩] 0 a w h (by simp;omega) (by intro v d;simp at d;rcases d with rfl|rfl <;> rfl);have e:(Builtin.zeroCells (Value.agg #[Value.int .i64 0,.string ⟨#[]⟩]).cells 1).toList=[J 0,.string ⟨#[]⟩]:=κ;simp[Builtin.clear_,run_underlying _,f,e];simp at b;rw[b];rfl
def bg(a:List bC):(ar a).length=a.length * 2:=by
 induction a with
 |nil=>rfl
 | cons x a b =>
   have e:ar (x::a)=[J x.1,.string x.2]++ar a:=rfl;rw[e,yC,b];simp;omega
def fA(a c:List bC):ar (a++c)=ar a++ar c:=by simp[ar]
def tT:∀u∈ar pl,u.oneCell'=true:=by
 intro u b;unfold ar at b;obtain⟨x, -,a⟩:=Km.1 b;simp at a;rcases a with rfl|rfl <;> rfl
def qT(k:Nat):(ar pl).take (k * 2)=ar (pl.take k):=by
 by_cases b:k<=pl.length
 ·have a:=fA (pl.take k) (pl.drop k);rw[List.take_append_drop] at a;rw[a,List.take_left'];rw[bg,xk];omega
 ·rw[yX (by rw[bg];omega),yX ω]
def qS(k:Nat):(ar pl).drop (k * 2)=ar (pl.drop k):=by
 by_cases b:k<=pl.length
 ·have a:=fA (pl.take k) (pl.drop k);rw[List.take_append_drop] at a;rw[a,List.drop_left'];rw[bg,xk];omega
 ·rw[Lf (by rw[bg];omega),Lf ω];rfl
def oq{P:Program}{b:Array Oper}{o:Oper}{a:Act}{w d:World}{K:Act->World->Prop}{Q:Exit->Act->World->Prop}{E:Prop}(c:o.guard=none)(s x:Operand)(t:TypeId)(j:o.op=.call { callee:=.builtin .append,args:=#[s,x],argTypes:=#[t,t] })(v u r:Value)(i:a.eval s=v)(e:a.eval x=u)(g:(Builtin.append_ #[t,t] o.type #[v,u]).run P w=.ok r d)(h:K (a.put o.dst r) d) :
 if Region.wanted o (yielded b a.tmps)=true then Oper.wp P o a w K Q else E:=by
 have f:Region.wanted o (yielded b a.tmps)=true:=by simp[Region.wanted,c]
 rw[if_pos f];unfold Oper.wp execOp;simp only[j,resolve,invoke,builtin,Sem.run_bind,Sem.run_pure,Result.andThen_ok,Fj,yN,Cx,i,e,g];exact h
def BU{g a:Nat}(r:eB w Fn 111 2 (sT g pl.length a) pl.length (ar pl))(k:Nat)(hk:k<pl.length)(hl:pl.length<=1000000) :
 Calls prog 114 #[sT g pl.length a,J k,J (k+1:Nat)] w fun e d=>e=.returned (sT g (pl.length - 1) a)/\w.grownBy d (some g)/\eB d Fn 111 2 (sT g (pl.length - 1) a) (pl.eraseIdx k).length (ar (pl.eraseIdx k)):=by
 obtain⟨i0,Y,a6,C,a5⟩:=info_parts tP;obtain⟨c,N,F,o,v,t⟩:∃c:Array Value,pl.length<=a/\a<=maxLen/\w.heap[g]?=some _/\c.size=a * 2/\c.toList.take _=ar pl:=by
  rcases r.d.2 with ⟨m, -⟩|⟨g',Z,c,m, -,T,N,F,v,t⟩
  ·cases m
  ·injection m with m _ H;injection m with m;injection m with m;subst m H;exact⟨c,N,F,T,v,t⟩
 have E:Fn g:=r.c g rfl;obtain⟨b,O,G,P⟩:∃b:Array Value,b=(c.toList.take (k * 2)++ar (pl.drop (k+1))++c.toList.drop (k * 2+(ar (pl.drop (k+1))).length)).toArray/\b.size=a * 2/\b.toList.take ((pl.length - 1) * 2)=ar (pl.eraseIdx k):=by
  refine⟨_,rfl,?_,?_⟩
  ·have h1:=bg (pl.drop (k+1));have H:c.toList.length=a * 2:=by rw[AG,v]
   simp only[yJ,yC,xk,I5,h1,H] at *;omega
  ·have h3:c.toList.take (k * 2)=ar (pl.take k):=by
    rw[<-qT,<-t,List.take_take];congr 1;omega
   rw[h3,List.eraseIdx_eq_take_drop_succ,fA];rw[List.take_left'];rw[yC,bg,bg,xk,I5];omega
 have y:Hid (∀d U V,d.heap[g]?=some (.cells c 111 (0,0))->(∃s,∃A:Addr,(if a=k+1 then some (⟨g,0,none⟩:Addr) else some ⟨g,(k+1) * 2,none⟩)=some A/\(Builtin.append_ #[92,92] U #[sT g k a,.slice (some A) (pl.length - (k+1)) V]).run prog d=.ok (sT g (pl.length - 1) a) s/\d.grownBy s (some g)/\s.heap[g]?=some (.cells b 111 (0,0)))):=fun d U V i=>by
  obtain⟨A,X,L⟩:∃A:Addr,(if a=k+1 then some (⟨g,0,none⟩:Addr) else some ⟨g,(k+1) * 2,none⟩)=some A/\∀j u,(ar (pl.drop (k+1)))[j]?=some u->d.cell? (A.add j)=some u:=by
   by_cases z:a=k+1
   ·refine⟨_,if_pos z,fun j u I=>?_⟩;have m:pl.drop (k+1)=[]:=Lf ω;rw[m] at I;cases I
   ·refine⟨_,if_neg z,fun j u I=>?_⟩;have hj:=(ym.1 I).1;rw[bg,I5] at hj;rw[<-qS,List.getElem?_drop,<-t,List.getElem?_take,if_pos ω] at I;rw[Addr.add_lit,cell_of_row d g _ c 111 (0,0) i];rw[<-Array.getElem?_toList];exact I
  have f:=run_append_room (P:=prog) d 92 U 111 i0 Tryz.underlying92 Y g k a c i A (pl.length - (k+1)) V (ar (pl.drop (k+1))) (by rw[bg,I5,C]) L tT ω (by rw[bg,I5,C,v];omega);rw[C,<-O,show k+(pl.length - (k+1))=pl.length - 1 by omega] at f;exact⟨_,A,X,f,⟨rfl,rfl,rfl,by simp[World.setRow],fun x _ D=>setRow_other _ _ _ _ (fun e=>D (by rw[e]))⟩,setRow_heap d g _ _ 111 _ i⟩
 have R:Hid (∀d,d.heap[g]?=some (.cells b 111 (0,0))->∃s,(Builtin.clear_ #[92] 0 #[.slice (some ⟨g,(pl.length - 1) * 2,none⟩) 1 (a - (pl.length - 1))]).run prog d=.ok (.tuple #[]) s/\d.grownBy s (some g)/\s.ownsRow 0 111 2 (sT g (pl.length - 1) a) (pl.eraseIdx k).length (ar (pl.eraseIdx k))):=fun d i=>by
  have q:(pl.eraseIdx k).length=pl.length - 1:=by rw[List.length_eraseIdx,if_pos hk]
  refine⟨_,Ix d g ((pl.length - 1) * 2) (a - (pl.length - 1)) i ω,⟨rfl,rfl,rfl,by simp[World.setRow],fun x _ D=>setRow_other _ _ _ _ (fun e=>D (by rw[e]))⟩,⟨by rw[bg],.inr ⟨g,a,_,by rw[q],oI _,setRow_heap d g _ _ 111 _ i,by rw[q];omega,F,?_,?_⟩⟩⟩
  ·have H:b.toList.length=a * 2:=by rw[AG,G]
   simp only[yJ,yC,xk,I5,H,yx,yD];omega
  ·have H:b.toList.length=a * 2:=by rw[AG,G]
   rw[q,<-P,I3,List.take_left'];rw[xk,H];omega
 have a0:=ah ((yk.1 o).1);have B:=ah o;have b3:(0:Int)<=(k:Int):=ω;have b2:(k:Int)<=((k+1:Nat):Int):=ω;have b4:((k+1:Nat):Int)<=(pl.length:Int):=ω;have b6:(pl.length:Int)<=(a:Int):=ω;have a9:¬(k:Int)=((k+1:Nat):Int):=ω;have b0:(k:Int)+1<=(pl.length:Int):=ω;have a1:(0:Int)<=(k:Int)+1:=ω;have a8:(k:Int)<=(a:Int):=ω;clear r o O G P;go_enter Tryz.func114,Tryz.ntmps114
 go_wp2_with fail
 have a4:((k:Int) == (k:Int)+1)=false:=by rw[beq_eq_false_iff_ne];omega
 refine wp_region_held_drew (S:=fun _=>True) rfl trivial (fun n=>?_)
 (iterate 6 refine ψ ?_)
 obtain⟨s,A,X,f,l,S⟩:=y.out w.drew 92 (a - (k+1)) B.out;rw[X];refine we 6 fun K hK=>?_;refine oq rfl (.tmp 22) (.tmp 25) 92 rfl _ _ _ rfl rfl f ?_;refine hK.out _ _ trivial (fun n=>?_);clear hK K;try simp only[pU]
 refine wpAnyH_take (i:=7) (v:=?v7_7) rfl κ κ κ (fun _ _ _ h=>h) (Or.inl ⟨by rfl,?y7_7⟩) (by assumption) ?r7_7
 case y7_7=>(intro d W;(try dsimp only at W);go_simp;(try with_reducible rfl))
 try simp only[Act.put,Li,List.set_cons_zero,yf,yd,ye]
 refine wpAnyH_done κ ?_ _;obtain⟨w3,b1,Q,p⟩:=R.out s S;have HG:=ah ((⟨l.os,l.tape,l.output,l.size,l.block⟩:w.grownBy s (some g)).trans Q);have M:=ah p;have b5:(0:Int)<=((pl.length - 1:Nat):Int):=ω;have a7:((pl.length - 1:Nat):Int)<=(pl.length:Int):=ω;have a3:(pl.length:Int)<=(a:Int):=ω;have a2:pl.length - (pl.length - 1)=1:=ω;clear f l S Q p y R B n;go_wp2_with fail
 go_ret;exact⟨rfl,HG.out,M.out,fun g' i=>by
  have:g'=g:=by simpa[Value.ownBlock] using i.symm
  rw[this];exact E⟩
def IR{w:World}{X:Nat}{T:TypeId}{f d:Value}(h:af w X T #[f,d])(a b:Value) :
 af ((w.setCell ⟨X,0,none⟩ a).setCell ⟨X,1,none⟩ b) X T #[a,b]/\ej X w ((w.setCell ⟨X,0,none⟩ a).setCell ⟨X,1,none⟩ b):=by
 have e:=h.e 0 a;have c:=e.e 1 b;exact⟨c,((ej.d X w).a 0 a).a 1 b⟩
def qd(p:cY w Fn gb pv lim pl nv)(hl:pl.length<=1000000)(k:Nat)(x:bC)(V:pl[k]?=some x) :
 Calls prog 73 #[pT gb 1,J k] w fun e w'=>e=.returned (.tuple #[.agg #[J x.1,.string x.2],J 0])/\cW (fun y=>Fn y\/y=gb) w w'/\∃P,cY w' Fn gb pv lim (pl.eraseIdx k) P:=by
 have C:=(ym.1 V).1;obtain⟨f,d⟩:=x;simp only;obtain⟨g,a,hv,S,H,d0,d1, -⟩:=kt p.b V;subst hv;have T:g≠gb:=fun e=>p.e (by rw[<-e];rfl);have c:Below w w (w.alloc (.cells #[J 0,.string ⟨#[]⟩] 111)):=(yi _ _).alloc (yb _) _;have HH:=ah (kq (p.c c) k C);have M:=ah p;have W:=ah c;have R:Hid (af (w.alloc (.cells #[J 0,.string ⟨#[]⟩] 111)) w.heap.size 111 #[J 0,.string ⟨#[]⟩]):=af.d w w.heap.size rfl 111 _;have c2:=(p.c c).a.a 2 _ rfl;have e0:=(c.cell H).trans d0;have e1:=(c.cell H).trans d1;simp only[yf,yd,ye] at c2;have a6:0<=k:=ω;have a5:k<pl.length:=ω;have a4:wrap64 ((k:Int)+1)=((k+1:Nat):Int):=by unfold wrap64;omega
 have a3:Hid ((w.alloc (.cells #[J 0,.string ⟨#[]⟩] 111)).heap.size=w.heap.size+1):=by simp[Hid]
 have a1:Hid ((pl.eraseIdx k).length=pl.length - 1):=by rw[Hid,List.length_eraseIdx,if_pos C]
 clear p c d0 d1 V;go_enter Tryz.func73,Tryz.ntmps73
 go_wp2_with fail
 refine HH.out.mono ?_;rintro e w1 ⟨rfl,Y⟩;subst Y;have a2:g≠w.heap.size:=ω;have a0:=M.out.a.f;have B:Hid (af ((w.alloc (.cells #[J 0,.string ⟨#[]⟩] 111)).alloc (.cells #[J f,.string d] 111)) (w.heap.size+1) 111 #[J f,.string d]):=af.d _ _ ς 111 _;have q:Below w w ((w.alloc (.cells #[J 0,.string ⟨#[]⟩] 111)).alloc (.cells #[J f,.string d] 111)):=W.out.alloc ς _;have A:=ah q;have i:Hid (af ((w.alloc (.cells #[J 0,.string ⟨#[]⟩] 111)).alloc (.cells #[J f,.string d] 111)) w.heap.size 111 #[J 0,.string ⟨#[]⟩]):=R.out.g _;have D:=(M.out.c q).a.a 2 _ rfl;simp only[yf,yd,ye] at D;have r:Hid (((w.alloc (.cells #[J 0,.string ⟨#[]⟩] 111)).alloc (.cells #[J f,.string d] 111)).heap.size=w.heap.size+1+1):=by simp[Hid]
 have h:((k+1:Nat):Int)=k+1:=ω;have O:=ah (h▸BU (M.out.c q).b k C hl);clear q HH h;go_wp2_with fail
 generalize ((w.alloc _).alloc _)=w2 at B A i D r O ⊢;refine O.out.mono ?_;rintro e j ⟨rfl,E,u⟩;have o:∀y,y<w2.heap.size->y≠g->j.heap[y]?=w2.heap[y]?:=fun y G U=>E.block y G (fun e=>U (by injection e));have I:af j w.heap.size 111 #[J 0,.string ⟨#[]⟩]:=(o _ (by rw[r.out];omega) ω).trans i.out;have F:af j (w.heap.size+1) 111 #[J f,.string d]:=(o _ (by rw[r.out];omega) ω).trans B.out;have s:af j gb 97 #[pv,J lim,sT g pl.length a]:=(o gb (by rw[r.out];omega) T.symm).trans (M.out.c A.out).a;have f2:=s.b 2;have b2:=s.a 2 _ rfl;have v:=s.e 2 (sT g (pl.length - 1) a);have n:ej gb j (j.setCell ⟨gb,2,none⟩ (sT g (pl.length - 1) a)):=(ej.d _ _).a _ _;have l:af (j.setCell ⟨gb,2,none⟩ (sT g (pl.length - 1) a)) (w.heap.size+1) 111 #[J f,.string d]:=(n.block _ ω).trans F;have b:Hid (af (j.setCell ⟨gb,2,none⟩ (sT g (pl.length - 1) a)) w.heap.size 111 #[J 0,.string ⟨#[]⟩]):=(n.block _ ω).trans I;have r0:=l.a 0 _ rfl;have r1:=l.a 1 _ rfl;have g0:=b.out.b 0;have g1:=b.out.b 1;have q0:=b.out.a 0 _ rfl;have q1:=b.out.a 1 _ rfl;simp only[yf,yd,ye] at r0 r1 q0 q1 b2;have m:Hid (cY (j.setCell ⟨gb,2,none⟩ (sT g (pl.length - 1) a)) Fn gb pv lim (pl.eraseIdx k) (sT g (pl.length - 1) a)):=⟨v,u.i fun K z=>n.block K (fun e=>by
  have:K=g:=by simpa[Value.ownBlock] using z.symm
  omega)⟩
 have t:Hid (cW (fun y=>Fn y\/y=gb) w (j.setCell ⟨gb,2,none⟩ (sT g (pl.length - 1) a))):=(cW.d A.out).c ((cW.f E fun y G=>by injection G with G;subst G;exact .inl (.inl S)).c (cW.i n (.inl (.inl (.inr rfl)))));clear o I F s v n l E u O B i D;go_wp2_with fail
 generalize j.setCell ⟨gb,2,none⟩ (sT g (pl.length - 1) a)=N at b r0 r1 g0 g1 q0 q1 m t ⊢;obtain⟨Q,L⟩:=IR b.out (J f) (.string d);have X:Hid (cW (fun y=>Fn y\/y=gb) w ((N.setCell ⟨w.heap.size,0,none⟩ (J f)).setCell ⟨w.heap.size,1,none⟩ (.string d))/\cY ((N.setCell ⟨w.heap.size,0,none⟩ (J f)).setCell ⟨w.heap.size,1,none⟩ (.string d)) Fn gb pv lim (pl.eraseIdx k) (sT g (pl.length - 1) a)):=by
  refine⟨t.out.c (cW.i L (.inr (yb _))),(L.block gb ω).trans m.out.a,m.out.b.i fun K z=>L.block K (fun e=>?_)⟩;have:K=g:=by simpa[Value.ownBlock] using z.symm
  omega
 generalize ((N.setCell ⟨w.heap.size,0,none⟩ (J f)).setCell ⟨w.heap.size,1,none⟩ (.string d))=w5 at Q L X ⊢;have s0:=Q.a 0 _ rfl;have Z:=Q.a 1 _ rfl;simp only[yf,yd,ye] at s0 Z
 (try simp only[Exit.inBlock,Exit.then])
 refine bodyPost_ret (v:=.tuple #[.agg #[J f,.string d],J 0]) (by simp[results,Tryz.results73,go_sem,s0,Z]) rfl ?_;exact⟨rfl,X.out.1,_,X.out.2⟩
variable {F:Nat->Prop}{b:Nat}{h:Hd}{kn:List (List Int)}{l:aL}{evs:List Ev}{snt:List bC}{kb mb:Nat}{rbs:List Nat}{es:Array MapEntry}{clk:Nat}{ev sv:Value}{cs:List bC}
section
def GE(p:PA w F b h kn l evs snt kb mb rbs es clk ev sv):Calls prog 103 #[pT b 0] w fun e i=>e=.returned sv/\ej b w i/\PA i F b h kn l evs [] kb mb rbs es clk ev (sN)/\eB i F 111 2 sv snt.length (ar snt):=by
 have f:=p.a.a 18 _ rfl;have o:=p.a.b 18;simp only[Hd.c,yf,yd,ye] at f;have c:ej b w (w.setCell ⟨b,18,none⟩ (sN)):=(ej.d _ _).a _ _;have a:∀{e:TypeId}{k:Nat}{v:Value}{n:Nat}{j:List Value},eB w F e k v n j->e≠159->eB _ F e k v n j:=fun r q=>r.i fun g d=>c.block g (r.o d p.a q);have s:Hid (ej b w (w.setCell ⟨b,18,none⟩ (sN))/\PA (w.setCell ⟨b,18,none⟩ (sN)) F b h kn l evs [] kb mb rbs es clk ev (sN)/\eB (w.setCell ⟨b,18,none⟩ (sN)) F 111 2 sv snt.length (ar snt)):=
  ⟨c,p.p rfl (p.a.e 18 _) (fun x _ m _ _=>c.block x m) (a p.c θ) ⟨y9 _ _ _ _,fun g d=>by cases d⟩,a p.f θ⟩
 clear p c a;go_enter Tryz.func103,Tryz.ntmps103
 go_wp2_with fail
 go_ret;exact⟨rfl,s.out⟩
def dO(lim:Nat)(pl:List bC)(cs:List bC):List bC:=cs.foldl (je lim) pl
def tV(a:Nat)(e d:List bC)(c:bC):dO a e (d++[c])=je a (dO a e d) c:=by simp[dO]
def zw(a:Nat)(d:List bC)(c:bC):(je a d c).length<=d.length+1:=by unfold je;split <;> simp
def wP(a:Nat)(e:List bC):∀d:List bC,(dO a d e).length<=d.length+e.length:=by
 induction e with
 |nil=>intro d;exact yb _
 | cons c e f =>
   intro d;have g:=f (je a d c);have i:=zw a d c;simp only[dO,List.foldl_cons,yx] at g ⊢;omega
variable {Fn:Nat->Prop}{gb:Nat}{pv:Value}{lim:Nat}{pl:List bC}{nv:Value}
def FY(p:PA w F b h kn l evs snt kb mb rbs es clk ev sv)(R:cY w Fn gb pv lim pl nv)(t:∀x,F x->¬Fn x)(H:¬F gb)(hl:pl.length+snt.length<=1000000) :
 Calls prog 62 #[pT gb 0,pT b 0] w fun e M=>e=.returned (.tuple #[])/\cW (fun x=>x=b\/Fn x\/x=gb) w M/\PA M F b h kn l evs [] kb mb rbs es clk ev (sN)/\∃nv',cY M (aY Fn w) gb pv lim (dO lim pl snt) nv':=by
 have HS:=ah (GE p);have O:b≠gb:=fun e=>H (e▸p.t);have a6:=p.t;obtain⟨ao,vc,hv⟩:=bG p.f.d;have s:Hid (∀f wr k nv' c,f.heap.size=w.heap.size->eB f F 111 2 sv snt.length (ar snt)->cW (fun x=>Fn x\/x=gb) f wr->cY wr (aY Fn f) gb pv lim (dO lim pl (snt.take k)) nv'->snt[k]?=some c->(∃g,ao=some ⟨g,0,none⟩/\wr.cell? ⟨g,k * 2,none⟩=some (J c.1)/\wr.cell? ⟨g,k * 2+1,none⟩=some (.string c.2))/\∀Z,Below wr wr Z->Calls prog 104 #[pT gb 1,.agg #[J c.1,.string c.2]] Z fun e Y=>e=.returned (.tuple #[])/\cW (fun x=>Fn x\/x=gb) f Y/\∃nv',cY Y (aY Fn f) gb pv lim (dO lim pl (snt.take (k+1))) nv'):=fun f wr k nv' c b1 u j m hc=>by
  obtain⟨g,b2,T,Q,a4,c0,N, -⟩:=kt u hc;have a2:ao=some ⟨g,0,none⟩:=by rw[hv] at T;injection T
  have v:wr.heap[g]?=f.heap[g]?:=j.block g a4 (fun e=>by
   rcases e with e|e
   ·exact t g Q e
   ·exact H (e▸Q))
  have S:k<snt.length:=(ym.1 hc).1;refine⟨⟨g,a2,(yq (a:=⟨g,k * 2,none⟩) v).trans c0,(yq (a:=⟨g,k * 2+1,none⟩) v).trans N⟩,fun Z E=>?_⟩;have W:=wP lim (snt.take k) pl;rw[xk] at W;refine(qc (m.c E) c ω).mono ?_;rintro e Y ⟨rfl,V,a5,a1⟩;refine⟨rfl,j.c ((cW.d E).c (V.e fun x n o=>?_)),a5,?_⟩
  ·rcases o with (o|o)|o
   ·exact .inl (.inl (.inl o))
   ·exact .inl (.inr o)
   ·exact .inl (.inl (.inr o))
  ·rw[Lc,hc];simp only[Option.toList_some];rw[tV];refine a1.d fun x n=>?_;rcases n with n|n
   ·exact n
   ·exact .inr (by have:=j.size;have:=E.size;omega)
 have z:Hid (∀f wr nv',ej b w f->PA f F b h kn l evs [] kb mb rbs es clk ev (sN)->cW (fun x=>Fn x\/x=gb) f wr->cY wr (aY Fn f) gb pv lim (dO lim pl (snt.take snt.length)) nv'->cW (fun x=>x=b\/Fn x\/x=gb) w wr/\PA wr F b h kn l evs [] kb mb rbs es clk ev (sN)/\∃nv',cY wr (aY Fn w) gb pv lim (dO lim pl snt) nv'):=fun f wr nv' B hp j m=>by
  rw[AE] at m;refine⟨(cW.i B (.inl rfl)).c (j.e fun x _ n=>.inl (.inr n)),hp.u fun x n a3=>j.block x a3 (fun e=>?_),nv',m.d fun x n=>?_⟩
  ·rcases e with e|e
   ·exact t x n e
   ·exact H (e▸n)
  ·rcases n with n|n
   ·exact .inl n
   ·exact .inr (by rw[B.size] at n;exact n)
 have HN:Hid (∀f,ej b w f->cY f (aY Fn f) gb pv lim (dO lim pl (snt.take 0)) nv):=fun f B=>⟨(B.block gb O.symm).trans R.a,⟨aj R.b.d fun g hg=>B.block g (fun e=>t b a6 (e▸R.b.c g hg)),fun g hg=>.inl (R.b.c g hg)⟩⟩;subst hv;have a7:Hid (snt.length<=1000000):=by simp only[Hid];omega
 clear p R t hl;go_enter Tryz.func62,Tryz.ntmps62
 go_wp2_with fail
 refine HS.out.mono ?_;rintro e f ⟨rfl,B,hp,u⟩;have HO:=ah B;have HP:=ah hp;have U:=ah u;have G:=ah (HN.out f B);clear B hp u HS HN;go_wp2_with fail
 go_loopw [9] (fun i wr=>∃k:Nat,k<=snt.length/\i=J k/\cW (fun x=>Fn x\/x=gb) f wr/\∃nv',cY wr _ gb pv lim (dO lim pl (snt.take k)) nv') (fun i _=>snt.length - (intOf i).toNat)
 case atStart=>exact⟨0,ω,rfl,cW.j _ _,nv,G.out⟩
 case round=>
  obtain⟨k,hk,rfl,j,nv',m⟩:=hrel;have b0:=a7.out;by_cases a0:k<snt.length
  ·obtain⟨⟨N,c2⟩,P⟩:∃c,snt[k]?=some c:=⟨_,yh a0⟩;obtain⟨⟨g,rfl,e0,e1⟩,q⟩:=s.out f wr k nv' _ HO.out.size U.out j m P;simp only at e0 e1 q;have A:=ah q;have a8:(k:Int)<(snt.length:Int):=ω;have b3:(0:Int)<=(k:Int):=ω;have hX:=af.d wr wr.heap.size rfl 111 #[J N,.string c2];have I:=hX.a 0 _ rfl;have L:=hX.a 1 _ rfl;simp only[yf,yd,ye] at I L;have X:Hid (Below wr wr (wr.alloc (.cells #[J N,.string c2] 111))):=(yi _ _).alloc (yb _) _;clear j m P q s z hX G;go_wp2_with fail
   generalize wr.alloc (.cells #[J N,.string c2] 111)=Z at X I L ⊢;refine gl.b (fun M=>M.cell? (aT wr 0)=some (J N)/\M.cell? (aT wr 1)=some (.string c2)) 4 rfl ⟨I,L⟩ (fun r=>?_);refine tk 3 ?_;refine te 0 fun K y=>?_;go_simp;refine y.out _ _ (fun _=>⟨I,L⟩) (fun r=>?_);clear y K;try simp only[pU]
   refine te 1 fun K y=>?_;go_simp;refine y.out _ _ (fun _=>⟨I,L⟩) (fun r=>?_);clear y K;try simp only[pU]
   refine te 2 fun K y=>?_;go_simp;refine y.out _ _ (fun _=>⟨I,L⟩) (fun r=>?_);clear y K;try simp only[pU]
   refine te 4 fun K y=>?_;go_simp;refine(A.out _ X.out.drew).mono ?_;rintro e Y ⟨rfl,D⟩;have C:=ah D;clear D A;go_wp2_with fail
   refine y.out _ _ (fun h=>absurd rfl h) (fun _=>?_);clear y K;try simp only[pU]
   refine gl.done κ ?_ _;go_wp2_with fail
   exact⟨⟨k+1,ω,by go_num,C.out.1,C.out.2⟩,by simp[intOf];omega⟩
  ·have a9:¬(k:Int)<(snt.length:Int):=ω;have S:k=snt.length:=ω;subst S;have HE:=ah (z.out f wr nv' HO.out HP.out j m);clear j m s z G;go_wp2_with fail
   go_end0
   exact⟨rfl,HE.out⟩
end
def LH(c:UInt8)(m:Nat)(h:m<=255):bits .xor .u8 (c.toNat:Int) (IntKind.u8.wrap (m:Int))=((c ^^^ UInt8.ofNat m).toNat:Int):=by
 have b:IntKind.u8.wrap m=m:=by simp[IntKind.wrap,IntKind.bits,IntKind.signed];omega
 have f:=c.toNat_lt;have e:(BitVec.ofInt 8 c.toNat).toNat=c.toNat:=by rw[BitVec.toNat_ofInt];omega
 have d:(BitVec.ofInt 8 m).toNat=m:=by rw[BitVec.toNat_ofInt];omega
 rw[b];show IntKind.u8.wrap ((BitVec.ofInt 8 c.toNat ^^^ BitVec.ofInt 8 m).toNat:Nat)=_;have g:c.toNat ^^^ m<256:=Nat.xor_lt_two_pow f ω;have a:(c ^^^ UInt8.ofNat m).toNat=c.toNat ^^^ m:=by
  rw[UInt8.toNat_xor,UInt8.toNat_ofNat',Nat.mod_eq_of_lt ω]
 rw[BitVec.toNat_xor,e,d,a];simp[IntKind.wrap,IntKind.bits,IntKind.signed];omega
def mG:∀(a:List bC) (k:Nat) (x y:bC),a[k]?=some x->x.1=y.1->(ar a).set (k * 2+1) (.string y.2)=ar (a.set k y)
 |[],k,x,y,h,_=>by cases h
 | z :: a, 0, x, y, h, e => by
   simp only[AH,yA] at h;subst h;show [Value.int .i64 z.1,.string y.2]++ar a=[Value.int .i64 y.1,.string y.2]++ar a;rw[e]
 | z :: a, k + 1, x, y, h, e => by
   have:=mG a k x y (by simpa using h) e;show ([Value.int .i64 z.1,.string z.2]++ar a).set _ _=[Value.int .i64 z.1,.string z.2]++ar _;rw[<-this,show (k+1) * 2+1=k * 2+1+1+1 by omega];rfl
def cP(x:ByteArray)(i m:Nat):ByteArray:=⟨(x.data.toList.set i (x.data.toList.getD i 0 ^^^ UInt8.ofNat m)).toArray⟩
def BI(w:World)(x:ByteArray):∃c b,(convert 9 175 (.string x)).run prog w=.ok (sT w x.size c) b/\Below w w b/\(∀j,j<x.size->b.cell? (aT w j)=some (.int .u8 ((x.data.toList.getD j 0).toNat:Int))/\b.frozen? (aT w j)=false):=by
 have h:=run_bytes_of_string w 9 175 5 x Tryz.underlying9 Tryz.underlying175 Tryz.underlying5;refine⟨_,_,h,((yi _ _).drew.alloc (yb _) _),fun j f=>?_⟩;have d:(w.drew.alloc _).heap[w.heap.size]?=some (.cells (bytesRow x (grownCap w x.size 0 5)) 5 ((bytesRow x (grownCap w x.size 0 5)).size,(bytesRow x (grownCap w x.size 0 5)).size+1)):=heap_alloc_new w.drew _;have e:x.size<=(bytesRow x (grownCap w x.size 0 5)).size:=by
  unfold bytesRow;rw[Array.size_append,I1];exact Nat.le_add_right _ _
 refine⟨?_,?_⟩
 ·rw[cell_of_row _ _ j _ 5 _ d];unfold bytesRow;have a:=f;rw[Array.getElem?_append_left (by simpa using a),yw,yl a];simp only[yp,yj,Array.getElem?_toList,yl a,yv]
 ·simp only[World.frozen?,d];simp;omega
def qQ(p:cY w Fn gb pv lim pl nv)(k:Nat)(x:bC)(hk:pl[k]?=some x)(i m:Nat)(hi:i<x.2.size)(Y:1<=m)(C:m<=255)(a7:x.2.size<=1000000) :
 Calls prog 127 #[pT gb 1,J k,J i,J m] w fun e b=>e=.returned (J 0)/\cW Fn w b/\cY b Fn gb pv lim (pl.set k (x.1,cP x.2 i m)) nv:=by
 have a6:=(ym.1 hk).1;obtain⟨S,a⟩:=x;simp only at hi a7 ⊢;obtain⟨g,b1,R,a1,G,d0,d1,A,M⟩:=kt p.b hk;have HH:=ah (kq p k a6);obtain⟨c,t,Z,z,d⟩:=BI w a;have X:=ah z;have U:=p.a.a 2 _ rfl;simp only[yf,yd,ye,R] at U;have Q:=(d i hi).1;have fi:=(d i hi).2;have W:a.data.toList.length=a.size:=ς;have O:ej w.heap.size t (t.setCell ⟨w.heap.size,i,none⟩ (.int .u8 ((a.data.toList.getD i 0 ^^^ UInt8.ofNat m).toNat:Int))):=(ej.d _ _).a _ _;have F:=z.trans (O.c (yb _));have n:Hid (∀b,Below (t.setCell ⟨w.heap.size,i,none⟩ (.int .u8 ((a.data.toList.getD i 0 ^^^ UInt8.ofNat m).toNat:Int))).heap.size (t.setCell ⟨w.heap.size,i,none⟩ (.int .u8 ((a.data.toList.getD i 0 ^^^ UInt8.ofNat m).toNat:Int))) b->(convert 175 9 (sT w a.size c)).run prog b=.ok (.string (cP a i m)) b):=fun b v=>by
  have a3:w.heap.size<(t.setCell ⟨w.heap.size,i,none⟩ (.int .u8 ((a.data.toList.getD i 0 ^^^ UInt8.ofNat m).toNat:Int))).heap.size:=by
   have:=yI t _ Q;simpa using this
  have L:(a.data.toList.set i (a.data.toList.getD i 0 ^^^ UInt8.ofNat m)).length=a.size:=ς;have:=run_convert_bytes_back (P:=prog) b 175 9 5 ⟨w.heap.size,0,none⟩ c (a.data.toList.set i (a.data.toList.getD i 0 ^^^ UInt8.ofNat m)) Tryz.underlying175 Tryz.underlying5 Tryz.underlying9 (fun j hj=>by
   rw[L] at hj;rw[lu,(v.cell (p:=(aT w j)) a3)];by_cases e:j=i
   ·subst e;rw[List.getElem_set_self];exact World.cell?_setCell_same t ⟨w.heap.size,j,none⟩ _ Q
   ·rw[List.getElem_set_ne (fun h=>e h.symm),World.cell?_setCell_other _ _ _ _ (fun h=>e (by injection h with _ h;exact h.symm)),(d j hj).1];congr 3;rw[yj,yh (by rw[W];exact hj)];rfl)
  rw[L] at this;exact this
 have l:=LH (a.data.toList.getD i 0) m C;rw[show IntKind.u8.wrap _=m by simp[IntKind.wrap,IntKind.bits,IntKind.signed];omega] at l;have HP:=ah p;have E:g≠gb:=fun e=>p.e (by rw[R,<-e];rfl);have c5:¬i<0:=ω;have b4:0<=i:=ω;have c3:¬a.size<=i:=ω;have b8:i<a.size:=ω;have b5:¬m<1:=ω;have b7:¬255<m:=ω;have c6:0<=k:=ω;have c0:k<pl.length:=ω;have a8:=(X.out.cell p.a.f).trans U;have r:=ah F;have c1:g≠w.heap.size:=ω;have I:=ah p.b;have y:Hid (∀b,Below w w b->cW Fn w (b.setCell ⟨g,k * 2+1,none⟩ (.string (cP a i m)))/\cY (b.setCell ⟨g,k * 2+1,none⟩ (.string (cP a i m))) Fn gb pv lim (pl.set k (S,cP a i m)) nv/\b.frozen? ⟨g,k * 2+1,none⟩=false/\b.cell? ⟨g,k * 2+1,none⟩=some (.string a)/\b.cell? (aT gb 2)=some (sT g pl.length b1)):=fun b v=>by
  have hO:ej g b (b.setCell ⟨g,k * 2+1,none⟩ (.string (cP a i m))):=(ej.d _ _).a _ _;have D:=p.c v;have f:af b g 111 A:=(v.block g G).trans M;refine⟨(cW.d v).c (cW.i hO (.inl a1)),⟨(hO.block gb E.symm).trans D.a,⟨?_,p.b.c⟩⟩,f.b _,(v.cell (p:=⟨g,k * 2+1,none⟩) G).trans d1,(v.cell (p:=(aT gb 2)) p.a.f).trans U⟩;rcases D.b.d.2 with ⟨q,h1⟩|⟨g',B,H,q,b3,a4,V,b0,a9,a2⟩
  ·omega
  ·have a5:g'=g:=by rw[R] at q;injection q with q;injection q with q;injection q with q;exact q.symm
   subst a5;have a0:H=A:=by
    have T:b.heap[g']?=some (.cells A 111 (0,0)):=f;rw[a4] at T;injection T with T;injection T
   subst a0;refine⟨by rw[bg],.inr ⟨g',B,_,by rw[Ko];exact q,b3,f.e (k * 2+1) (.string (cP a i m)),by rw[Ko];exact V,b0,by rw[Array.size_setIfInBounds];exact a9,?_⟩⟩;rw[Ko,Array.toList_setIfInBounds,List.take_set,a2];exact mG pl k (S,a) (S,cP a i m) hk rfl
 clear p d z F O Y C;generalize a.data.toList.getD i 0=bb at Q l n r;generalize bb ^^^ UInt8.ofNat m=cc at l n r;generalize cP a i m=tx at n y ⊢;go_enter Tryz.func127,Tryz.ntmps127
 go_wp2_with fail
 refine HH.out.mono ?_;rintro e w0 ⟨rfl,b2⟩;subst b2;go_wp2_with fail
 generalize t.setCell ⟨w0.heap.size,i,none⟩ (.int .u8 (cc.toNat:Int))=P at n r ⊢;obtain⟨N,u,b6,b9,c7⟩:=y.out P.drew r.out.drew;have HF:Hid (cW Fn w0 (P.setCell ⟨g,k * 2+1,none⟩ (.string tx)).drew/\cY (P.setCell ⟨g,k * 2+1,none⟩ (.string tx)).drew Fn gb pv lim (pl.set k (S,tx)) nv):=⟨N,u⟩;have c4:=n.out P.drew ((yi _ _).drew);clear N u n y I Z U a8 Q fi l;refine gl.b (fun b=>b=P.drew) 9 rfl rfl (fun o=>?_)
 (iterate 7 refine χ ?_)
 refine te 7 fun K s=>?_;go_simp;refine s.out _ _ (fun _=>rfl) (fun o=>?_);clear s K;try simp only[pU]
 refine te 8 fun K s=>?_;go_simp;refine s.out _ _ (fun _=>rfl) (fun o=>?_);clear s K;try simp only[pU]
 refine te 9 fun K s=>?_;go_simp;refine s.out _ _ (fun h=>absurd rfl h) (fun _=>?_);clear s K;try simp only[pU]
 refine gl.done κ ?_ _;go_wp2_with fail
 go_ret;exact⟨rfl,HF.out.1,R▸HF.out.2⟩
open Md (PS Vote Bal Lft Wf MsgW Sends)
variable {S:PS}{o:Pl}
def kT(p:PP w F b S o)(q:Nat)(a:Int)(e:Lft)(H:S.e.length<=1000000){z A:Value}(r:aw w w.heap.size z e.a)(u:ba w w.heap.size A e.b) :
 Calls prog 208 #[pT b 0,J q,J a,.agg #[J e.m,z,A]] w fun v k=>v=.returned (.tuple #[])/\∃c,To w F b o k (S.ME q a e) { o with d:=c }:=by
 obtain⟨n,t,j,rfl⟩:=r.b;obtain⟨i,s,g,rfl⟩:=u.b;obtain⟨f,B,y⟩:=e;simp only at r u ⊢;have d:Below w w (w.alloc (.cells #[J f,.slice n t j,.slice i s g] 249)):=(Below.refl _ _).alloc (yb _) _;have x:Hid (Calls prog 165 #[pT b 0,.agg #[J 7,J 0,J q,J f,J a,J 0,J 0,sN,.slice n t j,.slice i s g]] (w.alloc (.cells #[J f,.slice n t j,.slice i s g] 249)) fun v k=>v=.returned (.tuple #[])/\∃c,To w F b o k (S.ME q a ⟨f,B,y⟩) { o with d:=c }):=by
  refine(E6 (p.c d) ⟨7,0,q,f,a,0,0,[],B,y⟩ H (rv:=sN) (.inl ⟨⟨_,_,rfl⟩,rfl⟩) ((r.a d).d d.size) ((u.a d).d d.size)).mono ?_;rintro e k ⟨rfl,c,h⟩;exact⟨rfl,c,(p.d d).a h⟩
 have l:=af.d w w.heap.size rfl 249 #[J f,.slice n t j,.slice i s g];have D:=l.a 0 _ rfl;have E:=l.a 1 _ rfl;have G:=l.a 2 _ rfl;simp only[yf,yd,ye] at D E G;clear p r u l;go_enter Tryz.func208,Tryz.ntmps208
 go_wp2_with fail
 refine x.out.mono ?_;rintro e K ⟨rfl,C⟩;have I:=ah C;clear C x;go_wp2_with fail
 go_end0
 exact⟨rfl,I.out⟩
def PP.a8(p:PP w F b S o){l j:World}(q:Below w w l)(i:l.grownBy j o.g.ownBlock){g a:Nat}{e:Ev}(c:j.ownsRow 0 64 6 (sT g (S.j.length+1) a) (S.j.length+1) (az S.j++e.f))(m:o.g.ownBlock=some g\/w.heap.size<=g) :
 ∃r,To w F b o (j.setCell ⟨b,17,none⟩ (sT g (S.j.length+1) a)) (S.Ng e) r:=by
 obtain⟨f,k⟩:=p.e.a4 q i c m;exact⟨_,p.step (f.e fun x _ n=>n.elim .inl fun e=>.inr (.inr (.inr (.inl e)))) (fun _ h=>h) (fun s d=>by cases d;exact m) (fun _ h=>.inl h) k p.ms rfl rfl rfl⟩
def xX(p:PP w F b S o)(Q:Md.Lq S):Do 290 #[pT b 0] (.tuple #[]) w F b o S.Na:=by
 obtain⟨U,I,E,M,D⟩:=info_parts mw;have A:=p.a;have t:=A.b 4;have T:=A.a 4 _ rfl;simp only[yf,yd,ye] at T;have P:To w F b o (w.setCell ⟨b,4,none⟩ (.bool true)) { S with out:=true } o:=p.head (cW.a 4 _) (A.e 4 _) rfl rfl rfl rfl rfl rfl p.vote (.inl ⟨rfl,rfl⟩);have H:=ah P;have a0:S.j.length<=1000000000000:=by have:=Q.evs;omega
 clear p Q A P;go_enter Tryz.func290,Tryz.ntmps290
 go_wp2_with fail
 generalize w.setCell _ _=d at H ⊢;have m:=ah H.out.c;have f:=ah m.out.e.a.f;have G:=m.out.a.a 6 _ rfl;have n:=m.out.a.a 17 _ rfl;simp only[yf,yd,ye] at G n;have y:Hid (∀r,Below d d r->r.cell? (aT b 6)=some (J S.b)/\r.cell? (aT b 17)=some o.g):=fun r N=>⟨(N.cell (p:=(aT b 6)) f.out).trans G,(N.cell (p:=(aT b 17)) f.out).trans n⟩;clear G n T t;refine gl.b (fun r=>r.cell? (aT b 6)=some _/\r.cell? _=some o.g) 14 rfl (y.out _ (Below.refl _ _).drew) (fun a=>?_)
 (iterate 10 refine χ ?_)
 refine te 10 fun K i=>?_;go_simp;have c:Hid (Below d d (d.alloc (.cells #[J 4,J S.b,J 0,J 0,J 0,.string ⟨#[]⟩] 64)).drew):=((Below.refl _ _).alloc (yb _) _).drew;refine i.out _ _ (fun _=>y.out _ c.out) (fun a=>?_);clear i K;try simp only[pU]
 have B:Hid (af (d.alloc (.cells #[J 4,J S.b,J 0,J 0,J 0,.string ⟨#[]⟩] 64)).drew d.heap.size 64 #[J 4,J S.b,J 0,J 0,J 0,.string ⟨#[]⟩]):=(af.d d d.heap.size rfl 64 _).i;have q:Hid ((d.alloc (.cells #[J 4,J S.b,J 0,J 0,J 0,.string ⟨#[]⟩] 64)).drew.heap.size=d.heap.size+1):=by simp[Hid]
 generalize (d.alloc (.cells #[J 4,J S.b,J 0,J 0,J 0,.string ⟨#[]⟩] 64)).drew=V at c B q a ⊢;refine te 11 fun K i=>?_;refine step_append_lies V rfl (.tmp 9) (.tmp 15) 35 rfl 0 64 U _ 6 56 Tryz.underlying35 I E M D rfl θ o.g S.j.length (az S.j) rfl (aQ m.out.e.c.d c.out) (aT d 0) 1 1 (Ev.f ⟨4,S.b,0,0,0,⟨#[]⟩⟩) rfl rfl (World.news_of_block B.out) (by intro u R;simp only[Ev.f,yF,yU,or_false] at R;rcases R with rfl|rfl|rfl|rfl|rfl|rfl <;> rfl) ω (by simp[maxLen];omega) ω (oI _) (d.heap.size+1) q.out ?_;intro g Y L l j v C;have z:some b≠o.g.ownBlock:=fun e=>m.out.e.c.o e.symm m.out.e.a θ rfl;have k:=yg f.out c.out.size;have s:Hid (L.cell? (aT b 6)=some (J S.b)/\L.cell? (aT b 17)=some o.g):=by
  have O:=y.out _ c.out;exact⟨(j.cell_far ⟨b,6,none⟩ k z).trans O.1,(j.cell_far ⟨b,17,none⟩ k z).trans O.2⟩
 have x:=ah (m.out.a8 c.out j (e:=⟨4,S.b,0,0,0,⟨#[]⟩⟩) l (v.imp id fun e=>by omega));have W:L.frozen? (aT b 17)=false:=by
  rw[j.frozen_far ⟨b,17,none⟩ k z];exact(m.out.e.a.c c.out f.out).b 17
 clear l j v C a B q c y z k;refine i.out _ _ (fun _=>s.out) (fun a=>?_);clear i K;try simp only[pU]
 have a:=a θ;refine te 12 fun K i=>?_;go_simp;refine i.out _ _ (fun _=>s.out) (fun a=>?_);clear i K;try simp only[pU]
 refine te 13 fun K i=>?_;go_simp;refine i.out _ _ (fun _=>s.out) (fun a=>?_);clear i K;try simp only[pU]
 have a:=a θ;refine te 14 fun K i=>?_;go_simp;refine i.out _ _ (fun h=>absurd rfl h) (fun _=>?_);clear i K;try simp only[pU]
 refine gl.done κ ?_ _;go_wp2_with fail
 go_end0
 obtain⟨Z,X⟩:=x.out;exact⟨rfl,Z,H.out.a X⟩
variable {n:Nat}
def Fh(n:Nat):(Builtin.zeroCells (Value.int .i64 0).cells n).toList=List.replicate n (J 0):=by
 have e:(Value.int .i64 0).cells=#[J 0]:=rfl;rw[e];simp only[Builtin.zeroCells,yV,Array.toList_range,yJ,yx,yD,yS,Nat.mul_one,Nat.mod_one];rw[List.eq_replicate_iff];refine⟨ς,fun x a=>?_⟩;obtain⟨i, -,rfl⟩:=yW.1 a;rfl
def Ei(w:World)(r n c:Nat)(k:n≠0){l:List Int}(i:l.length=n)(g:af w r 3 (ints l).toArray) :
 ∃d,(Builtin.clear_ #[69] 0 #[sT r n c]).run prog w=.ok (.tuple #[]) d/\cW (fun x=>x=r) w d/\d.heap.size=w.heap.size/\af d r 3 (ints (List.replicate n 0)).toArray:=by
 have j:=Tryz.zeroValue3 w;have a:=run_storeCells_at prog r 0 3 (List.replicate n (J 0)) 0 _ w g (by simp[ints,i]) (by intro v h;rw[List.mem_replicate] at h;rw[h.2];rfl);have e:((ints l).toArray.toList.take (0+0)++List.replicate n (Value.int .i64 0)++(ints l).toArray.toList.drop (0+0+(List.replicate n (Value.int .i64 0)).length)).toArray=(ints (List.replicate n 0)).toArray:=by
  rw[Lf (by simp[ints,i])];simp[ints]
 rw[e] at a;refine⟨w.setRow r _,?_,⟨rfl,rfl,rfl,by simp[World.setRow],fun x _ f=>setRow_other _ _ _ _ f⟩,by simp[World.setRow],setRow_heap w r _ _ 3 _ g⟩;cases n with
 |zero=>exact absurd rfl k
 | succ m =>
   simp only[Builtin.clear_,ya7,AH,Sem.run_bind,run_underlying Tryz.underlying69,Result.andThen,j,Fh,a,Sem.run_pure]
def PP.b1(p:PP w F b S o){q r:Nat}(e:o.k[q]?=some r){row':List Int}(g:row'.length=S.n)(a:cW (fun x=>x=r) w w')(f:af w' r 3 (ints row').toArray):To w F b o w' { S with q:=S.q.set q row' } o:=
 p.step (a.e fun _ _ c=>.inr (.inr (.inl (c▸yy e)))) (fun _ h=>.inl h) (fun _ h=>.inl h) (fun _ h=>.inl h) (p.e.a0 e g (fun x c d=>a.block x c d) f) p.ms rfl rfl rfl
def gK(kn:List (List Int))(n k:Nat):List (List Int):=List.replicate k (List.replicate n 0)++kn.drop k
def Cv{k:Nat}(a:k<kn.length):(gK kn n k).set k (List.replicate n 0)=gK kn n (k+1):=by
 unfold gK;rw[List.set_append_right _ _ ς,I2,Nat.sub_self,List.drop_eq_getElem_cons a,List.set_cons_zero,List.replicate_succ',I3];rfl
def Cu(h:∀r∈kn,r.length=n):gK kn n kn.length=kn.map fun r=>List.replicate r.length 0:=by
 unfold gK;rw[List.drop_length,IX,eq_comm,List.eq_replicate_iff];refine⟨ς,fun x a=>?_⟩;obtain⟨r,c,rfl⟩:=yW.1 a;rw[h r c]
def Eh(w:World){c:Nat}{e:Array MapEntry}{a:Nat}(d:w.heap[c]?=some (.map e a)):(Builtin.clear_ #[156] 0 #[.map (some c)]).run prog w=.ok (.tuple #[]) (setBlock w c (.map #[] a)):=by
 simp only[Builtin.clear_,ya7,AH,Sem.run_bind,run_underlying Tryz.underlying156,Result.andThen,MapKept.run_getObj_map d,MapKept.run_setObj_map _ d,Sem.run_pure];rfl
def PP.a9(p:PP w F b S o):To w F b o (setBlock w o.m (.map #[] o.j)) { S with o:=[] } { o with l:=[],n:=#[] }:=by
 have c:=ep p.e.map (.map #[] o.j);exact p.step (cW.f c fun x a=>by injection a with a;subst a;exact .inr (.inl rfl)) (fun _ h=>.inl h) (fun _ h=>.inl h) (fun _ h=>.inl h) (p.e.y c (jV p.e.map _) ⟨rfl,rfl,ς,ς⟩ List.Pairwise.nil (fun x a=>by cases a)) rfl rfl rfl rfl
def dM(S:PS)(m:Int):PS:={ S with b:=S.b+1,m:=m,k:=Md.fK S.k m,h:=false,g:=0,a:=⟨0,0,[]⟩,d:=none }
def PP.y(p:PP w F b S o)(m:Int):To w F b o ((((((((((w.setCell ⟨b,6,none⟩ (J (S.b+1))).setCell ⟨b,7,none⟩ (J m)).setCell ⟨b,8,none⟩ (J (Md.fK S.k m))).setCell ⟨b,5,none⟩ (.bool false)).setCell ⟨b,9,none⟩ (J 0)).setCell ⟨b,10,none⟩ (J 0)).setCell ⟨b,11,none⟩ (J 0)).setCell ⟨b,12,none⟩ (sN)).setCell ⟨b,13,none⟩ (.pointer none))) (dM S m) { o with h:=sN,c:=none }:=by
 have c:ej b w ((((((((((w.setCell ⟨b,6,none⟩ (J (S.b+1))).setCell ⟨b,7,none⟩ (J m)).setCell ⟨b,8,none⟩ (J (Md.fK S.k m))).setCell ⟨b,5,none⟩ (.bool false)).setCell ⟨b,9,none⟩ (J 0)).setCell ⟨b,10,none⟩ (J 0)).setCell ⟨b,11,none⟩ (J 0)).setCell ⟨b,12,none⟩ (sN)).setCell ⟨b,13,none⟩ (.pointer none))):=(((((((((ej.d b w).a _ _).a _ _).a _ _).a _ _).a _ _).a _ _).a _ _).a _ _).a _ _;have a:=((((((((p.a.e 6 (J (S.b+1))).e 7 (J m)).e 8 (J (Md.fK S.k m))).e 5 (.bool false)).e 9 (J 0)).e 10 (J 0)).e 11 (J 0)).e 12 (sN)).e 13 (.pointer none);simp only[Li,List.set_cons_succ,List.set_cons_zero] at a;exact p.head (cW.i c rfl) a rfl rfl rfl rfl rfl rfl ⟨World.ownsRow_nil w 0 3 1,fun g d=>by cases d⟩ (.inr ⟨rfl,rfl⟩)
def Em(p:PP w F b S o)(C:Md.Lq S){m:Int}(hm:Md.bj m):Do 289 #[pT b 0,J m] (.tuple #[]) w F b o (S.enter m):=by
 obtain⟨i0,b1,b4,a9,a3⟩:=info_parts mw;have B0:=ah p.a;have a7:wrap64 (S.b+1)=S.b+1:=by have:=C.view;unfold wrap64;omega
 have M:=(cK C.sus hm).2.1;have H1:=p.y m;have c2:S.j.length<=1000000000000:=by have:=C.evs;omega
 have HK:Hid (S.q.length=S.n/\∀r∈S.q,r.length=S.n):=⟨C.a,fun r hr=>(C.kn r hr).1⟩;have b2:S.n≠0:=by have:=C.b;omega
 have d1:=C.c;have t:=ah H1;clear p C hm H1;go_enter Tryz.func289,Tryz.ntmps289
 refine wp_seq_k fun K c=>?_;have d:=ah c;clear c;have N:=B0.out.a 6 _ rfl;have f6:=B0.out.b 6;simp only[yf,yd,ye] at N;go_wp2_with fail
 refine d.out _ _ ?_;clear d K N f6;have P:=B0.out.e 6 (J (S.b+1));simp only[Li,List.set_cons_succ,List.set_cons_zero] at P;generalize w.setCell _ _=w1 at P t ⊢;refine wp_seq_k fun K c=>?_;have d:=ah c;clear c;have c7:=P.a 7 _ rfl;have f7:=P.b 7;simp only[yf,yd,ye] at c7;have X:=ah P;clear P B0;go_wp2_with fail
 refine d.out _ _ ?_;clear d K c7 f7;have O:=X.out.e 7 (J m);simp only[Li,List.set_cons_succ,List.set_cons_zero] at O;generalize w1.setCell _ (J m)=B at O t ⊢;refine wp_seq_k fun K c=>?_;have d:=ah c;clear c;have c8:=O.a 8 _ rfl;have f8:=O.b 8;simp only[yf,yd,ye] at c8;have V:=ah O;clear O X;go_wp2_with fail
 refine d.out _ _ ?_;clear d K c8 f8;have B3:=V.out.e 8 (J (Md.fK S.k m));simp only[Li,List.set_cons_succ,List.set_cons_zero] at B3;generalize B.setCell _ _=w3 at B3 t ⊢;refine wp_seq_k fun K c=>?_;have d:=ah c;clear c;have c5:=B3.a 5 _ rfl;have c9:=B3.a 9 _ rfl;have a1:=B3.a 10 _ rfl;have a0:=B3.a 11 _ rfl;have U:=B3.a 12 _ rfl;have T:=B3.a 13 _ rfl;have f5:=B3.b 5;have f9:=B3.b 9;have b6:=B3.b 10;have b3:=B3.b 11;have b5:=B3.b 12;have a4:=B3.b 13;simp only[yf,yd,ye] at c5 c9 a1 a0 U T;clear B3 V;go_wp2_with fail
 refine d.out _ _ ?_;clear d K c5 c9 a1 a0 U T f5 f9 b6 b3 b5 a4;have c3:Hid ((dM S m).n=S.n/\(dM S m).q=S.q):=⟨rfl,rfl⟩;generalize ((((((w3.setCell ⟨b,5,none⟩ (.bool false)).setCell ⟨b,9,none⟩ (J 0)).setCell ⟨b,10,none⟩ (J 0)).setCell ⟨b,11,none⟩ (J 0)).setCell ⟨b,12,none⟩ (sN)).setCell ⟨b,13,none⟩ (.pointer none))=w4 at t ⊢;have Y:=t.out.c.a.a 14 _ rfl;simp only[dM,yf,yd,ye] at Y;have H0:=ah t.out;have l:Hid (∀(k:Nat) wr,k<S.n->To w F b o wr { dM S m with q:=gK S.q S.n k } { o with h:=sN,c:=none }->∃r B,wr.cell? (aT o.kb k)=some (sT r S.n S.n)/\(Builtin.clear_ #[69] 0 #[sT r S.n S.n]).run prog wr=.ok (.tuple #[]) B/\To w F b o B { dM S m with q:=gK S.q S.n (k+1) } { o with h:=sN,c:=none }):=fun k wr hk h=>by
  obtain⟨r,hr,b9,b8,b0⟩:=h.c.e.m (q:=k) hk;obtain⟨B,A,c0, -,a6⟩:=Ei wr r S.n S.n b2 b8 b9;have h2:=h.c.b1 hr (row':=List.replicate S.n 0) (by simp;rfl) c0 a6;refine⟨r,B,b0,A,?_⟩;have e:((gK S.q S.n k).set k (List.replicate S.n 0))=gK S.q S.n (k+1):=Cv (by rw[HK.out.1];exact hk);have h3:=h.a h2;rw[show ({ ({ dM S m with q:=gK S.q S.n k }:PS) with q:=((gK S.q S.n k).set k (List.replicate S.n 0)) }:PS)={ dM S m with q:=gK S.q S.n (k+1) } by rw[e]] at h3;exact h3
 have y:Hid (∀wr,To w F b o wr { dM S m with q:=gK S.q S.n S.n } { o with h:=sN,c:=none }->wr.cell? (aT b 15)=some (.map (some o.m))/\∃B,(Builtin.clear_ #[156] 0 #[.map (some o.m)]).run prog wr=.ok (.tuple #[]) B/\To w F b o B { dM S m with q:=S.q.map fun r=>List.replicate r.length 0,o:=[] } { o with h:=sN,c:=none,l:=[],n:=#[] }):=fun wr h=>by
  have e:gK S.q S.n S.n=S.q.map fun r=>List.replicate r.length 0:=by
   have:=Cu (kn:=S.q) (n:=S.n) HK.out.2;rw[HK.out.1] at this;exact this
  rw[e] at h;exact⟨h.c.a.a 15 _ rfl,_,Eh wr h.c.e.map,h.a h.c.a9⟩
 clear t a7 M;refine wp_seq_k fun K c=>?_;have d:=ah c;clear c;go_wp2_with fail
 go_loopw [43] (fun i wr=>∃k:Nat,k<=S.n/\i=J k/\To w F b o wr { dM S m with q:=gK S.q S.n k } { o with h:=sN,c:=none }) (fun i _=>S.n - (intOf i).toNat)
 case atStart=>exact⟨0,ω,rfl,H0.out⟩
 case round=>
  obtain⟨k,hk,rfl,ht⟩:=hrel;by_cases a2:k<S.n
  ·have c1:(k:Int)<(S.n:Int):=ω;have d0:(0:Int)<=(k:Int):=ω;obtain⟨r,j,ck,A,Z⟩:=l.out k wr a2 ht;have H5:=ah Z;clear Z ht l y;go_wp2_with fail
   exact⟨⟨k+1,ω,by go_num,H5.out⟩,by simp[intOf];omega⟩
  ·have a5:¬(k:Int)<(S.n:Int):=ω;have a8:k=S.n:=ω;subst a8;obtain⟨b7,j,A,Z⟩:=y.out wr ht;have H5:Hid (To w F b o j _ _):=Z;clear Z ht l y;go_wp2_with fail
   refine d.out _ _ ?_;clear d;go_wp2_with fail
   clear A b7 Y a5;have D:=ah H5.out.c;have v:=ah D.out.e.a.f;have N:=D.out.a.a 6 _ rfl;have G:=D.out.a.a 17 _ rfl;simp only[dM,yf,yd,ye] at N G;have HS:Hid (∀H,Below j j H->H.cell? (aT b 6)=some (J (S.b+1))/\H.cell? (aT b 17)=some o.g):=fun H hw=>⟨(hw.cell (p:=(aT b 6)) v.out).trans N,(hw.cell (p:=(aT b 17)) v.out).trans G⟩;clear N G;refine gl.b (fun H=>H.cell? (aT b 6)=some (J (S.b+1))/\H.cell? (aT b 17)=some o.g) 15 rfl (HS.out _ (Below.refl _ _).drew) (fun a=>?_)
   (iterate 11 refine χ ?_)
   refine te 11 fun K c=>?_;go_simp;have f:Hid (Below j j (j.alloc (.cells #[J 3,J (S.b+1),J 0,J 0,J m,.string ⟨#[]⟩] 64)).drew):=((Below.refl _ _).alloc (yb _) _).drew;refine c.out _ _ (fun _=>HS.out _ f.out) (fun a=>?_);clear c K;try simp only[pU]
   have HE:Hid (af (j.alloc (.cells #[J 3,J (S.b+1),J 0,J 0,J m,.string ⟨#[]⟩] 64)).drew j.heap.size 64 #[J 3,J (S.b+1),J 0,J 0,J m,.string ⟨#[]⟩]):=(af.d j j.heap.size rfl 64 _).i;have I:Hid ((j.alloc (.cells #[J 3,J (S.b+1),J 0,J 0,J m,.string ⟨#[]⟩] 64)).drew.heap.size=j.heap.size+1):=by simp[Hid]
   generalize (j.alloc (.cells #[J 3,J (S.b+1),J 0,J 0,J m,.string ⟨#[]⟩] 64)).drew=w6 at f HE I a ⊢;refine te 12 fun K c=>?_;refine step_append_lies w6 rfl (.tmp 57) (.tmp 64) 35 rfl 0 64 i0 _ 6 56 Tryz.underlying35 b1 b4 a9 a3 rfl θ o.g S.j.length (az S.j) rfl (aQ D.out.e.c.d f.out) (aT j 0) 1 1 (Ev.f ⟨3,S.b+1,0,0,m,⟨#[]⟩⟩) rfl rfl (World.news_of_block HE.out) (by intro u hu;simp only[Ev.f,yF,yU,or_false] at hu;rcases hu with rfl|rfl|rfl|rfl|rfl|rfl <;> rfl) ω (by simp[maxLen];omega) ω (oI _) (j.heap.size+1) I.out ?_;intro g c4 w7 E x Q R;have nb:some b≠o.g.ownBlock:=fun e=>D.out.e.c.o e.symm D.out.e.a θ rfl;have z:=yg v.out f.out.size;have L:Hid (w7.cell? (aT b 6)=some (J (S.b+1))/\w7.cell? (aT b 17)=some o.g):=by
    have h4:=HS.out _ f.out;exact⟨(x.cell_far ⟨b,6,none⟩ z nb).trans h4.1,(x.cell_far ⟨b,17,none⟩ z nb).trans h4.2⟩
   have W:=ah (D.out.a8 f.out x (e:=⟨3,S.b+1,0,0,m,⟨#[]⟩⟩) E (Q.imp id fun e=>by omega));have d2:w7.frozen? (aT b 17)=false:=by
    rw[x.frozen_far ⟨b,17,none⟩ z nb];exact(D.out.e.a.c f.out v.out).b 17
   clear E x Q R a HE I f HS nb z;refine c.out _ _ (fun _=>L.out) (fun a=>?_);clear c K;try simp only[pU]
   have a:=a θ;refine te 13 fun K c=>?_;go_simp;refine c.out _ _ (fun _=>L.out) (fun a=>?_);clear c K;try simp only[pU]
   refine te 14 fun K c=>?_;go_simp;refine c.out _ _ (fun _=>L.out) (fun a=>?_);clear c K;try simp only[pU]
   have a:=a θ;refine te 15 fun K c=>?_;go_simp;refine c.out _ _ (fun h=>absurd rfl h) (fun _=>?_);clear c K;try simp only[pU]
   refine gl.done κ ?_ _;go_wp2_with fail
   go_end0
   obtain⟨o',ho⟩:=W.out;exact⟨rfl,o',H5.out.a ho⟩
def iV.c{R:Nat->Prop}{d:Option Nat}{L:Option Bal}{c:Value}{a:List (Value × Value)}{x:Nat}{B:Bal}(f:d=Option.some x)(e:L=Option.some B)(h:fD w R B x c a):iV w R d L c a:=by
 subst f e;exact h
def kP:∀{L:List Lft}{lvs:List (Value × Value)},lvs.length=L.length->∀(e:Lft) (v:Value × Value),bV (L++[e]) (lvs++[v])=bV L lvs++[J e.m,v.1,v.2]
 |[],[],_,e,v=>by simp[bV]
 | a :: L, u :: lvs, h, e, v => by
   have:=kP (by simpa using h) e v;simp only[Ft,bV,this];simp
 |[],_::_,h,_,_=>by simp at h
 |_::_,[],h,_,_=>by simp at h
def PP.b5(p:PP w F b S o):PA w (fun x=>F x/\¬o.X x) b (o.q S) S.q o.l S.j (S.e.map lF) o.kb o.m o.k o.n o.j o.g o.d:=by
 have q:=p.e;have d:∀{x},o.U b x->¬o.X x:=fun m a=>p.nx a m;have k:∀{x e t},w.heap[x]?=some (.cells e t (0,0))->(t=3\/t=69)->¬o.X x:=fun h s a=>by
  obtain⟨_,u,j,f⟩:=p.q a;rw[h] at j;cases j;rcases s with rfl|rfl <;> simp at f
 refine⟨q.a,q.e,q.map,q.o,q.i,fun x a=>⟨⟨(q.d x a).1.d,fun g c=>⟨(q.d x a).1.c g c,?_⟩⟩,(q.d x a).2⟩,⟨q.c.d,fun g c=>⟨q.c.c g c,d (.inr (.inr (.inr (.inl c))))⟩⟩,⟨q.f.d,fun g c=>⟨q.f.c g c,d (.inr (.inr (.inr (.inr c))))⟩⟩,⟨q.t,d (.inl rfl)⟩,⟨q.z,k q.e.c (.inr rfl)⟩,⟨q.s,d (.inr (.inl rfl))⟩,fun r i=>⟨q.fr r i,d (.inr (.inr (.inl i)))⟩⟩;obtain⟨e,n⟩:=(q.d x a).1.m c;exact k n (.inl rfl)
def PP.a2(p:PP w F b S o){s:World}(f:w.grownBy s o.i.ownBlock){g d:Nat}{e:Lft}{N O:Value}(P:s.ownsRow 0 249 3 (sT g (S.i.length+1) d) (S.i.length+1) (bV S.i o.f++[J e.m,N,O]))(hg:o.i.ownBlock=some g\/w.heap.size<=g)(hc:aE w (o.R F b) N e.a)(hm:bI w (o.R F b) O e.b) :
 To w F b o (s.setCell ⟨b,16,none⟩ (sT g (S.i.length+1) d)) { S with i:=S.i++[e] } { o with i:=sT g (S.i.length+1) d,f:=o.f++[(N,O)] }:=by
 have Y:∀x,({ o with i:=sT g (S.i.length+1) d,f:=o.f++[(N,O)] }:Pl).M b x->o.M b x\/w.heap.size<=x:=fun x c=>by
  rcases c with h|h|h|h
  ·exact .inl (.inl h)
  ·exact .inl (.inr (.inl h))
  ·exact .inl (.inr (.inr (.inl h)))
  ·have:g=x:=by simpa[Value.ownBlock] using h
   subst this;exact hg.imp (fun h=>.inr (.inr (.inr h))) id
 have Z:∀x,x<w.heap.size->x≠b->o.i.ownBlock≠some x->(s.setCell ⟨b,16,none⟩ (sT g (S.i.length+1) d)).heap[x]?=w.heap[x]?:=fun x c z C=>(Below.heap_setCell _ _ _ _ z).trans (f.block x c fun e=>C e.symm);have A:w.heap.size<=(s.setCell ⟨b,16,none⟩ (sT g (S.i.length+1) d)).heap.size:=by simpa using f.size
 have j:jo (o.R F b) (({ o with i:=sT g (S.i.length+1) d,f:=o.f++[(N,O)] }:Pl).R F b) w (s.setCell ⟨b,16,none⟩ (sT g (S.i.length+1) d)):=⟨A,fun x U c=>⟨⟨U.1,fun h=>(Y x h).elim U.2 fun e=>ω⟩,Z x c (fun e=>U.2 (.inl (.inl e))) fun e=>U.2 (.inr (.inr (.inr e)))⟩⟩;have a0:∀x,o.i.ownBlock=some x->x≠b:=fun x c e=>p.nx (.inr (.inr c)) (.inl e);have a2:=hg.elim (a0 g) fun h=>by have:=p.e.a.f;omega
 have H:=p.b5.u fun x c V=>f.block x V fun e=>c.2 (.inr (.inr e.symm));have hX:=fun x c C=>Z x (p.n c) (fun e=>p.nx c (.inl e)) C;have hB:=H.a.e 16 (sT g (S.i.length+1) d);have K:∀{e sz:Nat}{v:Value}{n:Nat}{xs:List Value},e≠159->eB s (fun x=>F x/\¬o.X x) e sz v n xs->eB (s.setCell ⟨b,16,none⟩ (sT g (S.i.length+1) d)) (fun x=>F x/\¬o.X x) e sz v n xs:=fun he r=>r.i fun x c=>Below.heap_setCell _ _ _ _ (r.o c H.a he);refine⟨⟨?_,p.ms,fun x c=>?_,fun x c=>p.up x (yr A c),p.vote.f j,?_,?_⟩,⟨f.os,f.tape,f.output,A,fun x c hn=>Z x c (fun e=>hn (.inl (.inl e))) fun e=>hn (.inr (.inr (.inr e)))⟩,Y⟩
 ·exact(H.p (h':=zc { S with i:=S.i++[e] } o.h (sT g (S.i.length+1) d) o.c) rfl hB (fun x _ z _ _=>Below.heap_setCell _ _ _ _ z) (K θ H.c) (K θ H.f)).k fun x c=>c.1
 ·rcases Y x (.inr c) with h|h
  ·exact p.mf h
  ·exact p.up x h
 ·rcases p.lead.cases with ⟨G,W⟩|⟨x,B,G,W,C⟩
  ·show iV _ _ o.c S.d _ _;rw[G,W];trivial
  ·have I:∀{y t a1},w.heap[y]?=some (.cells a1 t (0,0))->t≠249->o.i.ownBlock≠some y:=fun h ht e=>by
    rcases p.left.d.2 with ⟨l, -⟩|⟨g',E,L,l, -,q, -⟩
    ·rw[l] at e;cases e
    ·rw[l] at e;cases e;rw[h] at q;cases q;exact ht rfl
   have k:=C.g j (hX x (.inl G) (I C.c θ)) fun y T=>by
    rcases C.d.2 with ⟨l, -⟩|⟨g',E,L,l, -,q, -⟩
    ·rw[l] at T;cases T
    ·rw[l] at T;cases T;exact hX _ (.inr (.inl ⟨by rw[G];rfl,by rw[l];rfl⟩)) (I q θ)
   exact iV.c G W k
 ·refine⟨by simp[p.left.f],?_,fun i a v u D=>?_⟩
  ·show World.ownsRow _ 0 249 3 _ _ _;rw[kP p.left.f,yC];exact aj P fun x c=>by
    have:g=x:=by simpa[Value.ownBlock] using c
    subst this;exact Below.heap_setCell _ _ _ _ a2
  ·have Q:=p.left.f;by_cases hi:i<S.i.length
   ·rw[y7 hi] at u;rw[y7 ω] at D;exact⟨(p.left.e i a v u D).1.f j,(p.left.e i a v u D).2.c j⟩
   ·rw[Fl ω] at u;rw[Fl ω,Q] at D;have l:=(ym.1 u).1;simp only[yx,yD] at l;rw[show i - S.i.length=0 by omega] at u D;simp only[AH,yA] at u D;subst u D;exact⟨hc.f j,hm.c j⟩
def Ek(p:PP w F b S o):Do 70 #[pT b 0] (J (if S.f then 6 else 0)) w F b o S.crash:=by
 have c:=p.a;have g:=c.a 3 _ rfl;have j:=c.b 3;simp only[yf,yd,ye] at g;have i:Hid (∃f,To w F b o _ S.crash f):=⟨_,p.head (cW.a 3 _) (c.e 3 _) rfl rfl rfl rfl rfl rfl p.vote (.inl ⟨rfl,rfl⟩)⟩;have d:Hid (S.f=true->∃f,To w F b o w S.crash f):=fun e=>⟨o,by rw[show S.crash=S by unfold PS.crash;rw[<-e]];exact To.f p⟩;clear p c;cases a:S.f with
 | true =>
   rw[a] at g;have HF':=ah (d.out a);clear d i a;go_enter Tryz.func70,Tryz.ntmps70
   go_wp2
   go_ret;exact⟨rfl,HF'.out⟩
 | false =>
   rw[a] at g;clear d a;go_enter Tryz.func70,Tryz.ntmps70
   go_wp2
   go_ret;exact⟨rfl,i.out⟩
def oD(p:PP w F b S o):Calls prog 105 #[pT b 0] w fun e g=>e=.returned (J S.MC)/\g=w:=by
 have c:=p.a;have d:=c.a 3 _ rfl;have f:=c.a 4 _ rfl;simp only[yf,yd,ye] at d f;have a:Hid (S.MC=if S.f then 6 else if S.out then 7 else 0):=rfl;clear p c;generalize S.MC=v at a ⊢;generalize S.f=x at d a;generalize S.out=y at f a;cases x <;> cases y <;> (have e:=a.out;simp only[yH,if_true,if_false] at e;subst e;clear a;go_enter Tryz.func105,Tryz.ntmps105;go_wp2;go_ret;exact⟨rfl,rfl⟩)
variable {q:Nat}
def Ay(a:q<6):∃x:Int,x=Md.aO q/\wrap64 (2 ^ q)=x/\Md.bj x:=⟨_,rfl,by
 match q,a with
 |0,_|1,_|2,_|3,_|4,_|5,_=>decide +kernel,.c a⟩
def wX(p:PP w F b S o)(k:Wf S)(r:q<6):Do 65 #[pT b 0,J q] (J (if q=S.c then 5 else S.MC)) w F b o (S.Mu q):=by
 have s:=p.a.a 0 _ rfl;simp only[yf,yd] at s;have f:=oD p;have j:Hid (∃A,To w F b o w S A):=⟨o,To.f p⟩;obtain⟨x,l,n,c⟩:=Ay r;have i:Hid (Do 106 #[pT b 0,J x] (.tuple #[]) w F b o (S.suspect (Md.aO q))):=l▸qm p k c;have z:0<=q:=ω;clear p k l c;by_cases e:q=S.c
 ·have d:Hid (S.Mu q=S):=by unfold Hid PS.Mu;rw[if_neg];rintro⟨h, -⟩;exact h e
  have u:q=S.c:=by rw[e]
  rw[if_pos e,d.out];clear i d f e;go_enter Tryz.func65,Tryz.ntmps65
  go_wp2
  go_ret;exact⟨rfl,j.out⟩
 ·have u:¬q=S.c:=ω;rw[if_neg e];by_cases g:S.MC=0
  ·have d:Hid (S.Mu q=S.suspect (Md.aO q)):=by unfold Hid PS.Mu;rw[if_pos ⟨e,g⟩]
   rw[d.out,g];rw[g] at f;have a:Hid (Calls prog 105 #[pT b 0] w fun e t=>e=.returned (J 0)/\t=w):=f;clear d f e j g;have D:min q 64=q:=ω;go_enter Tryz.func65,Tryz.ntmps65
   go_wp2_with fail
   refine a.out.mono ?_;rintro e B ⟨rfl,rfl⟩;go_wp2_with fail
   rw[n];refine i.out.mono ?_;rintro e C ⟨rfl,m⟩;have y:=ah m;clear m i;go_wp2
   go_ret;exact⟨rfl,y.out⟩
  ·have d:Hid (S.Mu q=S):=by unfold Hid PS.Mu;rw[if_neg];rintro⟨-,h⟩;exact g h
   have a:=ah f;rw[d.out];generalize S.MC=v at g a ⊢;clear i f d e;go_enter Tryz.func65,Tryz.ntmps65
   go_wp2_with fail
   refine a.out.mono ?_;rintro e B ⟨rfl,rfl⟩;go_wp2
   go_ret;exact⟨rfl,j.out⟩
def Gk:(prog.info? 249).map (fun i=>(i.zero,i.size,i.bytes))=some (some (.agg #[J 0,sN,sN]),3,56):=κ
def qun(p:PP w F b S o)(Q:Wf S)(ho:S.out=false){m:Int}(hm:Md.bj m){c:List Int}{cv:Value}(hv:aE w (o.R F b) cv c)(hl:c.length=S.n):Do 258 #[pT b 0,J m,cv] (.tuple #[]) w F b o (S.install m c):=by
 obtain⟨s,t,x,rfl⟩:=hv.a;obtain⟨i0,b4,b2,b3,b0⟩:=info_parts Gk;have HD:=ah (nh p Q hv hl);have kp:=Md.eh S c;have HN:Hid (∀k f,To w F b o k (S.Mb c) f->aE k (f.R F b) (.slice s t x) c/\c.length=(S.Mb c).n/\(S.Mb c).i.length<=2147483648/\Wf (S.Mb c)):=fun k f h=>by
  refine⟨hv.f h.d,by rw[kp.n];exact hl,?_,Q.d c⟩;rw[kp.h,Q.left.2 ho];have:=Q.view;omega
 have b6:0<=S.c:=ω;have HI:Hid (S.install m c=if Md.aV m S.c then ((S.Mb c).M6 m c).enter m else ((S.Mb c).M6 m c).Na):=rfl;have A:=kp.i;have a3:S.c<=63:=by have:=Q.num;have:=Q.c;omega
 have r:=gE m S.c;clear p Q ho hv hl kp;generalize S.install m c=X at HI ⊢;generalize S.Mb c=T at HD HN A HI;go_enter Tryz.func258,Tryz.ntmps258
 go_wp2_with fail
 refine HD.out.mono ?_;rintro e k ⟨rfl,f,h1⟩;have M:=ah h1;obtain⟨a5,b5,b7,a8⟩:=HN.out k f h1;have HV:=ah a5;have HW:Hid (Wf T):=a8;have a7:=ah h1.c.e.a.f;have U:=h1.c.a.a 16 _ rfl;simp only[yf,yd,ye] at U;have Z:Hid (∀z,Below k k z->z.cell? (aT b 16)=some f.i):=fun z hw=>(hw.cell (p:=(aT b 16)) a7.out).trans U;have HH:Hid (∀z,Below k k z->Calls prog 240 #[pT b 0,.slice s t x] z fun e a1=>Below z z a1/\∃v,e=.returned v/\bI a1 (f.R F b) v (T.Mm c)):=fun z hw=>lA (M.out.c.c hw) HW.out (HV.out.f (M.out.c.d hw).d) b5;clear h1 a5 a8 HN HD U;go_wp2_with fail
 refine gl.b (fun z=>z.cell? _=some f.i) 15 rfl (Z.out _ (Below.refl _ _).drew) (fun a=>?_)
 (iterate 9 refine χ ?_)
 refine te 9 fun K d=>?_;go_simp;refine(HH.out _ (Below.refl _ _).drew).mono ?_;rintro e j ⟨a4,mv,rfl,P⟩;obtain⟨D,B,G,rfl⟩:=P.a;have l:Hid (Below k k j):=((Below.refl _ _).drew).trans (a4.mono ς);have HM:=ah P;clear a4 P HH;refine d.out _ _ (fun _=>Z.out _ l.out) (fun a=>?_);clear d K;try simp only[pU]
 have a:=a θ;refine te 10 fun K d=>?_;go_simp;refine d.out _ _ (fun _=>Z.out _ l.out) (fun a=>?_);clear d K;try simp only[pU]
 have a:=a θ;refine te 11 fun K d=>?_;go_simp;have i:Hid (Below k k (j.alloc (.cells #[J m,.slice s t x,.slice D B G] 249))):=l.out.alloc l.out.size _;have y:Hid (Below j j (j.alloc (.cells #[J m,.slice s t x,.slice D B G] 249))):=(Below.refl _ _).alloc (yb _) _;have HE:Hid (af (j.alloc (.cells #[J m,.slice s t x,.slice D B G] 249)) j.heap.size 249 #[J m,.slice s t x,.slice D B G]):=af.d j j.heap.size rfl 249 _;have E:Hid ((j.alloc (.cells #[J m,.slice s t x,.slice D B G] 249)).heap.size=j.heap.size+1):=by simp[Hid]
 refine d.out _ _ (fun _=>Z.out _ i.out) (fun a=>?_);clear d K;try simp only[pU]
 have a:=a θ;generalize (j.alloc (.cells #[J m,.slice s t x,.slice D B G] 249))=w4 at i y HE E a ⊢;have P4:=ah (M.out.c.c i.out);have a2:=ah (HV.out.f (M.out.c.d i.out).d);have a6:=ah (HM.out.c ((M.out.c.c l.out).d y.out).d);refine te 12 fun K d=>?_;refine step_append_lies w4 rfl (.tmp 13) (.tmp 20) 157 rfl 0 249 i0 _ 3 56 Tryz.underlying157 b4 b2 b3 b0 rfl θ f.i T.i.length (bV T.i f.f) rfl P4.out.left.d ⟨j.heap.size,0,none⟩ 1 1 [J m,.slice s t x,.slice D B G] rfl rfl (World.news_of_block HE.out) (by intro u hu;simp only[yF,yU,or_false] at hu;rcases hu with rfl|rfl|rfl <;> rfl) ω (by simp[maxLen];omega) ω (oI _) (j.heap.size+1) E.out ?_;intro g I w5 O H a0 a9;have nb:some b≠f.i.ownBlock:=fun e=>P4.out.nx (.inr (.inr e.symm)) (.inl rfl);have W:=P4.out.e.a.f;have L:=ah ((H.cell_far ⟨b,16,none⟩ W nb).trans (Z.out _ i.out));have N:Hid (To w4 F b f (w5.setCell ⟨b,16,none⟩ (sT g (T.i.length+1) I)) (T.M6 m c) { f with i:=sT g (T.i.length+1) I,f:=f.f++[(.slice s t x,.slice D B G)] }):=P4.out.a2 H (e:=⟨m,c,T.Mm c⟩) O (a0.imp id fun e=>by have:=E.out;omega) a2.out a6.out;have b1:w5.frozen? (aT b 16)=false:=by
  rw[H.frozen_far ⟨b,16,none⟩ W nb];exact P4.out.e.a.b 16
 have C:=ah ((M.out.a (M.out.c.d i.out)).a N.out);clear O H a0 a9 a HE E i y l Z nb W HM a6 a2 HV N P4 M;refine d.out _ _ (fun _=>L.out) (fun a=>?_);clear d K;try simp only[pU]
 have a:=a θ;refine te 13 fun K d=>?_;go_simp;refine d.out _ _ (fun _=>L.out) (fun a=>?_);clear d K;try simp only[pU]
 refine te 14 fun K d=>?_;go_simp;refine d.out _ _ (fun _=>L.out) (fun a=>?_);clear d K;try simp only[pU]
 have a:=a θ;refine te 15 fun K d=>?_;go_simp;refine d.out _ _ (fun h=>absurd rfl h) (fun _=>?_);clear d K;try simp only[pU]
 refine gl.done κ ?_ _;generalize ({ f with i:=sT g (T.i.length+1) I,f:=f.f++[(.slice s t x,.slice D B G)] }:Pl)=o2 at C;generalize w5.setCell ⟨b,16,none⟩ (sT g (T.i.length+1) I)=w6 at C ⊢;have c0:=C.out.c.a.a 0 _ rfl;simp only[yf,yd] at c0;rw[show (T.M6 m c).c=S.c from A] at c0;have V:=ah (Em C.out.c (HW.out.v m c) hm);have Y:=ah (xX C.out.c (HW.out.v m c));clear L b1 HW a;go_wp2_with fail
 refine(r w6 a3).mono ?_;rintro e w7 ⟨rfl,rfl⟩;have hH:jc m S.c=Md.aV m S.c:=rfl;rw[hH];cases hc:Md.aV m S.c with
 | true =>
   have HX:Hid (X=(T.M6 m c).enter m):=by have:=HI.out;rw[hc] at this;exact this
   clear Y HI hc hH r;go_wp2_with fail
   refine V.out.mono ?_;rintro e w8 ⟨rfl,o3,h3⟩;have H3:Hid (∃o',To w F b o w8 X o'):=⟨o3,by rw[HX.out];exact C.out.a h3⟩;clear h3 V C;go_wp2_with fail
   go_end0
   exact⟨rfl,H3.out⟩
 | false =>
   have HX:Hid (X=(T.M6 m c).Na):=by have:=HI.out;rw[hc] at this;exact this
   clear V HI hc hH r;go_wp2_with fail
   refine Y.out.mono ?_;rintro e w8 ⟨rfl,o3,h3⟩;have H3:Hid (∃o',To w F b o w8 X o'):=⟨o3,by rw[HX.out];exact C.out.a h3⟩;clear h3 Y C;go_wp2_with fail
   go_end0
   exact⟨rfl,H3.out⟩
variable {x:Nat}{B:Bal}
def kr{e i:Nat}{v:Value}{n:Nat}{f:List Value}(d:w.ownsRow 0 e i v n f)(c:v.ownBlock=some x):∃a,w.heap[x]?=some (.cells a e (0,0)):=by
 rcases d.2 with ⟨h, -⟩|⟨k,g,a,rfl, -,j, -⟩
 ·rw[h] at c;cases c
 ·cases c;exact⟨a,j⟩
def PP.m(p:PP w F b S o){B':Bal}(j:o.c=some x)(H:S.d=some B){av':Value}{avs':List (Value × Value)}(f:cW (fun y=>y=x\/o.e.ownBlock=some y) w w')(m:af w' x 234 (bu B' av'))(q:avs'.length=B'.i.length)(n:w'.ownsRow 0 237 4 av' B'.i.length (bF B'.i avs'))
 (l:∀(i:Nat) a v,B'.i[i]?=some a->avs'[i]?=some v->aE w (o.R F b) v.1 a.1/\aE w (o.R F b) v.2 a.2.a) (z:∀g,av'.ownBlock=some g->o.e.ownBlock=some g\/w.heap.size<=g):To w F b o w' { S with d:=some B' } { o with e:=av',a:=avs' }:=by
 have A:∀y,(y=x\/o.e.ownBlock=some y)->o.X y:=fun y d=>d.elim (fun e=>.inl (by rw[j,e])) fun e=>.inr (.inl ⟨by rw[j];rfl,e⟩);have u:∀y,({ o with e:=av',a:=avs' }:Pl).M b y->o.M b y\/w.heap.size<=y:=fun y d=>by
  rcases d with h|h|⟨c,s⟩|h
  ·exact .inl (.inl h)
  ·exact .inl (.inr (.inl h))
  ·exact(z y s).imp (fun e=>.inr (.inr (.inl ⟨c,e⟩))) id
  ·exact .inl (.inr (.inr (.inr h)))
 have k:jo (o.R F b) (({ o with e:=av',a:=avs' }:Pl).R F b) w w':=⟨f.size,fun g C r=>⟨⟨C.1,fun h=>(u g h).elim C.2 fun e=>ω⟩,f.block g r fun e=>C.2 (.inr (A g e))⟩⟩;have D:=fun g r=>f.block g (p.n (.inr (.inr r))) fun e=>by
  obtain⟨I,G⟩:=kr p.left.d r;rcases e with e|e
  ·have c:=(p.f j H).c;rw[<-e] at c;have c:w.heap[g]?=_:=c;rw[G] at c;cases c
  ·obtain⟨E,c⟩:=kr (p.f j H).d e;rw[G] at c;cases c
 refine⟨⟨?_,p.ms,fun y d=>(u y (.inr d)).elim p.mf (p.up y),fun y d=>p.up y (yr f.size d),p.vote.f k,?_,p.left.c k D⟩,f.e fun y _ d=>.inr (A y d),u⟩
 ·exact(p.b5.u fun y d t=>f.block y t fun e=>d.2 (A y e)).k fun y d=>d.1
 ·exact iV.c j rfl ⟨m,q,n,fun i a v c s=>⟨(l i a v c s).1.f k,(l i a v c s).2.f k⟩⟩
def PP.a1(p:PP w F b S o){d:World}(z:Below w w d)(l:w.heap.size<=x)(A:B.i=[])(k:af d x 234 (bu B (sN))):To w F b o (d.setCell ⟨b,13,none⟩ (pT x 0)) { S with d:=some B } { o with c:=some x,e:=sN,a:=[] }:=by
 have s:=p.c z;have C:x≠b:=fun e=>by have:=p.e.a.f;omega
 have G:=z.size;have j:w.heap.size<=(d.setCell ⟨b,13,none⟩ (pT x 0)).heap.size:=by simpa using G
 have O:∀y,({ o with c:=some x,e:=sN,a:=[] }:Pl).X y->y=x\/o.i.ownBlock=some y:=fun y c=>by
  rcases c with h|⟨-,h⟩|h
  ·cases h;exact .inl rfl
  ·cases h
  ·exact .inr h
 have I:∀y,({ o with c:=some x,e:=sN,a:=[] }:Pl).M b y->o.M b y\/w.heap.size<=y:=fun y c=>by
  rcases c with h|h
  ·exact .inl (.inl h)
  ·rcases O y h with h|h
   ·exact .inr (h▸l)
   ·exact .inl (.inr (.inr (.inr h)))
 have u:∀y,y≠b->(d.setCell ⟨b,13,none⟩ (pT x 0)).heap[y]?=d.heap[y]?:=fun y c=>Below.heap_setCell _ _ _ _ c;have m:cW (o.M b) w (d.setCell ⟨b,13,none⟩ (pT x 0)):=(p.d z).e.c ((cW.a 13 _).e fun y _ c=>.inl (.inl (.inl c)));have q:jo (o.R F b) (({ o with c:=some x,e:=sN,a:=[] }:Pl).R F b) w _:=⟨j,fun g H f=>⟨⟨H.1,fun h=>(I g h).elim H.2 fun e=>ω⟩,m.block g f H.2⟩⟩;have E:=s.e.a.e 13 (pT x 0);have t:∀{e N:Nat}{v:Value}{n:Nat}{K:List Value},e≠159->eB d F e N v n K->eB _ F e N v n K:=fun P r=>r.i fun g f=>u g (r.o f s.e.a P);refine⟨⟨?_,p.ms,fun y c=>?_,fun y c=>p.up y (yr j c),p.vote.f q,?_,p.left.c q fun g f=>?_⟩,m,I⟩
 ·exact s.e.p rfl E (fun y _ D _ _=>u y D) (t θ s.e.c) (t θ s.e.f)
 ·rcases O y c with h|h
  ·exact h▸p.up x l
  ·exact p.fx y (.inr (.inr h))
 ·exact iV.c rfl rfl ⟨(u x C).trans k,by rw[A];rfl,by rw[A];exact⟨rfl,.inl ⟨rfl,rfl⟩⟩,fun i a v L _=>by rw[A] at L;cases L⟩
 ·exact(u g fun e=>p.nx (.inr (.inr f)) (.inl e)).trans (z.block g (p.n (.inr (.inr f))))

import Derived.Test.YtoklolfaemhfnaaGreatDoorZat
set_option maxRecDepth 100000
set_option maxHeartbeats 0
set_option linter.defProp false
open Go.Proofs.Tryz (prog)
namespace Go.Proofs.YtoklolfaemhfnaaGreatDoor
section
open Go.RowKit
open Md (PS Vote Bal Lft Wf MsgW)
variable {w w':World}{F:Nat->Prop}{b:Nat}{S:PS}{o:Pl}{k:Nat}{cut:List Int}{x:Codec.Msg × Value}
def pN{a:Type}{f:Nat->Option a}{n:Nat}{m:a}(h:∀q,q<k->f q=none)(g:f k=some m)(i:k<n):(List.range n).findSome? f=some m:=by
 induction n with
 |zero=>omega
 | succ n d =>
   rw[List.range_succ,List.findSome?_append];by_cases e:k=n
   ·subst e;have:=List.findSome?_eq_none_iff.2 fun q c=>h q (zD.1 c);rw[this];simp[g]
   ·rw[d ω];rfl
def PP.a4(p:PP w F b S o){m:Codec.Msg}(h:m∈S.o):∃c,(m,c)∈o.l:=by
 rw[<-p.ms] at h;obtain⟨x,a,rfl⟩:=yW.1 h;exact⟨x.2,a⟩
def PP.p(p:PP w F b S o)(a:Wf S)(h:x∈o.l):MsgW S.n x.1:=a.ms x.1 (by rw[<-p.ms];exact Hq h)
def PP.v(p:PP w F b S o)(a:∀x∈o.l,gL k (S.Ml.getD k 0+1) x.1=false):S.M9 cut k=none:=by
 have:S.o.find? (Md.eA k _)=none:=List.find?_eq_none.2 fun m d=>by
  obtain⟨e,c⟩:=p.a4 d;have:=a _ c;rw[show Md.eA k _ m=gL k _ m from rfl,this];simp
 unfold PS.M9;rw[this];rfl
def PP.s(p:PP w F b S o)(a:x∈o.l)(g:gL k (S.Ml.getD k 0+1) x.1=true):S.M9 cut k=if Md.aR cut x.1 && ey S.Ml x.1.c k then some x.1 else none:=by
 have j:S.o.find? (Md.eA k (S.Ml.getD k 0+1))=some x.1:=by
  cases e:S.o.find? _ with
  |none=>exact absurd g (List.find?_eq_none.1 e x.1 (by rw[<-p.ms];exact Hq a))
  | some m =>
    have h:=List.find?_some e;obtain⟨i,n⟩:=p.a4 (List.mem_of_find?_eq_some e);by_cases f:x=(m,i)
    ·rw[f]
    ·exfalso
     have d:=cu.1 (h);have c:=cu.1 g;exact pC p.e.i a n f (by rw[cu];exact⟨d.1.trans c.1.symm,d.2.trans c.2.symm⟩)
 unfold PS.M9;rw[j];rfl
def pK(p:PP w F b S o)(O:Wf S)(cb cc:Nat)(Q:∀q,q<S.n->w.cell? (aT cb q)=some (J (cut.getD q 0))) :
 Calls prog 301 #[pT b 0,sT cb S.n cc] w fun e a=>Below w w a/\((S.Mh cut=none/\e=.returned (.tuple #[.agg #[J 0,J 0,sN,.string ⟨#[]⟩],.bool false]))\/∃x∈o.l,S.Mh cut=some x.1/\e=.returned (.tuple #[aU x.1 x.2,.bool true])):=by
 obtain⟨r,hr, -,b9⟩:=p.i O;have d5:=World.block_lt_of_cell? w _ (Q S.c O.num);have d7:=O.g.1;have e6:=O.c;have HR:Hid (∀a,Below w w a->Calls prog 119 #[pT b 0] a fun e w''=>e=.returned (sT r S.n S.n)/\Below a a w''/\w''.heap=a.heap):=fun a j=>np (p.c j) hr;have HC:Hid (∀a,Below w w a->a.cell? (aT b 15)=some (.map (some o.m))/\∀q,q<S.n->a.cell? (aT r q)=some (J (S.Ml.getD q 0))):=fun a j=>⟨(p.c j).a.a 15 _ rfl,fun q hq=>(b9.c j b9.f).a q _ (ie ω)⟩;have b5:Hid (∀a (s q:Int),Below w w a->(∀x∈o.l,gL s q x.1=false)->(Instr.lookup 156 (.map (some o.m)) (.agg #[J s,J q]) true).run prog a=.ok (.tuple #[.agg #[J 0,J 0,sN,.string ⟨#[]⟩],.bool false]) a):=fun a s q j D=>my a s q ((j.block o.m p.e.q).trans p.e.map) p.e.o D true;have R:Hid (∀a (s q:Int) (x:Codec.Msg × Value),Below w w a->x∈o.l->gL s q x.1=true->(Instr.lookup 156 (.map (some o.m)) (.agg #[J s,J q]) true).run prog a=.ok (.tuple #[aU x.1 x.2,.bool true]) a):=fun a s q x j M hk=>mz a s q ((j.block o.m p.e.q).trans p.e.map) p.e.o p.e.i M hk true;have HT:Hid (∀x∈o.l,∃f g,x.2=sT f S.n g):=fun x M=>by
  obtain⟨f,g,e, -⟩:=jf p.e O.n0 M (p.p O M).t;exact⟨f,g,e⟩
 have E:Hid (∀a (m:Codec.Msg) (f g s:Nat),Below w w a->(m,Value.slice (some ⟨f,0,none⟩) S.n g)∈o.l->m.a=s->Calls prog 304 #[pT b 0,aU m (sT f S.n g)] a fun e w''=>e=.returned (.bool (ey S.Ml m.c s))/\Below a a w''):=fun a m f g s j M Z=>by
  have a5:=(p.p O M).t;have p':=p.e.j j;obtain⟨e4,e7,e,hc⟩:=jf p' O.n0 M a5;injection e with T e2 e3;injection T with T;injection T with T;subst T;exact Av p' O.c O.num m f g s Z a5 hc
 have HW:Hid (∀a (m:Codec.Msg) (f g s:Nat),Below w w a->s<S.n->m.a=s->Calls prog 273 #[sT cb S.n cc,aU m (sT f S.n g)] a fun e w''=>e=.returned (.bool (Md.aR cut m))/\Below a a w''):=fun a m f g s j hs Z=>by
  have:=lE (w:=a) cb S.n cc m (some ⟨f,0,none⟩) S.n g s (cut.getD s 0) hs Z ((j.cell (p:=(aT cb s)) d5).trans (Q s hs));rw[show decide (m.seq<=cut.getD s 0)=Md.aR cut m by unfold Md.aR;rw[Z];rfl] at this;exact this
 have HX:=af.d w _ rfl 179 #[J 0,J 0,sN,.string ⟨#[]⟩];have G:Hid (∀a,Below (w.heap.size+1) (w.alloc (.cells #[J 0,J 0,sN,.string ⟨#[]⟩] 179)) a->Below w w a/\af a w.heap.size 179 #[J 0,J 0,sN,.string ⟨#[]⟩]):=fun a j=>⟨((Below.refl _ _).alloc (yb _) _).trans (j.mono ω),HX.c j ω⟩;have c6:Hid (Below (w.heap.size+1) (w.alloc (.cells #[J 0,J 0,sN,.string ⟨#[]⟩] 179)) (w.alloc (.cells #[J 0,J 0,sN,.string ⟨#[]⟩] 179))):=Below.refl _ _;have a2:Hid ((w.alloc (.cells #[J 0,J 0,sN,.string ⟨#[]⟩] 179)).heap.size=w.heap.size+1):=by simp[Hid]
 have P:Hid (∀q,q<S.n->0<=S.Ml.getD q 0/\S.Ml.getD q 0<=20):=fun q hq=>O.g.at hq;have b0:Hid (∀k:Nat,(∀x∈o.l,gL k (S.Ml.getD k 0+1) x.1=false)->S.M9 cut k=none):=fun k hk=>p.v hk;have b2:Hid (∀(k:Nat) x,x∈o.l->gL k (S.Ml.getD k 0+1) x.1=true->S.M9 cut k=if Md.aR cut x.1 && ey S.Ml x.1.c k then some x.1 else none):=fun k x M hk=>p.s M hk;have HD:Hid (∀(k:Nat) (m:Codec.Msg),(∀q,q<k->S.M9 cut q=none)->S.M9 cut k=some m->k<S.n->S.Mh cut=some m):=fun k m h1 h2 h3=>pN h1 h2 h3;have a9:Hid ((∀q,q<S.n->S.M9 cut q=none)->S.Mh cut=none):=fun h=>List.findSome?_eq_none_iff.2 fun q hq=>h q (zD.1 hq);clear p b9 hr Q HX O d7;go_enter Tryz.func301,Tryz.ntmps301
 go_wp2_with fail
 generalize w.alloc _=w1 at G c6 a2 ⊢;refine(HR.out w1 (G.out w1 c6.out).1).mono ?_;rintro e w2 ⟨rfl,c1, -⟩;have c8:Hid (Below (w.heap.size+1) w1 w2):=c1.mono (by rw[a2.out];omega);clear c1;go_wp2_with fail
 go_loopw [13] (fun i wr=>∃k:Nat,k<=S.n/\i=J k/\(∀q,q<k->S.M9 cut q=none)/\Below _ w1 wr) (fun i _=>S.n - (intOf i).toNat)
 case atStart=>exact⟨0,ω,rfl,fun x hq=>absurd hq ω,c8.out⟩
 case round=>
  obtain⟨k,hk,rfl,K,C⟩:=hrel;have a4:=ah C;obtain⟨j,Y⟩:=G.out wr C;have d4:=ah j;have d:=ah Y;have B:=ah K;by_cases X:k<S.n
  ·obtain⟨e8,U⟩:=HC.out wr j;have cr:=U k X;have d8:k<S.n:=ω;have e5:0<=k:=ω;have hb:=P.out k X;have H:Hid (S.M9 cut k=none->∀q,q<k+1->S.M9 cut q=none):=fun e q hq=>by
    rcases Kq.1 hq with h|h
    ·exact B.out q h
    ·rw[h];exact e
   have c3:wrap64 (S.Ml.getD k 0+1)=S.Ml.getD k 0+1:=by
    unfold wrap64;omega
   by_cases D:∀x∈o.l,gL k (S.Ml.getD k 0+1) x.1=false
   ·have t:=b5.out wr k (S.Ml.getD k 0+1) j D;have HN:=H.out (b0.out k D);have L:=ah HN;clear K C j Y U hb D HN;generalize S.Ml.getD k 0=y at cr c3 t;go_wp2_with fail
    refine⟨⟨k+1,ω,by go_num,L.out,a4.out.alloc (by have:=a4.out.size;rw[a2.out] at this;exact this) _⟩,by simp[intOf];omega⟩
   ·obtain⟨x,M⟩:=Classical.not_forall.1 D;obtain⟨N,a6⟩:=Classical.not_imp.1 M;have V:=Bool.of_not_eq_false a6;clear a6;obtain⟨f,g,c5⟩:=HT.out x N;have a0:=b2.out k x N V;obtain⟨c,xv⟩:=x;simp only at c5 V a0;subst c5;have t:=R.out wr k (S.Ml.getD k 0+1) _ j N V;simp only at t;have a8:c.a=(k:Int):=(cu.1 V).1;have L:Hid ((Md.aR cut c && ey S.Ml c.c k)=false->∀q,q<k+1->S.M9 cut q=none):=fun e=>H.out (by rw[a0,e];rfl);have a7:Hid ((Md.aR cut c && ey S.Ml c.c k)=true->S.Mh cut=some c):=fun e=>HD.out k c B.out (by rw[a0,e];rfl) X;have b7:Hid (∀a,Below w w a->Calls prog 304 #[pT b 0,aU c (sT f S.n g)] a fun e w''=>e=.returned (.bool (ey S.Ml c.c k))/\Below a a w''):=fun a j=>E.out a c f g k j N a8;have c0:Hid (∀a,Below w w a->Calls prog 273 #[sT cb S.n cc,aU c (sT f S.n g)] a fun e w''=>e=.returned (.bool (Md.aR cut c))/\Below a a w''):=fun a j=>HW.out a c f g k j X a8;have c9:=ah N;have b8:Hid (w.heap.size+1<=wr.heap.size):=by have:=a4.out.size;rw[a2.out] at this;exact this
    clear K C j Y U hb D HW E HT B N V M R b5 HC P a8 a0 H b0 b2 HD a9;generalize S.Ml.getD k 0=y at cr c3 t;generalize ey S.Ml c.c k=sb at L a7 b7;generalize Md.aR cut c=ic at L a7 c0;unfold aU at t b7 c0;go_wp2_with fail
    have b4:Hid (Below (w.heap.size+1) w1 (wr.alloc (.cells #[J c.a,J c.seq,sT f S.n g,.string c.b] 179))):=a4.out.alloc b8.out _;have c2:Hid (af (wr.alloc (.cells #[J c.a,J c.seq,sT f S.n g,.string c.b] 179)) wr.heap.size 179 #[J c.a,J c.seq,sT f S.n g,.string c.b]):=af.d wr wr.heap.size rfl 179 _;have d6:Hid (Below (wr.heap.size+1) (wr.alloc (.cells #[J c.a,J c.seq,sT f S.n g,.string c.b] 179)) (wr.alloc (.cells #[J c.a,J c.seq,sT f S.n g,.string c.b] 179))):=Below.refl _ _;have a1:Hid ((wr.alloc (.cells #[J c.a,J c.seq,sT f S.n g,.string c.b] 179)).heap.size=wr.heap.size+1):=by simp[Hid]
    generalize wr.alloc (.cells #[J c.a,J c.seq,sT f S.n g,.string c.b] 179)=w3 at b4 c2 d6 a1 ⊢;refine(c0.out _ (G.out _ b4.out).1).mono ?_;rintro e w4 ⟨rfl,a3⟩;have b6:Hid (Below (w.heap.size+1) w1 w4):=b4.out.trans (a3.mono (by have:=a1.out;have:=b8.out;omega));have A:Hid (af w4 wr.heap.size 179 #[J c.a,J c.seq,sT f S.n g,.string c.b]):=c2.out.c a3 (by rw[a1.out];omega);have c4:Hid (wr.heap.size+1<=w4.heap.size):=by have:=a3.size;rw[a1.out] at this;exact this
    have d0:=A.out.a 0 _ rfl;have d1:=A.out.a 1 _ rfl;have d2:=A.out.a 2 _ rfl;have d3:=A.out.a 3 _ rfl;simp only[yf,yd,ye] at d0 d1 d2 d3;clear a3;cases ic with
    | false =>
      go_wp2_with fail
      refine⟨⟨k+1,ω,by go_num,L.out ς,b6.out⟩,by simp[intOf];omega⟩
    |true=>
    go_wp2_with fail
    refine(b7.out _ (G.out _ b6.out).1).mono ?_;rintro e w5 ⟨rfl,b3⟩;have b1:Hid (Below (w.heap.size+1) w1 w5):=b6.out.trans (b3.mono (by have:=c4.out;have:=b8.out;omega));have I:Hid (af w5 wr.heap.size 179 #[J c.a,J c.seq,sT f S.n g,.string c.b]):=A.out.c b3 (by have:=c4.out;omega);clear d0 d1 d2 d3;have d0:=I.out.a 0 _ rfl;have d1:=I.out.a 1 _ rfl;have d2:=I.out.a 2 _ rfl;have d3:=I.out.a 3 _ rfl;have d:=ah ((G.out _ b1.out).2);have f0:=d.out.b 0;have f1:=d.out.b 1;have f2:=d.out.b 2;have f3:=d.out.b 3;have z0:=d.out.a 0 _ rfl;have z1:=d.out.a 1 _ rfl;have z2:=d.out.a 2 _ rfl;have z3:=d.out.a 3 _ rfl;simp only[yf,yd,ye] at d0 d1 d2 d3 z0 z1 z2 z3;have c7:=ah ((G.out _ b1.out).1);clear b3;cases sb with
    | false =>
      go_wp2_with fail
      refine⟨⟨k+1,ω,by go_num,L.out ς,b1.out⟩,by simp[intOf];omega⟩
    | true =>
      go_wp2_with fail
      obtain⟨u,W⟩:=ql d.out (J c.a) (J c.seq) (sT f S.n g) (.string c.b);generalize ((((w5.setCell ⟨w.heap.size,0,none⟩ (J c.a)).setCell ⟨w.heap.size,1,none⟩ (J c.seq)).setCell ⟨w.heap.size,2,none⟩ (sT f S.n g)).setCell ⟨w.heap.size,3,none⟩ (.string c.b))=w6 at u W ⊢;have e0:=u.a 0 _ rfl;have T:=u.a 1 _ rfl;have e2:=u.a 2 _ rfl;have e3:=u.a 3 _ rfl;simp only[yf,yd,ye] at e0 T e2 e3
      (try simp only[Exit.inBlock,Exit.then])
      refine bodyPost_ret (v:=.tuple #[.agg #[J c.a,J c.seq,sT f S.n g,.string c.b],.bool true]) (by simp[results,Tryz.results301,go_sem,e0,T,e2,e3]) rfl ?_;exact⟨c7.out.trans (W.c (yb _)),.inr ⟨_,c9.out,a7.out rfl,rfl⟩⟩
  ·have M:k=S.n:=ω;have d9:¬(k:Int)<(S.n:Int):=ω;have HE:=ah (a9.out fun q hq=>B.out q ω);clear K C j Y HC b5 R E HW HT B P HD a9 b0 b2;have f0:=d.out.b 0;have f1:=d.out.b 1;have f2:=d.out.b 2;have f3:=d.out.b 3;have z0:=d.out.a 0 _ rfl;have z1:=d.out.a 1 _ rfl;have z2:=d.out.a 2 _ rfl;have z3:=d.out.a 3 _ rfl;simp only[yf,yd,ye] at z0 z1 z2 z3;go_wp2_with fail
   obtain⟨u,W⟩:=ql d.out (J 0) (J 0) (sN) (.string ⟨#[]⟩);generalize ((((wr.setCell ⟨w.heap.size,0,none⟩ (J 0)).setCell ⟨w.heap.size,1,none⟩ (J 0)).setCell ⟨w.heap.size,2,none⟩ (sN)).setCell ⟨w.heap.size,3,none⟩ (.string ⟨#[]⟩))=w6 at u W ⊢;have e0:=u.a 0 _ rfl;have T:=u.a 1 _ rfl;have e2:=u.a 2 _ rfl;have e3:=u.a 3 _ rfl;simp only[yf,yd,ye] at e0 T e2 e3
   (try simp only[Exit.inBlock,Exit.then])
   refine bodyPost_ret (v:=.tuple #[.agg #[J 0,J 0,sN,.string ⟨#[]⟩],.bool false]) (by simp[results,Tryz.results301,go_sem,e0,T,e2,e3]) rfl ?_;exact⟨d4.out.trans (W.c (yb _)),.inl ⟨HE.out,rfl⟩⟩
variable {wr:World}{T:PS}{oT:Pl}
def PP.z(p:PP w F b S o):mj w b=S.j.length:=p.e.v
structure Dz (w:World) (F:Nat->Prop) (b:Nat) (o:Pl) (S:PS) (cut:List Int) (wr:World) (T:PS) (oT:Pl):Prop where
 a:To w F b o wr T oT
 c:Wf T
 n:T.n=S.n
 k:∃k,k+Md.fI T.Ml=Md.fI S.Ml/\T.j.length=S.j.length+k/\S.Mb cut=PS.Mt (121 - k) T cut
def Dz.step{e:World}{g:Pl}{m:Codec.Msg}(a:Wf S)(d:Dz w F b o S cut wr T oT)(i:T.Mh cut=some m)(h:To w F b o e (T.Ms m 2).M1 g):Dz w F b o S cut e (T.Ms m 2).M1 g:=by
 obtain⟨c,q,j,s,r, -⟩:=Md.dy i;obtain⟨l,t⟩:=d.c.k j s r (d.c.ms m c).a 2;obtain⟨k,x,u,p⟩:=d.k;have f:=Md.py a.g;have v:=a.c;refine⟨h,l.j,d.n,k+1,by show k+1+Md.fI (T.Ms m 2).Ml=_;omega,?_,?_⟩
 ·show (T.j++[_]).length=_;simp only[yC,yx,yD];omega
 ·rw[p,show 121 - k=(121 - (k+1))+1 by omega,PS.Mt,i]
def Dz.d(a:Wf S)(d:Dz w F b o S cut wr T oT)(f:T.Mh cut=none):S.Mb cut=T:=by
 obtain⟨k,g,h,e⟩:=d.k;have c:=Md.py a.g;have i:=a.c;rw[e,show 121 - k=(121 - (k+1))+1 by omega,PS.Mt,f]
def iF(p:PP w F b S o)(z:Wf S)(H cc:Nat)(I:¬o.M b H)(g:∀q,q<S.n->w.cell? (aT H q)=some (J (cut.getD q 0))):Do 287 #[pT b 0,sT H S.n cc] (.tuple #[]) w F b o (S.Mb cut):=by
 have v:=World.block_lt_of_cell? w _ (g S.c z.num);have d0:Hid (∃T f,Dz w F b o S cut w T f):=⟨S,o,To.f p,z,rfl,0,ω,ω,rfl⟩;have H1:Hid (∀wr T f,Dz w F b o S cut wr T f->Calls _ 301 _ wr fun e w''=>Below _ wr w''/\((∃m i j r,(m,Value.slice i j r)∈f.l/\T.Mh cut=some m/\e=.returned (.tuple #[.agg #[J m.a,J m.seq,.slice i j r,.string m.b],.bool true]))\/(T.Mh cut=none/\e=.returned _))):=fun wr T f d=>by
  have:=pK d.a.c d.c (cut:=cut) H cc fun q X=>(World.cell?_of_block (a:=(aT H q)) (d.a.e.block H v I)).trans (g q (by rw[<-d.n];exact X));rw[d.n] at this;refine this.mono ?_;rintro e w'' ⟨C,y⟩;refine⟨C,?_⟩;rcases y with ⟨G,rfl⟩|⟨x,A,G,rfl⟩
  ·exact .inr ⟨G,rfl⟩
  ·obtain⟨i,j,r,hv⟩:=(d.a.c.e.d x A).1.a;exact .inl ⟨x.1,i,j,r,by rw[<-hv];exact A,G,by rw[<-hv];rfl⟩
 have H2:Hid (∀wr w'' T f (m:Codec.Msg) i j r,Dz w F b o S cut wr T f->Below wr wr w''->(m,Value.slice i j r)∈f.l->Calls prog 138 #[pT b 0,.agg #[J m.a,J m.seq,.slice i j r,.string m.b],J 2] w'' fun e E=>e=.returned (.tuple #[])/\∃Q,To w F b o E (T.Ms m 2) Q):=fun wr w'' T f m i j r d C A=>
  (d.a.a (d.a.c.d C)).g (Ej (d.a.c.c C) d.c (d.a.c.p d.c A) ⟨_,_,_,rfl⟩ 2)
 have H3:Hid (∀wr E T f (m:Codec.Msg) Q,Dz w F b o S cut wr T f->T.Mh cut=some m->To w F b o E (T.Ms m 2) Q->Calls prog 140 #[pT b 0] E fun e V=>e=.returned (.tuple #[])/\(∃T' o',Dz w F b o S cut V T' o')/\mj V b=T.j.length+1):=fun wr E T f m Q d W h=>by
  obtain⟨Z,q,X,G,h2, -⟩:=Md.dy W;refine(h.g (rT h.c (d.c.k X G h2 (d.c.ms m Z).a 2).1)).mono ?_;rintro e V ⟨rfl,o4,h4⟩;refine⟨rfl,⟨_,_,d.step z W h4⟩,?_⟩;rw[h4.c.z];show (T.j++[_]).length=_;simp
 have HL:Hid (∀wr T f,Dz w F b o S cut wr T f->mj wr b=T.j.length/\T.j.length<=S.j.length+120):=fun wr T f d=>⟨d.a.c.z,by obtain⟨k,G,h2, -⟩:=d.k;have:=Md.py z.g;have:=z.c;omega⟩;have HE:Hid (∀wr T f,Dz w F b o S cut wr T f->T.Mh cut=none->∀w'',Below wr wr w''->∃o',To w F b o w'' (S.Mb cut) o'):=fun wr T f d W w'' C=>by rw[d.d z W];exact⟨_,d.a.a (d.a.c.d C)⟩
 clear p z g I v;go_enter Tryz.func287,Tryz.ntmps287
 go_wp2_with fail
 go_loopw [] (fun wr=>∃T f,Dz w F b o S cut wr T f) (fun wr=>S.j.length+121 - mj wr b)
 case atStart=>exact d0.out
 case round=>
  obtain⟨T,f,d⟩:=hrel;have D:=ah d;have K:=H1.out _ _ _ d;have u:=HL.out _ _ _ d;clear d;go_wp2_with fail
  refine K.mono ?_;rintro e w2 ⟨L,y⟩;have s:=ah L;clear K L;rcases y with ⟨m,i,j,r,A,t,rfl⟩|⟨U,rfl⟩
  ·have HX:=ah A;have R:=ah t;clear A t;go_wp2_with fail
   have N:Hid (Below wr wr (w2.alloc (.cells #[J m.a,J m.seq,.slice i j r,.string m.b] 179))):=s.out.alloc s.out.size _;have B:=H2.out _ _ _ _ _ _ _ _ D.out N.out HX.out;generalize w2.alloc _=E at N B ⊢;refine B.mono ?_;rintro e V ⟨rfl,Q,h3⟩;have O:=H3.out _ _ _ _ _ _ D.out R.out h3;clear B h3;go_wp2_with fail
   refine O.mono ?_;rintro e w5 ⟨rfl,P,Y⟩;have a1:=ah P;clear O P;go_wp2_with fail
   exact⟨a1.out,by rw[Y,u.1];have:=u.2;omega⟩
  ·have a0:=ah U;clear U;go_wp2_with fail
   (try simp only[Exit.inBlock,Exit.then])
   refine bodyPost_ret (results_none rfl _ _ _) rfl ?_;exact⟨rfl,HE.out _ _ _ D.out a0.out _ (s.out.alloc s.out.size _)⟩
def nh(p:PP w F b S o)(d:Wf S){e:Value}(f:aE w (o.R F b) e cut)(a:cut.length=S.n):Do 287 #[pT b 0,e] (.tuple #[]) w F b o (S.Mb cut):=by
 obtain⟨c,h,rfl, -, -,i⟩:=mE f.d (by rw[a];exact d.n0);have:=iF p d c h (f.c c rfl).2 fun q g=>i q (by rw[a];exact g);rw[a];exact this
def qK(p:PP w F b S o)(i:Wf S):Do 255 #[pT b 0] (.tuple #[]) w F b o S.MG:=by
 have l:Below _ w (w.alloc (.cells #[J 20] 3)):=(Below.refl _ _).alloc (yb _) _;have y:=(p.c l).a.a 1 _ rfl;simp only[yf,yd,ye] at y;have v:=Cn S.n _ 1 i.c i.n0 _ ((af.d w _ rfl 3 #[J 20]).a 0 _ rfl);have f:=ah v;have u:Hid (∀d g m,Below _ w d->w.heap.size<=g->(∀q,q<S.n->d.cell? (aT g q)=some (J 20))->Calls _ 287 _ d fun e d=>e=.returned _/\∃z,To w F b o d S.MG z):=fun d g m t s a=>
  (p.d t).g (iF (p.c t) i g m (fun x=>by have:=p.h x;omega) fun q k=>by rw[a q k];simp[k])
 clear p v i;go_enter Tryz.func255,Tryz.ntmps255
 go_wp2_with fail
 refine f.out.mono ?_;rintro e A ⟨g,s,rfl,j,a⟩;have r:=u.out A g S.n (l.trans (j.mono ς)) (by have:=s;simp at this;omega) a;clear a f u;go_wp2_with fail
 refine r.mono ?_;rintro e B ⟨rfl,c⟩;have h:=ah c;clear r c;go_wp2_with fail
 go_end0
 exact⟨rfl,h.out⟩
def Cb(l:List Codec.Msg):(S.Mc l).n=S.n:=by
 unfold PS.Mc;induction l generalizing S with
 |nil=>rfl
 |cons m l a=>exact(a).trans (Md.DD m)
def tO(l:List Codec.Msg)(m:Codec.Msg):S.Mc (l++[m])=(S.Mc l).MX m:=by simp[PS.Mc]
def lB(p:PP w F b S o)(E:Wf S){l:List Codec.Msg}{L:Value}(A:bI w (o.R F b) L l)(B:∀m∈l,MsgW S.n m)(U:l.length<=1000):Do 257 #[pT b 0,L] (.tuple #[]) w F b o (S.Mc l):=by
 have y:Hid (∀(k:Nat) wr o',k<l.length->To w F b o wr (S.Mc (l.take k)) o'->∃g j m r t u,L=sT g l.length j/\l[k]?=some m/\wr.cell? ⟨g,k * 4,none⟩=some (J m.a)/\wr.cell? ⟨g,k * 4+1,none⟩=some (J m.seq)/\wr.cell? ⟨g,k * 4+2,none⟩=some (.slice r t u)/\wr.cell? ⟨g,k * 4+3,none⟩=some (.string m.b)/\∀q,Below wr wr q->Calls prog 254 #[pT b 0,.agg #[J m.a,J m.seq,.slice r t u,.string m.b]] q fun e Z=>e=.returned (.tuple #[])/\∃o3,To w F b o Z (S.Mc (l.take (k+1))) o3):=fun k wr o' v h=>by
  have K:=A.c h.d;rcases K with ⟨-,e⟩|⟨g,j,f,hg,hR,z⟩
  ·subst e;simp at v
  ·have O:l[k]?=some l[k]:=yh v;obtain⟨tv,X,h1,C,h3,T⟩:=z k _ O;obtain⟨r,t,u,rfl⟩:=T.a;refine⟨g,j,l[k],r,t,u,f,O,X,h1,C,h3,fun q H=>?_⟩;have V:=E.f (l:=l.take k) fun m A=>B m (List.mem_of_mem_take A);have e:S.Mc (l.take (k+1))=(S.Mc (l.take k)).MX l[k]:=by rw[<-tO,List.take_append_getElem v]
   rw[e];have s:=T.f (h.c.d H).d;exact(h.a (h.c.d H)).g (Ak (h.c.c H) V (by rw[Cb];exact B _ (AF v)) s)
 have P:Hid (∃o',To w F b o w (S.Mc (l.take 0)) o'):=⟨o,To.f p⟩;have I:Hid (l.take l.length=l):=AE;rcases A with ⟨⟨r,c,rfl⟩,rfl⟩|⟨g,j,rfl, -, -, -⟩
 ·clear p E B y I;go_enter Tryz.func257,Tryz.ntmps257
  go_wp2_with fail
  go_loopw [8] (fun i wr=>i=J 0/\wr=w) (fun _ _=>0)
  case atStart=>exact⟨rfl,rfl⟩
  case round=>
   obtain⟨rfl,rfl⟩:=hrel;go_wp2_with fail
   go_end0
   exact⟨rfl,P.out⟩
 ·clear p E B;go_enter Tryz.func257,Tryz.ntmps257
  go_wp2_with fail
  go_loopw [8] (fun i wr=>∃k:Nat,k<=l.length/\i=J k/\∃o',To w F b o wr (S.Mc (l.take k)) o') (fun i _=>l.length - (intOf i).toNat)
  case atStart=>exact⟨0,ω,rfl,P.out⟩
  case round=>
   obtain⟨k,v,rfl,o',s⟩:=hrel;by_cases D:k<l.length
   ·have N:k<l.length:=ω;have a0:0<=k:=ω;obtain⟨g',M,m,r,t,u,f, -,c0,c1,c2,c3,z⟩:=y.out k wr o' D s;injection f with f _ hcap;injection f with f;injection f with f;subst f hcap;have Q:=z (wr.alloc (.cells #[J m.a,J m.seq,.slice r t u,.string m.b] 179)) ((Below.refl _ _).alloc (yb _) _);have x:=ah Q;clear z Q s y;go_wp2_with fail
    refine x.out.mono ?_;rintro e w2 ⟨rfl,o2,C⟩;have H2:Hid (∃o',To w F b o w2 (S.Mc (l.take (k+1))) o'):=⟨o2,C⟩;clear C x;go_wp2_with fail
    go_roundw
    case rel=>exact⟨k+1,ω,by go_num,H2.out⟩
    case measure=>simp[intOf];omega
   ·have W:¬(k:Int)<(l.length:Int):=ω;have G:k=l.length:=ω;have Y:Hid (∃o',To w F b o wr (S.Mc l) o'):=⟨o',by rw[G,I.out] at s;exact s⟩;clear s y I;go_wp2_with fail
    go_end0
    exact⟨rfl,Y.out⟩
variable {xs:aL}
def PP.u(p:PP w F b S o)(g:Wf S):S.o.length<=126:=by
 have r:=BG.1 p.e.i;rw[p.ms] at r;have E:=g.c;have k:∀d:List _,(∀m∈d,MsgW S.n m)->Mo.gv d->(d.map fun m=>m.a.toNat * 21+m.seq.toNat).Nodup:=by
  intro d;induction d with
  |nil=>intros;simp
  | cons x d v =>
    intro j i;have c:=K9.1 i;rw[yN,List.nodup_cons];refine⟨fun h=>?_,v (fun m l=>j m (by simp[l])) c.2⟩;obtain⟨y,q,e⟩:=yW.1 h;have a:=j x ς;have f:=j y (by simp[q]);obtain⟨t, -,u⟩:=a.s;obtain⟨G, -,H⟩:=f.s;have B:=a.b;have A:=a.a;have D:=f.b;have C:=f.a;exact c.1 y q ⟨ω,ω⟩
 have a:=k S.o g.ms r;have f:=Mo.mh 126 _ a fun x h=>by
  obtain⟨m,l,rfl⟩:=yW.1 h;have a:=g.ms m l;obtain⟨t,z,u⟩:=a.s;have B:=a.b;have A:=a.a;omega
 simpa using f
def PP.b3(p:PP w F b S o):∀a∈S.o,∀c∈S.o,a.a=c.a->a.seq=c.seq->a=c:=fun a l c j h g=>by
 obtain⟨i,d⟩:=p.a4 l;obtain⟨k,f⟩:=p.a4 j;by_cases e:(a,i)=(c,k)
 ·injection e
 ·exact absurd (cu.2 ⟨h.symm,g.symm⟩) (pC p.e.i d f e)
def vl.a(p:PP w F b S o)(h:vl xs o.l):xs.map Prod.fst=S.Mp:=by
 refine Md.DI (by rw[<-p.ms];exact h.1.map _) (List.pairwise_map.2 (h.2.imp fun {x y} a=>?_)) p.b3;rw[Am,decide_eq_false_iff_not] at a;rw[Md.iC];omega
def fu.r{M a:Nat}{R:Nat->Prop}(h:fu w M xs xs.length)(s:R M)(r:∀x∈xs,aE w R x.2 x.1.c):bI w R (sT M xs.length a) (xs.map Prod.fst):=by
 obtain⟨g,l,t,f⟩:=h;refine .inr ⟨M,a,by rw[yL],(yk.1 l).1,s,fun j m q=>?_⟩;obtain⟨x,d,rfl⟩:∃x,xs[j]?=some x/\x.1=m:=by simpa using q
 have e:=(ym.1 d).1;obtain⟨k,p,n,i⟩:=f j x e d;have c:af w M 179 g:=l;rw[Nat.mul_comm 4 j] at k p n i;exact⟨x.2,c.a _ _ k,c.a _ _ p,c.a _ _ n,c.a _ _ i,r x (yy d)⟩
def gF(p:PP w F b S o)(j:Wf S):Calls prog 166 #[pT b 0] w fun e d=>Below w w d/\∃M a,w.heap.size<=M/\e=.returned (sT M a.length a.length)/\fu d M a a.length/\a.map Prod.fst=S.Mp/\∀x∈a,x∈o.l:=by
 have k:o.l.length<=126:=by have:=p.u j;rw[<-p.ms] at this;simpa using this
 refine(jQ p.e ω).mono ?_;rintro e d ⟨i,M,a,h,f,rfl,c⟩;rw[<-f.1.length_eq] at c ⊢;exact⟨i,M,a,h,rfl,c,f.a p,fun x g=>f.1.mem_iff.1 g⟩
def PP.g(p:PP w F b S o){x:Nat}(a:w.heap.size<=x):o.R F b x:=⟨p.up x a,fun h=>by have:=p.h h;omega⟩
def pR(p:PP w F b S o)(h:Wf S):Calls prog 166 #[pT b 0] w fun e d=>Below w w d/\∃v,e=.returned v/\bI d (o.R F b) v S.Mp:=by
 refine(gF p h).mono ?_;rintro e d ⟨f,M,j,g,rfl,c,a,i⟩;refine⟨f,_,rfl,?_⟩;rw[<-a];exact c.r (p.g g) fun x a=>(p.c f).a3 (i x a)
end
section
open Go.RowKit
open Md (PS Vote Bal Lft Wf MsgW)
variable {w w':World}{xb cb n cc M N:Nat}{cut:List Int}{f:Nat->Option (Codec.Msg × Value)}
structure nC (w:World) (xb cb n cc:Nat) (cut:List Int):Prop where
 c:w.cell? (aT xb 0)=some (sT cb n cc)
 d:∀q,q<n->w.cell? (aT cb q)=some (J (cut.getD q 0))
 g:xb<w
 e:cb<w
def nC.b(h:nC w xb cb n cc cut)(b:w'.heap[xb]?=w.heap[xb]?)(d:w'.heap[cb]?=w.heap[cb]?)(a:w.heap.size<=w'):nC w' xb cb n cc cut:=
 ⟨(World.cell?_of_block b).trans h.c,fun q c=>(World.cell?_of_block d).trans (h.d q c),yg h.g a,yg h.e a⟩
def nC.a(h:nC w xb cb n cc cut)(a:Below w w w'):nC w' xb cb n cc cut:=h.b (a.block _ h.g) (a.block _ h.e) a.size
def sd(h:nC w xb cb n cc cut)(m:Codec.Msg)(g:Option Addr)(c d:Nat)(r:∃s:Nat,s<n/\m.a=s):Calls prog 272 #[aU m (.slice g c d),pT xb 0] w fun e p=>e=.returned (.bool (!Md.aR cut m))/\Below w w p:=by
 obtain⟨s,o,b⟩:=r;have i:Hid (Below w w (w.alloc (.cells #[J m.a,J m.seq,.slice g c d,.string m.b] 179))):=(Below.refl _ _).alloc (yb _) _;have t:=(h.a i.out).c;have l:Hid (Calls prog 273 #[sT cb n cc,.agg #[J m.a,J m.seq,.slice g c d,.string m.b]] (w.alloc (.cells #[J m.a,J m.seq,.slice g c d,.string m.b] 179)) fun e j=>e=.returned (.bool (Md.aR cut m))/\Below w w j):=by
  refine(lE cb n cc m g c d s _ o b ((h.a i.out).d s o)).mono ?_;rintro e q ⟨rfl,a⟩;exact⟨by rw[show decide _=Md.aR cut m by unfold Md.aR;rw[b];rfl],i.out.trans (a.mono ς)⟩
 generalize Md.aR cut m=u at l;clear h b;unfold aU;go_enter Tryz.func272,Tryz.ntmps272
 go_wp2_with fail
 refine l.out.mono ?_;rintro e q ⟨rfl,a⟩;have k:=ah a;clear a l;go_wp2_with fail
 go_ret;exact⟨rfl,k.out⟩
structure In (w:World) (M N:Nat) (at_:Nat->Option (Codec.Msg × Value)):Prop where
 c:∃cur:Array Value,w.heap[M]?=some (.cells cur 179 (0,0))/\cur.size=N * 4/\∀i x,at_ i=some x->i<N->cur[i * 4]?=some (J x.1.a)/\cur[i * 4+1]?=some (J x.1.seq)/\cur[i * 4+2]?=some x.2/\cur[i * 4+3]?=some (.string x.1.b)
def In.b(h:In w M N f){i:Nat}{x:Codec.Msg × Value}(d:f i=some x)(l:i<N):w.cell? ⟨M,i * 4,none⟩=some (J x.1.a)/\w.cell? ⟨M,i * 4+1,none⟩=some (J x.1.seq)/\w.cell? ⟨M,i * 4+2,none⟩=some x.2/\w.cell? ⟨M,i * 4+3,none⟩=some (.string x.1.b):=by
 obtain⟨c,j, -,b⟩:=h.c;obtain⟨g,m,k,e⟩:=b i x d l;have a:af w M 179 c:=j;exact⟨a.a _ _ g,a.a _ _ m,a.a _ _ k,a.a _ _ e⟩
def In.e(h:In w M N f):M<w:=by
 obtain⟨a,b, -⟩:=h.c;exact(yk.1 b).1
def In.a(h:In w M N f)(d:w'.heap[M]?=w.heap[M]?):In w' M N f:=by
 obtain⟨a,e,c,b⟩:=h.c;exact⟨a,d.trans e,c,b⟩
def ED{cap:Nat}(h:nC w xb cb n cc cut)(b:aL)(t:In w M b.length fun i=>b[i]?)(H:∀x∈b,MsgW n x.1)(U:∀x∈b,∃l o p,x.2=.slice l o p)(hl:b.length<=1000) :
 Calls prog 295 #[sT M b.length cap,.func (.func 272) #[] #[pT xb 0]] w fun e F=>Below w w F/\((e=.returned (J (-1))/\∀x∈b,Md.aR cut x.1=true)\/∃k:Nat,e=.returned (J k)/\k<b.length/\(∀x∈b.take k,Md.aR cut x.1=true)/\∀x,b[k]?=some x->Md.aR cut x.1=false):=by
 have eg:=enters_of Tryz.func272 κ rfl;have Q:Hid (∀(k:Nat) wr,k<b.length->Below w w wr->∃m l o p,b[k]?=some (m,.slice l o p)/\wr.cell? ⟨M,k * 4,none⟩=some (J m.a)/\wr.cell? ⟨M,k * 4+1,none⟩=some (J m.seq)/\wr.cell? ⟨M,k * 4+2,none⟩=some (.slice l o p)/\wr.cell? ⟨M,k * 4+3,none⟩=some (.string m.b)/\Calls prog 272 #[.agg #[J m.a,J m.seq,.slice l o p,.string m.b],pT xb 0] wr fun e F=>e=.returned (.bool (!Md.aR cut m))/\Below w w F):=fun k wr A r=>by
  have d:=yh A;have O:=AF A;obtain⟨l,o,p,I⟩:=U _ O;obtain⟨R,T,W,S⟩:=(t.a (r.block _ t.e)).b d A;refine⟨b[k].1,l,o,p,by rw[d,<-I],R,T,by rw[<-I];exact W,S,?_⟩;refine(sd (h.a r) b[k].1 l o p (H _ O).s).mono ?_;rintro e G ⟨rfl,c⟩;exact⟨rfl,r.trans (c.mono r.size)⟩
 have L:Hid (∀(k:Nat) x,b[k]?=some x->Md.aR cut x.1=true->(∀x∈b.take k,Md.aR cut x.1=true)->∀x∈b.take (k+1),Md.aR cut x.1=true):=fun k x d D Z y z=>by
  obtain⟨A,d⟩:=ym.1 d;rw[<-List.take_append_getElem A,yz,yu] at z;rcases z with z|z
  ·exact Z y z
  ·rw[z,d];exact D
 clear h t H U;go_enter Tryz.func295,Tryz.ntmps295
 go_wp2_with fail
 go_loopw [5,8] (fun _ i wr=>∃k:Nat,k<=b.length/\i=J k/\(∀x∈b.take k,Md.aR cut x.1=true)/\Below _ w wr) (fun _ i _=>b.length - (intOf i).toNat)
 case atStart=>exact⟨0,ω,rfl,ς,Below.refl _ _⟩
 case round=>
  obtain⟨k,A,rfl,q,r⟩:=hrel;have g:=ah q;have HB:=ah r;clear q;by_cases B:k<b.length
  ·have K:k<b.length:=ω;have a0:0<=k:=ω;obtain⟨m,l,o,p,d,R,T,W,S,D⟩:=Q.out k wr B r;have s:=ah D;have P:=ah (fun e=>L.out k _ d e g.out);have V:Hid (Md.aR cut m=false->∀x,b[k]?=some x->Md.aR cut x.1=false):=fun e x C=>by rw[d] at C;cases C;exact e
   clear r D Q L d;generalize Md.aR cut m=Y at s P V;cases Y with
   | true =>
     go_wp2_with (go_at_call 272;refine s.out.mono ?_;rintro e G ⟨rfl,c⟩;have u:=ah c;clear c)
     go_roundw
     case rel=>exact⟨k+1,ω,by go_num,P.out trivial,u.out⟩
     case measure=>simp[intOf];omega
   | false =>
     go_wp2_with (go_at_call 272;refine s.out.mono ?_;rintro e G ⟨rfl,c⟩;have u:Hid (Below w w G):=c;clear c)
     go_ret;exact⟨u.out,.inr ⟨k,rfl,B,g.out,V.out trivial⟩⟩
  ·have X:¬(k:Int)<(b.length:Int):=ω;have E:k=b.length:=ω;go_wp2_with fail
   go_ret;exact⟨HB.out,.inl ⟨rfl,fun a v d=>g.out (a,v) (by rw[E,AE];exact d)⟩⟩
def BO(w:World)(M o m c:Nat)(s:m≠0){a:Array Value}(p:w.heap[M]?=some (.cells a 179 (0,0)))(y:o+m * 4<=a.size) :
 ∃l,(Builtin.clear_ #[163] 0 #[.slice (some ⟨M,o,none⟩) m c]).run prog w=.ok (.tuple #[]) l/\w.grownBy l (some M)/\∃b:Array Value,l.heap[M]?=some (.cells b 179 (0,0))/\b.size=a.size/\∀i,i<o->b[i]?=a[i]?:=by
 have r:=Tryz.zeroValue179 w;have d:(Builtin.zeroCells (Value.agg #[J 0,J 0,sN,.string ⟨#[]⟩]).cells m).toList.length=m * 4:=by rw[AG,size_zeroCells];rfl
 have g:∀v∈(Builtin.zeroCells (Value.agg #[J 0,J 0,sN,.string ⟨#[]⟩]).cells m).toList,v.oneCell'=true:=by
  intro v n;simp only[Builtin.zeroCells,yV,yW] at n;obtain⟨i, -,rfl⟩:=n;have:i % (Value.agg #[J 0,J 0,sN,.string ⟨#[]⟩]).cells.size<4:=Nat.mod_lt _ θ;generalize i % (Value.agg _).cells.size=j at this;match j,this with
  |0,_=>rfl
  |1,_=>rfl
  |2,_=>rfl
  |3,_=>rfl
 have f:=run_storeCells_at prog M o 179 _ 0 a w p (by rw[d];omega) g;generalize k:(Builtin.zeroCells _ m).toList=t at f d;generalize q:(a.toList.take (o+0)++t++a.toList.drop _).toArray=R at f;refine⟨w.setRow M R,?_,⟨rfl,rfl,rfl,by simp[World.setRow],fun x _ h=>setRow_other _ _ _ _ (fun e=>h (by rw[e]))⟩,R,setRow_heap w M _ _ 179 _ p,?_,fun i u=>?_⟩
 ·cases m with
  |zero=>exact absurd rfl s
  | succ m =>
    simp only[Builtin.clear_,ya7,AH,Sem.run_bind,run_underlying Tryz.underlying163,Result.andThen,r,k,f,Sem.run_pure]
 ·rw[<-q];simp only[yJ,yC,xk,I5,d,AG];omega
 ·rw[<-q,ya7,I3,y7 (by simp;omega),List.getElem?_take,if_pos ω,Array.getElem?_toList]
def In.put{w l:World}{M N i:Nat}{f:Nat->Option (Codec.Msg × Value)}(h:In w M N f)(x:Codec.Msg × Value)(o:l=(((w.setCell ⟨M,i * 4,none⟩ (J x.1.a)).setCell ⟨M,i * 4+1,none⟩ (J x.1.seq)).setCell ⟨M,i * 4+2,none⟩ x.2).setCell ⟨M,i * 4+3,none⟩ (.string x.1.b)):In l M N fun a=>if a=i then some x else f a:=by
 obtain⟨c,v,m,k⟩:=h.c;have r:af w M 179 c:=v;have g:=(((r.e (i * 4) (J x.1.a)).e (i * 4+1) (J x.1.seq)).e (i * 4+2) x.2).e (i * 4+3) (.string x.1.b);rw[<-o] at g;refine⟨_,g,by simpa using m,fun a y j z=>?_⟩;by_cases e:a=i
 ·subst e;rw[if_pos rfl] at j;cases j;simp only[LK,Array.size_setIfInBounds];refine⟨?_,?_,?_,?_⟩ <;> simp (config:={ decide:=true }) [m] <;> omega
 ·rw[if_neg e] at j;obtain⟨u,s,A,t⟩:=k a y j z;have n:∀p q,p<4->q<4->i * 4+p≠a * 4+q:=fun p q B d=>ω;have b:∀q,q<4->((((c.setIfInBounds (i * 4) (J x.1.a)).setIfInBounds (i * 4+1) (J x.1.seq)).setIfInBounds (i * 4+2) x.2).setIfInBounds (i * 4+3) (.string x.1.b))[a * 4+q]?=c[a * 4+q]?:=fun q d=>by
   rw[yP (n 3 q θ d),yP (n 2 q θ d),yP (n 1 q θ d),yP (by have:=n 0 q θ d;simpa using this)]
  exact⟨(b 0 θ).trans u,(b 1 θ).trans s,(b 2 θ).trans A,(b 3 θ).trans t⟩
def In.d{w:World}{M N:Nat}{f g:Nat->Option (Codec.Msg × Value)}(h:In w M N f)(k:∀a x,a<N->g a=some x->f a=some x):In w M N g:=by
 obtain⟨c,j,i,b⟩:=h.c;exact⟨c,j,i,fun a x e d=>b a x (k a x d e) d⟩
variable {xs:aL}{j:Nat}{x:Codec.Msg × Value}
def bq(cut:List Int)(xs:aL)(j:Nat):aL:=(xs.take j).filter fun x=>Md.aR cut x.1
def rV(a:List Int)(b:aL)(j:Nat):(bq a b j).length<=j:=yr (G3 _ _) (by simp;omega)
def ff(a:xs[j]?=some x):bq cut xs (j+1)=if Md.aR cut x.1 then bq cut xs j++[x] else bq cut xs j:=by
 obtain⟨b,rfl⟩:=ym.1 a;unfold bq;rw[<-List.take_append_getElem b,La];cases h:Md.aR cut xs[j].1 <;> simp[h]
def fh(cut:List Int)(xs:aL)(j a:Nat):Option (Codec.Msg × Value):=if a<(bq cut xs j).length then (bq cut xs j)[a]? else if j<=a then xs[a]? else none
def EN(d:xs[j]?=some x)(e:Md.aR cut x.1=false)(a:Nat)(y:Codec.Msg × Value)(h:fh cut xs (j+1) a=some y):fh cut xs j a=some y:=by
 unfold fh at h ⊢;rw[ff d,e] at h;simp only[yH,if_false] at h;split
 ·rename_i b;rw[if_pos b] at h;exact h
 ·rename_i b
  rw[if_neg b] at h;by_cases c:j+1<=a
  ·rw[if_pos c] at h;rw[if_pos ω];exact h
  ·rw[if_neg c] at h;cases h
def Gs(d:xs[j]?=some x)(g:Md.aR cut x.1=true)(a:Nat)(y:Codec.Msg × Value)(h:fh cut xs (j+1) a=some y):(if a=(bq cut xs j).length then some x else fh cut xs j a)=some y:=by
 unfold fh at h ⊢;rw[ff d,g] at h;simp only[if_true,yC,yx,yD] at h;have f:=rV cut xs j;by_cases e:a=(bq cut xs j).length
 ·subst e;rw[if_pos rfl];rw[if_pos ω,Fl (yb _)] at h;simpa using h
 ·rw[if_neg e];by_cases b:a<(bq cut xs j).length
  ·rw[if_pos b];rw[if_pos ω,y7 b] at h;exact h
  ·rw[if_neg b];rw[if_neg ω] at h;by_cases c:j+1<=a
   ·rw[if_pos c] at h;rw[if_pos ω];exact h
   ·rw[if_neg c] at h;cases h
def vH{w:World}{xb cb n cc M:Nat}(h:nC w xb cb n cc cut)(b4:xb≠M)(c5:cb≠M)(xs:aL)(N:In w M xs.length fun i=>xs[i]?)(hW:∀x∈xs,MsgW n x.1)(hT:∀x∈xs,∃s t u,x.2=.slice s t u)(hl:xs.length<=1000) :
 Calls prog 271 #[sT M xs.length xs.length,.func (.func 272) #[] #[pT xb 0]] w fun e p=>e=.returned (sT M (xs.filter fun x=>Md.aR cut x.1).length xs.length)/\w.grownBy p (some M)/\In p M xs.length fun i=>(xs.filter fun x=>Md.aR cut x.1)[i]?:=by
 have eg:=enters_of Tryz.func272 κ rfl;have a1:=N.e;have HI:=ED (cap:=xs.length) h xs N hW hT hl;have a5:=ah HI;have K:Hid (∀p,Below w w p->(∀x∈xs,Md.aR cut x.1=true)->xs.filter (fun x=>Md.aR cut x.1)=xs/\w.grownBy p (some M)/\In p M xs.length fun i=>(xs.filter fun x=>Md.aR cut x.1)[i]?):=fun p v Y=>by
  have e:=List.filter_eq_self.2 Y;rw[e];exact⟨rfl,⟨v.os,v.tape,v.output,v.size,fun k A _=>v.block k A⟩,N.a (v.block M a1)⟩
 have a2:Hid (∀p (k:Nat),Below w w p->k<xs.length->(∀x∈xs.take k,Md.aR cut x.1=true)->(∀x,xs[k]?=some x->Md.aR cut x.1=false)->k=(bq cut xs (k+1)).length/\w.grownBy p (some M)/\In p M xs.length (fh cut xs (k+1))/\(bq cut xs xs.length).length<xs.length):=fun p k v A Y hf=>by
  have G:xs[k]?=some xs[k]:=yh A;have e0:bq cut xs k=xs.take k:=List.filter_eq_self.2 Y;have e1:bq cut xs (k+1)=xs.take k:=by rw[ff G,hf _ G,e0];rfl
  refine⟨by rw[e1,xk];omega,⟨v.os,v.tape,v.output,v.size,fun k A _=>v.block k A⟩,(N.a (v.block M a1)).d fun a y d7 F=>?_,?_⟩
  ·unfold fh at F;rw[e1] at F;split at F
   ·rename_i h1
    rw[List.getElem?_take,if_pos (by rw[xk] at h1;omega)] at F;exact F
   ·split at F
    ·exact F
    ·cases F
  ·unfold bq;rw[AE];refine Nat.lt_of_le_of_ne (G3 _ _) fun e=>?_;have:=List.length_filter_eq_length_iff.1 e xs[k] (AF A);rw[hf _ G] at this;cases this
 have HC:Hid (∀(j:Nat) wr,j<xs.length->w.grownBy wr (some M)->In wr M xs.length (fh cut xs j)->∃m s t u,xs[j]?=some (m,.slice s t u)/\wr.cell? ⟨M,j * 4,none⟩=some (J m.a)/\wr.cell? ⟨M,j * 4+1,none⟩=some (J m.seq)/\wr.cell? ⟨M,j * 4+2,none⟩=some (.slice s t u)/\wr.cell? ⟨M,j * 4+3,none⟩=some (.string m.b)/\∀p,Below wr wr p->Calls prog 272 #[.agg #[J m.a,J m.seq,.slice s t u,.string m.b],pT xb 0] p fun e c4=>e=.returned (.bool (!Md.aR cut m))/\Below p p c4):=fun j wr hj O hmid=>by
  have G:xs[j]?=some xs[j]:=yh hj;have hm:=AF hj;obtain⟨s,t,u,hv⟩:=hT _ hm;have c9:=rV cut xs j;have P:fh cut xs j j=some xs[j]:=by unfold fh;rw[if_neg ω,if_pos (yb _)];exact G
  obtain⟨c0,c1,c2,c3⟩:=hmid.b P hj;refine⟨xs[j].1,s,t,u,by rw[G,<-hv],c0,c1,by rw[<-hv];exact c2,c3,fun p v=>?_⟩;have a9:=(h.b (O.block xb h.g fun e=>b4 (by injection e)) (O.block cb h.e fun e=>c5 (by injection e)) O.size).a v;exact sd a9 xs[j].1 s t u (hW _ hm).s
 have a6:Hid (∀wr,w.grownBy wr (some M)->In wr M xs.length (fh cut xs xs.length)->(bq cut xs xs.length).length<xs.length->∃H,(Builtin.clear_ #[163] 0 #[.slice (some ⟨M,(bq cut xs xs.length).length * 4,none⟩) (xs.length - (bq cut xs xs.length).length) (xs.length - (bq cut xs xs.length).length)]).run prog wr=.ok (.tuple #[]) H/\w.grownBy H (some M)/\In H M xs.length fun i=>(bq cut xs xs.length)[i]?):=fun wr O hmid T=>by
  obtain⟨Q,hc,hs,P⟩:=hmid.c;obtain⟨H,hr,S,a8,c6,c7,W⟩:=BO wr M ((bq cut xs xs.length).length * 4) (xs.length - (bq cut xs xs.length).length) (xs.length - (bq cut xs xs.length).length) ω hc (by rw[hs];omega);refine⟨H,hr,O.trans S,a8,c6,by rw[c7,hs],fun i x G hi=>?_⟩;have b9:=(ym.1 G).1;obtain⟨h0,h1,h2,h3⟩:=P i x (by unfold fh;rw[if_pos b9];exact G) hi;exact⟨(W _ ω).trans h0,(W _ ω).trans h1,(W _ ω).trans h2,(W _ ω).trans h3⟩
 have D:Hid (∀wr (i:Nat) f,In wr M xs.length f->i<xs.length->∀q,wr.frozen? ⟨M,i * 4+q,none⟩=false):=fun wr i f hmid hi q=>by
  obtain⟨Q,hc,hs,P⟩:=hmid.c;exact frozen_of_row wr M (i * 4+q) Q 179 hc
 have X:Hid (∀wr (i:Nat) f,In wr M xs.length f->i<xs.length->∀q,q<4->∃c,wr.cell? ⟨M,i * 4+q,none⟩=some c):=fun wr i f hmid hi q hq=>by
  obtain⟨Q,hc,hs,P⟩:=hmid.c;have hB:af wr M 179 Q:=hc;have T:i * 4+q<Q.size:=by rw[hs];omega
  exact⟨_,hB.a _ _ (yl T)⟩
 have b0:Hid (bq cut xs xs.length=xs.filter fun x=>Md.aR cut x.1):=by unfold Hid bq;rw[AE]
 clear h N hW hT HI;go_enter Tryz.func271,Tryz.ntmps271
 go_wp2_with fail
 refine a5.out.mono ?_;rintro e H ⟨U,b2⟩;rcases b2 with ⟨rfl,Y⟩|⟨k,rfl,A,Y,hf⟩
 ·obtain⟨e1,e2,e3⟩:=K.out H U Y;have HE:Hid (xs.filter (fun x=>Md.aR cut x.1)=xs/\w.grownBy H (some M)/\In H M xs.length fun i=>(xs.filter fun x=>Md.aR cut x.1)[i]?):=⟨e1,e2,e3⟩;clear Y e1 e2 e3 K a2 HC a6 D a5 U;go_wp2_with fail
  go_ret;exact⟨by rw[HE.out.1];rfl,HE.out.2⟩
 ·obtain⟨e1,e2,e3,e4⟩:=a2.out H k U A Y hf;have HK:=ah e4;have H0:Hid (k=(bq cut xs (k+1)).length/\w.grownBy H (some M)/\In H M xs.length (fh cut xs (k+1))):=⟨e1,e2,e3⟩;have e8:((k:Int) == -1)=false:=by rw[beq_eq_false_iff_ne];omega
  clear Y hf e1 e2 e3 e4 a2 K a5 U;go_wp2_with fail
  go_loopw [5,6] (fun ui uj wr=>∃i j:Nat,ui=J i/\uj=J j/\j<=xs.length/\i=(bq cut xs j).length/\i<=j/\w.grownBy wr (some M)/\In wr M _ (fh cut xs j)) (fun _ uj _=>xs.length - (intOf uj).toNat)
  case atStart=>exact⟨k,k+1,rfl,by go_num,ω,H0.out.1,ω,H0.out.2⟩
  case round=>
   obtain⟨i,j,rfl,rfl,hj,hi,e7,O,hmid⟩:=hrel;have B:=ah hi;have HG:=ah O;have HM:=ah hmid;clear hi;by_cases T:j<xs.length
   ·have c8:(j:Int)<(xs.length:Int):=ω;have d6:(0:Int)<=(j:Int):=ω;have b8:(0:Int)<=(i:Int):=ω;have b7:(i:Int)<(xs.length:Int):=ω;obtain⟨m,s,t,u,G,c0,c1,c2,c3,hc⟩:=HC.out j wr T O hmid;have a4:Below wr wr (wr.alloc (.cells #[J m.a,J m.seq,.slice s t u,.string m.b] 179)):=(Below.refl _ _).alloc (yb _) _;have r:Hid (Calls prog 272 _ _ _):=hc _ a4;have HX:=ah G;have a3:Hid (af (wr.alloc (.cells #[J m.a,J m.seq,.slice s t u,.string m.b] 179)) wr.heap.size 179 #[J m.a,J m.seq,.slice s t u,.string m.b]):=af.d wr wr.heap.size rfl 179 _;have L:Hid ((wr.alloc (.cells #[J m.a,J m.seq,.slice s t u,.string m.b] 179)).heap.size=wr.heap.size+1):=by simp[Hid]
    have V:=ah a4;clear hc G O hmid HC a4;cases C:Md.aR cut m with
    | false =>
      rw[C] at r;go_wp2_with fail
      generalize wr.alloc (.cells #[J m.a,J m.seq,.slice s t u,.string m.b] 179)=w3 at r a3 L V ⊢;refine r.out.mono ?_;rintro e z ⟨rfl,E⟩;have l:Hid (Below wr wr z):=V.out.trans (E.mono (by rw[L.out];omega));clear E r;have HR:Hid (i=(bq cut xs (j+1)).length/\w.grownBy z (some M)/\In z M xs.length (fh cut xs (j+1))):=by
       refine⟨by rw[ff HX.out,C];exact B.out,HG.out.trans ⟨l.out.os,l.out.tape,l.out.output,l.out.size,fun k A _=>l.out.block k A⟩,(HM.out.a (l.out.block M HM.out.e)).d fun a y _ F=>EN HX.out C a y F⟩
      go_wp2_with fail
      exact⟨⟨i,j+1,rfl,by go_num,ω,HR.out.1,ω,HR.out.2⟩,by simp[intOf];omega⟩
    | true =>
      rw[C] at r;go_wp2_with fail
      generalize wr.alloc (.cells #[J m.a,J m.seq,.slice s t u,.string m.b] 179)=w3 at r a3 L V ⊢;refine r.out.mono ?_;rintro e z ⟨rfl,E⟩;have l:Hid (Below wr wr z):=V.out.trans (E.mono (by rw[L.out];omega));have I:=a3.out.c E (by rw[L.out];omega);have d0:=I.a 0 _ rfl;have d1:=I.a 1 _ rfl;have d2:=I.a 2 _ rfl;have d3:=I.a 3 _ rfl;simp only[yf,yd,ye] at d0 d1 d2 d3;have o:=ah (HM.out.a (l.out.block M HM.out.e));have f0:=D.out z i _ o.out ω 0;have f1:=D.out z i _ o.out ω 1;have f2:=D.out z i _ o.out ω 2;have f3:=D.out z i _ o.out ω 3;simp only[GV] at f0;obtain⟨g0,b5⟩:=X.out z i _ o.out ω 0 θ;obtain⟨g1,d9⟩:=X.out z i _ o.out ω 1 θ;obtain⟨g2,S⟩:=X.out z i _ o.out ω 2 θ;obtain⟨g3,e6⟩:=X.out z i _ o.out ω 3 θ;simp only[GV] at b5;have R:=ah (HG.out.trans ⟨l.out.os,l.out.tape,l.out.output,l.out.size,fun k A _=>l.out.block k A⟩);have HR:Hid (∀w5,w5=(((z.setCell ⟨M,i * 4,none⟩ (J m.a)).setCell ⟨M,i * 4+1,none⟩ (J m.seq)).setCell ⟨M,i * 4+2,none⟩ (.slice s t u)).setCell ⟨M,i * 4+3,none⟩ (.string m.b)->i+1=(bq cut xs (j+1)).length/\w.grownBy w5 (some M)/\In w5 M xs.length (fh cut xs (j+1))):=fun w5 e5=>by
       refine⟨by rw[ff HX.out,C];simp[B.out],?_,(o.out.put (m,.slice s t u) e5).d fun a y _ F=>?_⟩
       ·rw[e5];exact⟨R.out.os,R.out.tape,R.out.output,by simpa using R.out.size,fun k A a7=>by
         have Z:k≠M:=fun e=>a7 (by rw[e]);rw[Below.heap_setCell _ _ _ _ Z,Below.heap_setCell _ _ _ _ Z,Below.heap_setCell _ _ _ _ Z,Below.heap_setCell _ _ _ _ Z];exact R.out.block k A a7⟩
       ·have:=Gs HX.out C a y F;rw[B.out];exact this
      clear E r I;go_wp2_with fail
      obtain⟨r1,r2,r3⟩:=HR.out _ rfl;exact⟨⟨i+1,j+1,by go_num,by go_num,ω,r1,ω,r2,r3⟩,by simp[intOf];omega⟩
   ·have d4:¬(j:Int)<(xs.length:Int):=ω;have b3:j=xs.length:=ω;subst b3;obtain⟨b1,b6,S,a0⟩:=a6.out wr O hmid HK.out;have HR:Hid (w.grownBy b1 (some M)/\In b1 M xs.length fun i=>(bq cut xs xs.length)[i]?):=⟨S,a0⟩;rw[<-B.out] at b6;have b8:(0:Int)<=(i:Int):=ω;have b7:(i:Int)<=(xs.length:Int):=ω;have d5:¬xs.length=i:=by have:=HK.out;have:=B.out;omega
    have d8:i<=xs.length:=ω;clear O hmid S a0 HC a6 D HG HM;go_wp2_with fail
    go_ret;obtain⟨r1,r2⟩:=HR.out;rw[b0.out] at r2;have e:=B.out;rw[b0.out] at e;rw[<-e];exact⟨rfl,r1,r2⟩
variable {F:Nat->Prop}{b:Nat}{S:PS}{o:Pl}
def fu.in(h:fu w M xs xs.length):In w M xs.length fun i=>xs[i]?:=by
 obtain⟨c,g,f,a⟩:=h;refine⟨c,g,by rw[f,Nat.mul_comm],fun i x d e=>?_⟩;have:=a i x e d;rw[Nat.mul_comm 4 i] at this;exact this
def In.r{N a:Nat}{R:Nat->Prop}(h:In w M N fun i=>xs[i]?)(q:xs.length<=N)(n:R M)(k:∀x∈xs,aE w R x.2 x.1.c):bI w R (sT M xs.length a) (xs.map Prod.fst):=by
 refine .inr ⟨M,a,by rw[yL],h.e,n,fun j m g=>?_⟩;obtain⟨x,c,rfl⟩:∃x,xs[j]?=some x/\x.1=m:=by simpa using g
 have e:=(ym.1 c).1;obtain⟨f,p,l,d⟩:=h.b c ω;exact⟨x.2,f,p,l,d,k x (yy c)⟩
def lA(p:PP w F b S o)(z:Wf S){a:List Int}{O:Value}(t:aE w (o.R F b) O a)(D:a.length=S.n):Calls prog 240 #[pT b 0,O] w fun e u=>Below w w u/\∃v,e=.returned v/\bI u (o.R F b) v (S.Mm a):=by
 obtain⟨K,E,rfl, -,s,P⟩:=mE t.d (by rw[D];exact z.n0);rw[D];have C:Below _ w (w.alloc (.cells #[sT K S.n E] 69)):=(Below.refl _ _).alloc (yb _) _;have c:(w.alloc (.cells #[sT K S.n E] 69)).heap.size=w.heap.size+1:=ς;have L:=ah (gF (p.c C) z);have j:nC _ _ K S.n E a:=⟨(af.d w _ rfl 69 _).a 0 _ rfl,fun q V=>(C.cell s).trans (P q (by rw[D];exact V)),by rw[c];omega,by rw[c];omega⟩;have I:Hid (∀m M i,Below _ _ m->w.heap.size+1<=M->fu m M i _->i.map Prod.fst=S.Mp->(∀x∈i,x∈o.l)->Calls _ 271 _ m fun e u=>Below _ w u/\∃v,e=.returned v/\bI u _ v (S.Mm a)):=fun m M i N G h g d=>by
  have T:i.length<=126:=by
   have X:=p.u z;have W:=congrArg List.length g;rw[yL,Md.ll] at W;omega
  refine(vH (j.a N) ω ω i h.in (fun x g=>p.p z (d x g)) (fun x g=>(p.e.d x (d x g)).1.a) ω).mono ?_;rintro e H ⟨rfl,B,A⟩;have f:=(C.trans (N.mono (by rw[c];omega))).trans ⟨B.os,B.tape,B.output,B.size,fun k Y=>B.block k (by have:=N.size;rw[c] at this;omega) fun e=>by injection e with e;omega⟩;refine⟨f,_,rfl,?_⟩;have e:S.Mm a=(i.filter fun x=>Md.aR a x.1).map Prod.fst:=by rw[cL,g];rfl
  rw[e];exact A.r (G3 _ _) (p.g ω) fun x g=>(p.c f).a3 (d x (yM.1 g).1)
 clear p z t D P j s;go_enter Tryz.func240,Tryz.ntmps240
 go_wp2_with fail
 generalize w.alloc _=Z at L I c C ⊢;refine L.out.mono ?_;rintro e m ⟨y,M,i,G,rfl,h,g,d⟩;have Q:=I.out m M i y (by rw[<-c];exact G) h g d;clear L I y G h g d;go_wp2_with fail
 refine Q.mono ?_;rintro e H ⟨f,v,rfl,t⟩;have U:Hid (Below w w H/\bI H (o.R F b) v (S.Mm a)):=⟨f,t⟩;clear Q f t;go_wp2_with fail
 go_ret;exact⟨U.out.1,_,rfl,U.out.2⟩
open Md (Sends)
def rX(S:PS)(q:Nat)(T:PS)(m:Codec.Msg):PS:=if S.Nl q m then T.MN q m else T
def eD(S:PS)(q k:Nat):PS:=(S.Mp.take k).foldl (rX S q) S
def vZ(S:PS)(q k:Nat):Sends S (eD S q k) k:=by
 have h:=Md.bK (rX S q) 1 (fun T m=>by
  unfold rX;split
  ·exact Md.ak T _
  ·exact(Sends.f T).c ω) (S.Mp.take k) S
 exact h.c (by rw[xk];omega)
def qb{q k:Nat}{m:Codec.Msg}(c:S.Mp[k]?=some m):eD S q (k+1)=rX S q (eD S q k) m:=by
 obtain⟨a,rfl⟩:=ym.1 c;unfold eD;rw[<-List.take_append_getElem a,List.foldl_append];rfl
def Cf(q:Nat):eD S q S.Mp.length=S.Mz q:=by unfold eD;rw[AE];rfl
def qj(p:PP w F b S o)(U:Wf S)(hs:S.e.length<=900000)(q:Nat)(hq:q<S.n):Do 112 #[pT b 0,J q] (.tuple #[]) w F b o (S.Mz q):=by
 have b5:=ah (gF p U);have c9:S.Mp.length<=126:=by rw[Md.ll];exact p.u U
 have u:Hid (∀g M xs,Below w w g->w.heap.size<=M->fu g M xs xs.length->xs.map Prod.fst=S.Mp->(∀x∈xs,x∈o.l)->xs.length=S.Mp.length/\(∃o',To g F b o g (eD S q 0) o')/\(∀wr o',To g F b o wr (eD S q S.Mp.length) o'->∃o',To w F b o wr (S.Mz q) o')/\∀(k:Nat) wr o',k<xs.length->To g F b o wr (eD S q k) o'->∃(m:Codec.Msg) (B:Option Addr) (C D s r kb:Nat),m.a=s/\s<S.n/\(wr.cell? (aT b 14)=some (sT kb S.n S.n)/\wr.cell? (aT kb q)=some (sT r S.n S.n)/\wr.cell? (aT r s)=some (J ((S.q.getD q []).getD s 0))/\b<wr/\kb<wr/\r<wr)/\(wr.cell? ⟨M,k * 4,none⟩=some (J m.a)/\wr.cell? ⟨M,k * 4+1,none⟩=some (J m.seq)/\wr.cell? ⟨M,k * 4+2,none⟩=some (.slice B C D)/\wr.cell? ⟨M,k * 4+3,none⟩=some (.string m.b))/\(¬(S.q.getD q []).getD s 0<m.seq->∀I,Below wr wr I->∃Q,To g F b o I (eD S q (k+1)) Q)/\((S.q.getD q []).getD s 0<m.seq->∀I,Below wr wr I->Calls prog 141 #[pT b 0,J q,.agg #[J m.a,J m.seq,.slice B C D,.string m.b]] I fun e w3=>e=.returned (.tuple #[])/\∃Q,To g F b o w3 (eD S q (k+1)) Q)):=fun g M xs a7 hM a1 hx E=>by
  have p1:=p.c a7;refine⟨by rw[<-hx,yL],⟨o,To.f p1⟩,fun wr o' h=>⟨o',(p.d a7).a (by rw[Cf] at h;exact h)⟩,fun k wr o' hk h=>?_⟩;have a5:=yh hk;have a4:S.Mp[k]?=some xs[k].1:=by rw[<-hx,yZ,a5];rfl
  have P:=E _ (AF hk);obtain⟨B,C,D,hv⟩:=(p.e.d _ P).1.a;obtain⟨s,b0,t⟩:=(p.p U P).s;have G:=vZ S q k;have b9:(eD S q k).q=S.q:=by rw[G.e]
  have hn:(eD S q k).n=S.n:=by rw[G.e]
  have y:=h.c.e;rw[b9] at y;obtain⟨r,hr,b3,T,a2⟩:=y.m (q:=q) (by show q<(eD S q k).n;rw[hn];exact hq);have a8:In wr M xs.length fun i=>xs[i]?:=a1.in.a (h.e.block M a1.in.e fun e=>by have:=p.h e;omega);obtain⟨c0,c1,c2,c3⟩:=a8.b a5 hk;have b4:S.Nl q xs[k].1=decide ((S.q.getD q []).getD s 0<xs[k].1.seq):=by unfold PS.Nl;rw[t];rfl
  refine⟨xs[k].1,B,C,D,s,r,o'.kb,t,b0,⟨?_,?_,b3.a s _ (ie (by rw[T];show s<(eD S q k).n;rw[hn];exact b0)),y.a.f,y.e.h.1,b3.f⟩,⟨c0,c1,by rw[<-hv];exact c2,c3⟩,fun b8 I j=>?_,fun a3 I j=>?_⟩
  ·have:=y.a.a 14 _ rfl;rw[show (o'.q (eD S q k)).n=S.n from hn] at this;exact this
  ·rw[show (o'.q (eD S q k)).n=S.n from hn] at a2;exact a2
  ·rw[qb a4];unfold rX;rw[b4,decide_eq_false b8];exact⟨_,h.a (h.c.d j)⟩
  ·rw[qb a4];unfold rX;rw[b4,decide_eq_true a3];simp only[if_true];have c6:aE I (o'.R F b) (.slice B C D) xs[k].1.c:=by
    have b6:=((p1.a3 P).f (h.a (h.c.d j)).d);rw[hv] at b6;exact b6
   exact(h.a (h.c.d j)).g (nU (h.c.c j) (G.d U) (by have:=G.b;rw[<-yL (f:=Prod.fst),hx] at hk;omega) q xs[k].1 (aX c6.d))
 have d7:=U.c;have e1:0<=q:=ω;have d9:q<S.n:=ω;clear p U hs;go_enter Tryz.func112,Tryz.ntmps112
 go_wp2_with fail
 refine b5.out.mono ?_;rintro e g ⟨b2,M,xs,hM,rfl,a9,X,E⟩;obtain⟨hL,h0,hE,a0⟩:=u.out g M xs b2 hM a9 X E;have H0:=ah h0;have HE:=ah hE;have HS:=a0;have N:=ah HS;have c7:=hL;clear b2 hM a9 X E h0 hE a0 HS u b5 hL;go_wp2_with fail
 go_loopw [9] (fun i wr=>∃k:Nat,k<=xs.length/\i=J k/\∃o',To g F b o wr (eD S q k) o') (fun i _=>xs.length - (intOf i).toNat)
 case atStart=>exact⟨0,ω,rfl,H0.out⟩
 case round=>
  obtain⟨k,hk,rfl,o',ht⟩:=hrel;by_cases b7:k<xs.length
  ·obtain⟨⟨ms,W,mt,mx⟩,B,C,D,s,r,kb,t,hs,⟨a6,ck,cr,c5,V,T⟩,⟨m0,m1,m2,m3⟩,K,A⟩:=N.out k wr o' b7 ht;simp only at t m0 m1 m2 m3 K A;subst t;have O:=ah (fun h=>K ω);have v:=ah A;have d4:k<xs.length:=ω;have d6:0<=k:=ω;have d8:0<=s:=ω;have e0:s<(S.n:Int):=ω;have f:Hid (Below wr wr (wr.alloc (.cells #[J s,J W,.slice B C D,.string mx] 179))):=(Below.refl _ _).alloc (yb _) _;have Y:=af.d wr wr.heap.size rfl 179 #[J s,J W,.slice B C D,.string mx];have d0:=Y.a 0 _ rfl;have d1:=Y.a 1 _ rfl;have d2:=Y.a 2 _ rfl;have d3:=Y.a 3 _ rfl;simp only[yf,yd,ye] at d0 d1 d2 d3;have H:=(f.out.cell (p:=(aT b 14)) c5).trans a6;have Z:=(f.out.cell (p:=(aT kb q)) V).trans ck;have L:=(f.out.cell (p:=(aT r s)) T).trans cr;clear Y K A N a6 ck cr ht;generalize (S.q.getD q []).getD s 0=z at L O v;by_cases hz:z<W
   ·go_wp2_with fail
    generalize wr.alloc (.cells #[J s,J W,.slice B C D,.string mx] 179)=w5 at f d0 d1 d2 d3 H Z L ⊢;go_quiet (fail)
    go_wp2_with fail
    refine(v.out hz _ (below_drewN f.out _)).mono ?_;rintro e w6 ⟨rfl,b1⟩;have c8:=ah b1;clear b1 v O;go_wp2_with fail
    exact⟨⟨k+1,ω,by go_num,c8.out⟩,by simp[intOf];omega⟩
   ·go_wp2_with fail
    generalize wr.alloc (.cells #[J s,J W,.slice B C D,.string mx] 179)=w5 at f d0 d1 d2 d3 H Z L ⊢;go_quiet (fail)
    go_wp2_with fail
    exact⟨⟨k+1,ω,by go_num,O.out hz _ (below_drewN f.out _)⟩,by simp[intOf];omega⟩
  ·have d5:¬(k:Int)<(xs.length:Int):=ω;have c4:k=xs.length:=ω;have HT:Hid (∃o',To w F b o wr (S.Mz q) o'):=HE.out wr o' (by rw[<-c7,<-c4];exact ht);clear ht N HE;go_wp2_with fail
   go_end0
   exact⟨rfl,HT.out⟩
end
section
open Go.RowKit
open Md (PS Vote Bal Lft Wf MsgW Sends)
variable {w w':World}{F:Nat->Prop}{b:Nat}{S:PS}{o:Pl}{g:PS->Nat->PS}{rv cv mv:Value}{l:List Nat}{k q x:Nat}{B:Bal}
def E6(p:PP w F b S o)(f:Codec.Frame)(G:S.e.length<=1000000)(i:aw w w.heap.size rv f.g)(j:aw w w.heap.size cv f.i)(n:ba w w.heap.size mv f.d) :
 Calls prog 165 #[pT b 0,.agg #[J f.c,J 0,J f.j,J f.b,J f.h,J f.a,J f.e,rv,cv,mv]] w fun e d=>e=.returned (.tuple #[])/\∃a,To w F b o d (S.MZ f) { o with d:=a }:=by
 obtain⟨z,C,u,rfl⟩:=i.b;obtain⟨y,D,v,rfl⟩:=j.b;obtain⟨t,A,s,rfl⟩:=n.b;cases c:Codec.dg _ with
 | false =>
   refine(Ax p.e { f with f:=S.c } rfl z y t C u D v A s i j n c).mono ?_;rintro e d ⟨rfl,I⟩;rw[show S.MZ f=S by unfold PS.MZ;rw[c];rfl];exact⟨rfl,o.d,p.d I⟩
 | true =>
   refine(Aw p.e { f with f:=S.c } rfl z y t C u D v A s i j n c (by simpa using G)).mono ?_;rintro e d ⟨rfl,m,a,r,H⟩;rw[show S.MZ f={ S with e:=S.e++[{ f with f:=S.c }] } by unfold PS.MZ;rw[c];rfl];exact⟨rfl,a,p.step (m.e fun x _ E=>E.elim .inl fun e=>.inr (.inr (.inr (.inr e)))) (fun _ h=>h) (fun _ h=>.inl h) r (by rw[y8];exact H) p.ms rfl rfl rfl⟩
def aG(g:PS->Nat->PS)(l:List Nat)(S:PS)(k:Nat):PS:=(l.take k).foldl g S
def jb(h:l[k]?=some q):aG g l S (k+1)=g (aG g l S k) q:=by
 obtain⟨a,rfl⟩:=ym.1 h;unfold aG;rw[<-List.take_append_getElem a,List.foldl_append];rfl
def iH(g:PS->Nat->PS)(l:List Nat):aG g l S l.length=l.foldl g S:=by unfold aG;rw[AE]
def fa(a:∀T q,Sends T (g T q) 1)(l:List Nat)(k:Nat):Sends S (aG g l S k) k:=(Md.bK g 1 a _ S).c (by rw[xk];omega)
def gG(a:Int)(n:Nat):(Md.iX a n).length<=n:=yr (G3 _ _) ς
def fN{a:Nat}{v:Value}(h:w.ownsRow a 3 1 v l.length (cz l))(s:∀g,a<=g->g<w.heap.size->w'.heap[g]?=w.heap[g]?):∃m c,v=.slice m l.length c/\∀(k q:Nat),l[k]?=some q->∃g,m=some ⟨g,0,none⟩/\w'.cell? (aT g k)=some (J q):=by
 rcases h.2 with ⟨e,n⟩|⟨g,i,t,e,r,p, -⟩
 ·refine⟨none,0,by rw[e,n],fun k q f=>?_⟩;have:=(ym.1 f).1;omega
 ·refine⟨_,i,e,fun k q f=>⟨g,rfl,?_⟩⟩;have j:=h.cells (by rw[e];rfl) k (J q) (by simp[cz,f]);have d:(⟨g,0,none⟩:Addr).add k=(aT g k):=by unfold Addr.add;split <;> simp_all
  rw[d] at j;exact(World.cell?_of_block (s g r (yk.1 p).1)).trans j
def PP.f(p:PP w F b S o)(a:o.c=some x)(c:S.d=some B):fD w (o.R F b) B x o.e o.a:=by
 have h:=p.lead;rw[a,c] at h;exact h
def rP{fr:PS->Nat->Codec.Frame}(m:∀T q,g T q=T.MZ (fr T q))(i:∀T q,T={ S with e:=T.e }->fr T q=fr S q){L:List Nat}{r j a:World}{c:Value}(h:To r F b o j (aG g L S k) { o with d:=c })(t:L[k]?=some q)(z:S.e.length+k<=1000000)(p:Below j j a)(u:aw a a.heap.size rv (fr S q).g)(v:aw a a.heap.size cv (fr S q).i)(y:ba a a.heap.size mv (fr S q).d) :
 Calls prog 165 #[pT b 0,.agg #[J (fr S q).c,J 0,J (fr S q).j,J (fr S q).b,J (fr S q).h,J (fr S q).a,J (fr S q).e,rv,cv,mv]] a fun e n=>e=.returned (.tuple #[])/\∃c,To r F b o n (aG g L S (k+1)) { o with d:=c }:=by
 have d:Sends S (aG g L S k) k:=fa (fun T q=>by rw[m];exact Md.ak T _) L k;refine(E6 (h.c.c p) (fr S q) (by have:=d.b;omega) u v y).mono ?_;rintro e n ⟨rfl,f,s⟩;refine⟨rfl,f,?_⟩;rw[jb t,m,i _ q d.e];exact(h.a (h.c.d p)).a s
def tM(B:Bal)(T:PS)(q:Nat):Codec.Frame:=⟨3,0,q,B.out,T.b,B.g,0,[],[],[]⟩
def lz(B:Bal)(T:PS)(q:Nat):PS:=T.MZ (tM B T q)
def dt(S:PS)(B:Bal):List Nat:=Md.iX (Md.cX B.a B.c) S.n
def mH(p:PP w F b S o)(wf:Wf S)(u:o.c=some x)(N:S.d=some B)(hs:S.e.length<=900000):Calls prog 195 #[pT b 0] w fun e d=>e=.returned (.tuple #[])/\∃a,To w F b o d (S.Mi B) { o with d:=a }:=by
 have P:=p.a.a 13 _ rfl;rw[u] at P;simp only[eb,yf,yd,ye] at P;have hW:=wf.lead B N;have HC:Hid (∀d,Below w w d->d.cell? (aT x 3)=some (J B.a)/\d.cell? (aT x 4)=some (J B.c)):=fun d Z=>⟨((p.c Z).f u N).c.a 3 _ rfl,((p.c Z).f u N).c.a 4 _ rfl⟩;have C:Hid (∀d,Below w w d->Calls prog 164 #[pT b 0,J (bits .andNot .i64 B.a B.c)] d fun e G=>∃v,e=.returned v/\G.ownsRow d 3 1 v (dt S B).length (cz (dt S B))/\Below d d G):=fun d Z=>by
  rw[(cK hW.asked hW.answ).1];exact tR (p.c Z) wf _
 have Y:(dt S B).length<=6:=yr (gG _ S.n) wf.c;have r:Hid (∀s v,Below w w s->s.ownsRow w 3 1 v (dt S B).length (cz (dt S B))->∃I c,v=.slice I (dt S B).length c/\(∃a,To s F b o s (aG (lz B) (dt S B) S 0) { o with d:=a })/\(∀wr a,To s F b o wr (aG (lz B) (dt S B) S (dt S B).length) { o with d:=a }->∃a,To w F b o wr (S.Mi B) { o with d:=a })/\∀(k:Nat) wr a,k<(dt S B).length->To s F b o wr (aG (lz B) (dt S B) S k) { o with d:=a }->∃q g:Nat,I=some ⟨g,0,none⟩/\wr.cell? (aT g k)=some (J q)/\(wr.cell? (aT b 6)=some (J S.b)/\wr.cell? (aT x 0)=some (J B.g)/\wr.cell? (aT x 2)=some (J B.out))/\Calls prog 165 #[pT b 0,.agg #[J 3,J 0,J q,J B.out,J S.b,J B.g,J 0,sN,sN,sN]] wr.drew fun e E=>e=.returned (.tuple #[])/\(∃a,To s F b o E (aG (lz B) (dt S B) S (k+1)) { o with d:=a })/\(E.cell? (aT b 6)=some (J S.b)/\E.cell? (aT x 0)=some (J B.g)/\E.cell? (aT x 2)=some (J B.out))):=fun s v t m=>by
  have p1:=p.c t;obtain⟨I,c,hv, -⟩:=fN (w':=s) m fun _ _ _=>rfl;refine⟨I,c,hv,⟨o.d,To.f p1⟩,fun wr a h=>⟨a,(p.d t).a (by rw[iH] at h;exact h)⟩,fun k wr a hk h=>?_⟩;have O:=yh hk;obtain⟨a5,c',U,D⟩:=fN (w':=wr) m fun g hg z=>h.e.block g z fun e=>by have:=p.h e;omega
  rw[hv] at U;injection U with e1 _ _;subst e1;obtain⟨g,hg,hc⟩:=D k _ O;have y:∀{d a k},PP d F b (aG (lz B) (dt S B) S k) { o with d:=a }->d.cell? (aT b 6)=some (J S.b)/\d.cell? (aT x 0)=some (J B.g)/\d.cell? (aT x 2)=some (J B.out):=fun {d a k} pp=>by
   have a1:Sends S (aG (lz B) (dt S B) S k) k:=fa (fun T q=>Md.ak T _) _ k;rw[a1.e] at pp;have hB:=pp.f u N;exact⟨pp.a.a 6 _ rfl,hB.c.a 0 _ rfl,hB.c.a 2 _ rfl⟩
  refine⟨_,g,hg,hc,y h.c,?_⟩;refine(rP (fr:=tM B) (fun _ _=>rfl) (fun T q e=>by unfold tM;rw[e]) h O ω (Below.refl _ _).drew (rv:=sN) (cv:=sN) (mv:=sN) (.inl ⟨⟨_,_,rfl⟩,rfl⟩) (.inl ⟨⟨_,_,rfl⟩,rfl⟩) (.inl ⟨⟨_,_,rfl⟩,rfl⟩)).mono ?_;rintro e E ⟨rfl,a0,h3⟩;exact⟨rfl,⟨a0,h3⟩,y h3.c⟩
 clear p wf N hs hW u;generalize dt S B=L at r Y C;go_enter Tryz.func195,Tryz.ntmps195
 go_wp2_with fail
 refine wp_region_held_drew (S:=fun d=>d.cell? (aT x 3)=some (J B.a)/\d.cell? (aT x 4)=some (J B.c)) rfl (HC.out _ (Below.refl _ _).drew) (fun f=>?_)
 (iterate 10 refine ψ ?_);refine wk 12 ?_
 refine we 10 fun K M=>?_;go_simp;refine(C.out _ (Below.refl _ _).drew).mono ?_;rintro e s ⟨v,rfl,m,t⟩;have A:Below w w s:=((Below.refl _ _).drew).trans (t.mono ς);obtain⟨I,c,rfl,h0,hE,Q⟩:=r.out s v A (by simpa using m);have H0:=ah h0;have HE:=ah hE;have HS:=ah Q;have W:=HC.out s A;clear h0 hE Q m t A r C;go_wp2_with fail
 refine M.out _ _ W (fun f=>?_);clear M K;try simp only[pU]
 refine wk 11 ?_;refine wpAnyH_done κ ?_ _;clear f HC W;go_wp2_with fail
 go_loopw [21] (fun i wr=>∃k:Nat,k<=L.length/\i=J k/\∃a,To s F b o wr (aG (lz B) L S k) { o with d:=a }) (fun i _=>L.length - (intOf i).toNat)
 case atStart=>exact⟨0,ω,rfl,H0.out⟩
 case round=>
  obtain⟨k,hk,rfl,a,ht⟩:=hrel;by_cases z:k<L.length
  ·have a3:k<L.length:=ω;have a6:0<=k:=ω;obtain⟨q,g,rfl,cg,V,hc⟩:=HS.out k wr a z ht;have R:=ah hc;clear hc ht HS;go_wp2_with fail
   refine wp_region_held_drew (S:=fun d=>d.cell? (aT b 6)=some (J S.b)/\d.cell? (aT x 0)=some (J B.g)/\d.cell? (aT x 2)=some (J B.out)) rfl V (fun f=>?_)
   (iterate 15 refine ψ ?_)
   refine we 15 fun K M=>?_;go_simp;refine R.out.mono ?_;rintro e E ⟨rfl,H,X⟩;have H3:=ah H;clear H R;go_wp2_with fail
   refine M.out _ _ X (fun f=>?_);clear M K;try simp only[pU]
   refine wpAnyH_done κ ?_ _;clear f X V;go_wp2_with fail
   exact⟨⟨k+1,ω,by go_num,H3.out⟩,by simp[intOf];omega⟩
  ·have a4:¬(k:Int)<(L.length:Int):=ω;have a2:k=L.length:=ω;have HT:Hid (∃a,To w F b o wr (S.Mi B) { o with d:=a }):=HE.out wr a (by rw[<-a2];exact ht);clear ht HS HE;go_wp2_with fail
   go_end0
   exact⟨rfl,HT.out⟩
open Go.ChangeMaps (setBlock)
variable {Fn:Nat->Prop}{gb:Nat}{pv:Value}{lim:Nat}{pl:List bC}{nv:Value}
def nT:∀{pl:List bC}{i:Nat}{x:bC},pl[i]?=some x->(ar pl)[i * 2]?=some (J x.1)/\(ar pl)[i * 2+1]?=some (.string x.2)
 |[],i,x,h=>by cases h
 | y :: a, 0, x, h => by
   simp only[AH,yA] at h;subst h;exact⟨rfl,rfl⟩
 | y :: a, i + 1, x, h => by
   have:=nT (by simpa using h);have e:ar (y::a)=[J y.1,.string y.2]++ar a:=rfl;rw[e,show (i+1) * 2=i * 2+1+1 by omega];exact this
def kt{F:Nat->Prop}{v:Value}(r:eB w F 111 2 v pl.length (ar pl)){k:Nat}{x:bC}(l:pl[k]?=some x):∃g d,v=sT g pl.length d/\F g/\g<w.heap.size/\w.cell? ⟨g,k * 2,none⟩=some (J x.1)/\w.cell? ⟨g,k * 2+1,none⟩=some (.string x.2)/\∃e,w.heap[g]?=some (.cells e 111 (0,0)):=by
 have m:=(ym.1 l).1;rcases r.d.2 with ⟨-,h⟩|⟨g,d,e,h, -,f, -⟩
 ·omega
 ·have b:v.ownBlock=some g:=by rw[h];rfl
  obtain⟨a,c⟩:=nT l;have j:=r.d.cells b _ _ a;have i:=r.d.cells b _ _ c;rw[lu] at j i;exact⟨g,d,h,r.c g b,r.k b,j,i,e,f⟩
def qR(p:cY w Fn gb pv lim pl nv):Calls prog 59 #[pT gb 1] w fun e a=>e=.returned nv/\a=w.setCell ⟨gb,2,none⟩ (sN):=by
 have b:=p.a.a 2 _ rfl;have c:=p.a.b 2;simp only[yf,yd,ye] at b;clear p;go_enter Tryz.func59,Tryz.ntmps59
 go_wp2_with fail
 go_ret;exact⟨rfl,rfl⟩
def wB(p:cY w Fn gb pv lim pl nv)(k:Nat)(x:bC)(b:pl[k]?=some x):Calls prog 135 #[pT gb 1,J k] w fun e j=>e=.returned (.tuple #[.string x.2,J 0])/\j=w:=by
 have a:=(ym.1 b).1;have d:=ah (kq p k a);obtain⟨g,c,f, -, -,n,m, -⟩:=kt p.b b;have l:=p.a.a 2 _ rfl;simp only[yf,yd,ye,f] at l;have i:0<=k:=ω;have h:k<pl.length:=ω;clear p b;go_enter Tryz.func135,Tryz.ntmps135
 go_wp2_with fail
 refine d.out.mono ?_;rintro e o ⟨rfl,rfl⟩;go_wp2_with fail
 go_ret2
 exact⟨rfl,rfl⟩
def zr(p:cY w Fn gb pv lim pl nv)(q:pl.length<=1000000)(k:Nat)(x:bC)(d:pl[k]?=some x):Calls prog 125 #[pT gb 1,J k] w fun e j=>e=.returned (J 0)/\cW (fun x=>Fn x\/x=gb) w j/\∃f,cY j (aY Fn w) gb pv lim (je lim pl x) f:=by
 have c:=(ym.1 d).1;have i:=ah (kq p k c);have h:=ah (qc p x q);obtain⟨g,l,m, -, -,u,s, -⟩:=kt p.b d;have r:=p.a.a 2 _ rfl;simp only[yf,yd,ye,m] at r;have o:0<=k:=ω;have n:k<pl.length:=ω;clear p d;go_enter Tryz.func125,Tryz.ntmps125
 go_wp2_with fail
 refine i.out.mono ?_;rintro e v ⟨rfl,rfl⟩;go_wp2_with fail
 refine h.out.mono ?_;rintro e t ⟨rfl,b⟩;have a:=ah b;clear b h i;go_wp2_with fail
 go_ret;exact⟨rfl,a.out.1,a.out.2⟩
def bI.a{R:Nat->Prop}{v:Value}{l:List Codec.Msg}(h:bI w R v l):∃e n c,v=.slice e n c:=by
 rcases h with ⟨⟨_,_,a⟩, -⟩|⟨g,d,a, -⟩
 ·exact⟨_,_,_,a⟩
 ·exact⟨_,_,_,a⟩
def DR(S:PS)(B:Bal)(T:PS)(q:Nat):Codec.Frame:=⟨5,0,q,T.a.m,T.b,B.g,0,[],T.a.a,S.Mm S.a.a⟩
def xS(S:PS)(B:Bal)(T:PS)(q:Nat):PS:=T.MZ (DR S B T q)
def jO(S:PS)(B:Bal):List Nat:=Md.iX (Md.cX B.a B.d) S.n
def kS(p:PP w F b S o)(wf:Wf S){x:Nat}{B:Bal}(C:o.c=some x)(hL:S.d=some B)(a6:S.a.a.length=S.n)(hs:S.e.length<=900000):Calls prog 197 #[pT b 0] w fun e d=>e=.returned (.tuple #[])/\∃a,To w F b o d (S.Mj B) { o with d:=a }:=by
 have P:=p.a.a 13 _ rfl;rw[C] at P;have Q:=p.a.a 12 _ rfl;simp only[eb,yf,yd,ye] at P Q;have hW:=wf.lead B hL;obtain⟨M,I,G,E⟩:=p.vote.a;rw[E] at Q;have a9:Hid (Calls prog 240 #[pT b 0,.slice M I G] w fun e d=>Below w w d/\∃v,e=.returned v/\bI d (o.R F b) v (S.Mm S.a.a)):=by
  have:=lA p wf p.vote a6;rw[E] at this;exact this
 have HC:Hid (∀d,Below w w d->d.cell? (aT x 3)=some (J B.a)/\d.cell? (aT x 5)=some (J B.d)):=fun d hw=>⟨((p.c hw).f C hL).c.a 3 _ rfl,((p.c hw).f C hL).c.a 5 _ rfl⟩;have W:Hid (∀d,Below w w d->Calls prog 164 #[pT b 0,J (bits .andNot .i64 B.a B.d)] d fun e a0=>∃v,e=.returned v/\a0.ownsRow d 3 1 v (jO S B).length (cz (jO S B))/\Below d d a0):=fun d hw=>by
  rw[(cK hW.asked hW.acc).1];exact tR (p.c hw) wf _
 have b2:(jO S B).length<=6:=yr (gG _ S.n) wf.c;have r:Hid (∀D t v mv,Below w w D->bI D (o.R F b) mv (S.Mm S.a.a)->Below D D t->t.ownsRow D 3 1 v (jO S B).length (cz (jO S B))->∃ao c,v=.slice ao (jO S B).length c/\(∃a,To t F b o t (aG (xS S B) (jO S B) S 0) { o with d:=a })/\(∀wr a,To t F b o wr (aG (xS S B) (jO S B) S (jO S B).length) { o with d:=a }->∃a,To w F b o wr (S.Mj B) { o with d:=a })/\∀(k:Nat) wr a,k<(jO S B).length->To t F b o wr (aG (xS S B) (jO S B) S k) { o with d:=a }->∃q g:Nat,ao=some ⟨g,0,none⟩/\wr.cell? (aT g k)=some (J q)/\(wr.cell? (aT b 6)=some (J S.b)/\wr.cell? (aT b 11)=some (J S.a.m)/\wr.cell? (aT b 12)=some (.slice M I G)/\wr.cell? (aT x 0)=some (J B.g))/\Calls prog 165 #[pT b 0,.agg #[J 5,J 0,J q,J S.a.m,J S.b,J B.g,J 0,sN,.slice M I G,mv]] wr.drew fun e U=>e=.returned (.tuple #[])/\(∃a,To t F b o U (aG (xS S B) (jO S B) S (k+1)) { o with d:=a })/\(U.cell? (aT b 6)=some (J S.b)/\U.cell? (aT b 11)=some (J S.a.m)/\U.cell? (aT b 12)=some (.slice M I G)/\U.cell? (aT x 0)=some (J B.g))):=fun D t v mv s z A l=>by
  have H:=s.trans (A.mono s.size);have p1:=p.c H;have a8:=z.c ((p.c s).d A).d;obtain⟨ao,c,hv, -⟩:=fN (w':=t) l fun _ _ _=>rfl;refine⟨ao,c,hv,⟨o.d,To.f p1⟩,fun wr a h=>⟨a,(p.d H).a (by rw[iH] at h;exact h)⟩,fun k wr a hk h=>?_⟩;have a2:=yh hk;obtain⟨b8,c',a5,X⟩:=fN (w':=wr) l fun g hg N=>h.e.block g N fun e=>by have:=p.h e;have:=s.size;omega
  rw[hv] at a5;injection a5 with e1 _ _;subst e1;obtain⟨g,hg,hc⟩:=X k _ a2;have y:∀{d a k},PP d F b (aG (xS S B) (jO S B) S k) { o with d:=a }->(d.cell? (aT b 6)=some (J S.b)/\d.cell? (aT b 11)=some (J S.a.m)/\d.cell? (aT b 12)=some (.slice M I G)/\d.cell? (aT x 0)=some (J B.g))/\aw d d.heap.size (.slice M I G) S.a.a:=fun {d a k} Y=>by
   have b4:Sends S (aG (xS S B) (jO S B) S k) k:=fa (fun T q=>Md.ak T _) _ k;rw[b4.e] at Y;have hB:=Y.f C hL;rw[<-E];exact⟨⟨Y.a.a 6 _ rfl,Y.a.a 11 _ rfl,Y.a.a 12 _ rfl,hB.c.a 0 _ rfl⟩,aX Y.vote.d⟩
  refine⟨_,g,hg,hc,(y h.c).1,?_⟩;have O:Below wr wr wr.drew:=(Below.refl _ _).drew;refine(rP (fr:=DR S B) (fun _ _=>rfl) (fun T q e=>by unfold DR;rw[e]) h a2 ω O (rv:=sN) (cv:=.slice M I G) (mv:=mv) (.inl ⟨⟨_,_,rfl⟩,rfl⟩) (y (h.c.c O)).2 ((a8.c h.d).c (h.c.d O).d).at).mono ?_;rintro e U ⟨rfl,b3,h3⟩;exact⟨rfl,⟨b3,h3⟩,(y h3.c).1⟩
 clear p wf hL hs hW C a6 E;generalize jO S B=L at r b2 W;go_enter Tryz.func197,Tryz.ntmps197
 go_wp2_with fail
 refine a9.out.mono ?_;rintro e D ⟨s,mv,rfl,z⟩;obtain⟨mo,mn,mk,rfl⟩:=z.a;have u:=ah s;have Z:=ah z;clear s z a9 Q P;go_wp2_with fail
 refine wp_region_held_drew (S:=fun d=>d.cell? (aT x 3)=some (J B.a)/\d.cell? (aT x 5)=some (J B.d)) rfl (HC.out _ u.out.drew) (fun hHeld=>?_)
 (iterate 10 refine ψ ?_);refine wk 12 ?_
 refine we 10 fun K hK=>?_;go_simp;refine(W.out _ u.out.drew).mono ?_;rintro e t ⟨v,rfl,l,A⟩;have V:Below D D t:=((Below.refl _ _).drew).trans (A.mono ς);obtain⟨ao,c,rfl,h0,hE,a3⟩:=r.out D t v _ u.out Z.out V (by simpa using l);have H0:=ah h0;have HE:=ah hE;have HS:=ah a3;have b0:=HC.out t (u.out.trans (V.mono u.out.size));clear h0 hE a3 l A V r W Z u;go_wp2_with fail
 refine hK.out _ _ b0 (fun hHeld=>?_);clear hK K;try simp only[pU]
 refine wk 11 ?_;refine wpAnyH_done κ ?_ _;clear hHeld HC b0;go_wp2_with fail
 go_loopw [29] (fun i wr=>∃k:Nat,k<=L.length/\i=J k/\∃a,To t F b o wr (aG (xS S B) L S k) { o with d:=a }) (fun i _=>L.length - (intOf i).toNat)
 case atStart=>exact⟨0,ω,rfl,H0.out⟩
 case round=>
  obtain⟨k,hk,rfl,a,ht⟩:=hrel;by_cases N:k<L.length
  ·have b6:k<L.length:=ω;have b9:0<=k:=ω;obtain⟨q,g,rfl,cg,a7,hc⟩:=HS.out k wr a N ht;have a4:=ah hc;clear hc ht HS;go_wp2_with fail
   refine wp_region_held_drew (S:=fun d=>d.cell? (aT b 6)=some (J S.b)/\d.cell? (aT b 11)=some (J S.a.m)/\d.cell? (aT b 12)=some (.slice M I G)/\d.cell? (aT x 0)=some (J B.g)) rfl a7 (fun hHeld=>?_)
   (iterate 22 refine ψ ?_)
   refine we 22 fun K hK=>?_;go_simp;refine a4.out.mono ?_;rintro e U ⟨rfl,a1,b1⟩;have H3:=ah a1;clear a1 a4;go_wp2_with fail
   refine hK.out _ _ b1 (fun hHeld=>?_);clear hK K;try simp only[pU]
   refine wpAnyH_done κ ?_ _;clear hHeld b1 a7;go_wp2_with fail
   exact⟨⟨k+1,ω,by go_num,H3.out⟩,by simp[intOf];omega⟩
  ·have b7:¬(k:Int)<(L.length:Int):=ω;have b5:k=L.length:=ω;have HT:Hid (∃a,To w F b o wr (S.Mj B) { o with d:=a }):=HE.out wr a (by rw[<-b5];exact ht);clear ht HS HE;go_wp2_with fail
   go_end0
   exact⟨rfl,HT.out⟩

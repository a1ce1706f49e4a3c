import Derived.Lib.TrailingZeros
import Derived.Test.YtoklolfaemhfnaaGreatDoorZaw
set_option maxRecDepth 100000
set_option maxHeartbeats 0
set_option linter.defProp false
open Go.Proofs.Tryz
namespace Go.Proofs.Y
section
open Go.RowKit
open Go.ChangeMaps (setBlock)
open Md (PS Vote Bal Lft Wf MsgW)
variable {w w':Δ}{F:ϑ}{b:Nat}{S:PS}{o:Pl}
def Md.Wf.b2(a:Wf S):IntKind.i64.wrap (2^min S.c 64)=Md.aO S.c/\Md.bj (Md.aO S.c):=oE (by have:=a.c;have:=a.num;omega)
def nm(p:PP w F b S o)(j:Wf S):ϖ 110 #[pT b 0] w λe a=>∃v,ϱ e v/\a.ownsRow w 3 1 v S.L8.length (cz S.L8)/\Below w w a:=by
 have r:Hid (∀a g,Below w w a->ϖ 164 #[pT b 0,J g] a _):=λa g l=>tR (p.c l) j g;have d:Hid (bits .andNot .i64 S.m (IntKind.i64.wrap (2^min S.c 64))=Md.cX S.m (Md.aO S.c)):=by rw[Hid,j.b2.1,(cK j.mem j.b2.2).1]
 have n:Hid (∀a,Below _ w a->ε a b 7 _/\ε a b 0 _):=λa l=>⟨(p.c l).a.a 7 _ rfl,(p.c l).a.a 0 _ rfl⟩;have q:0<=S.c:=ω;clear p j;go_enter func110,ntmps110;go_wp21;refine wp_region_held_drew (S:=λa=>ε a b 7 _/\ε a b 0 (J S.c)) rfl (n.out _ (Below.refl _ _).drew) λf=>?_;(iterate 11 refine ψ ?_);refine we 11 λK m=>?_;go_simp;refine(r.out _ _ (Below.refl _ _).drew).mono ?_;rintro e s⟨v,rfl,c,i⟩;rw[d.out]at c;have k:Hid (Below w w s):=((Below.refl _ _).drew).trans (i.mono ς);have h:=ah c;clear c i d r;go_wp21;refine m.out _ _ (n.out _ k.out) λf=>?_;clear m K;try simp only[pU]
 refine wk 12 ?_;refine wpAnyH_done κ ?_ _;go_wp21;go_ret;exact⟨_,rfl,h.out,k.out⟩
def cW.a{w:Δ}{X:Nat}(j:Nat)(u:Θ):cW (λx=>x=X) w (w.setCell ⟨X,j,none⟩ u):=⟨rfl,rfl,rfl,ς,λk _ a=>Below.heap_setCell _ _ _ _ a⟩
def qm(p:PP w F b S o)(g:Wf S){c:Int}(d:Md.bj c):Do 106 #[pT b 0,J c] (.tuple #[]) w F b o (S.suspect c):=by
 have e:=p.a;have q:=e.a 7 _ rfl;have y:=e.a 8 _ rfl;have s:=e.a 0 _ rfl;simp only[yf,yd,ye]at s q y;have n:0<=S.c:=ω;have x:=e.b 8;have l:=cK d g.mem;have j:=cK l.2.2.2.2.1 g.b2.2;have m:=cK g.sus j.2.2.2.1;have r:Hid (bits .or .i64 S.k (bits .andNot .i64 (bits .and .i64 c S.m) (IntKind.i64.wrap (2^min S.c 64)))=(S.suspect c).k):=by rw[Hid,g.b2.1,l.2.1,j.1,m.2.2.1];rfl
 have i:Hid (∃u,To w F b o ((w.setCell ⟨b,8,none⟩ (J (S.suspect c).k)).drew) (S.suspect c) u):=⟨_,p.head ⟨rfl,rfl,rfl,ς,λk _ v=>Below.heap_setCell _ _ _ _ v⟩ (e.e 8 _) rfl rfl rfl rfl rfl rfl p.vote (.inl ⟨rfl,rfl⟩)⟩;clear p g e l j m d;go_enter func106,ntmps106;go_wp21;refine gl.b (λt=>t=w.drew) 19 rfl rfl λa=>?_;(iterate 17 refine χ ?_);refine te 17 λK f=>?_;go_simp;refine f.out _ _ (λ_=>rfl) λa=>?_;clear f K;try simp only[pU]
 have a:=a θ;refine tw 18 ?_;refine te 19 λK f=>?_;go_simp;refine f.out _ _ (λh=>absurd rfl h) λ_=>?_;clear f K;try simp only[pU]
 refine gl.done κ ?_ _;go_wp21;go_end0;rw[r.out];exact⟨rfl,i.out⟩
def pW(p:PP w F b S o)(a:Int):ϖ 256 #[pT b 0,J a] w λe j=>ϱ e (.bool (S.MY a))/\j=w:=by
 have c:=p.a.a 13 _ rfl;rcases p.lead.cases with ⟨f,d⟩|⟨x,B,f,d,h⟩
 .have g:Hid (S.MY a=false):=by simp[Hid,PS.MY,d]
  rw[f]at c;simp only[eb,yf,yd,ye]at c;clear p f d;go_enter func256,ntmps256;go_wp2;go_ret;rw[g.out];exact⟨rfl,rfl⟩
 have g:Hid (S.MY a=decide (B.g=a)):=by simp only[Hid,PS.MY,d,Option.any_some];rfl
 have i:=h.c.a 0 _ rfl;rw[f]at c;simp only[eb,bu,yf,yd,ye]at c i;clear p f d h;go_enter func256,ntmps256;go_wp2;go_ret;rw[g.out];exact⟨rfl,rfl⟩
def qg(p:PP w F b S o)(a:Int):Do 236 #[pT b 0,J a] (.tuple #[]) w F b o (S.MH a):=by
 have d:=p.a;have c:To w F b o (w.setCell ⟨b,9,none⟩ (J a)) {S with g:=a} o:=p.head (cW.a 9 _) (d.e 9 _) rfl rfl rfl rfl rfl rfl p.vote (.inl ⟨rfl,rfl⟩);have f:Hid (ϖ 256 #[pT b 0,J a] (w.setCell ⟨b,9,none⟩ (J a)) λe l=>ϱ e (.bool (S.MY a))/\l=w.setCell ⟨b,9,none⟩ (J a)):=pW c.c a;have j:Hid (S.MY a=false->To w F b o ((w.setCell ⟨b,9,none⟩ (J a)).setCell ⟨b,13,none⟩ (.pointer none)) (S.MH a) {o with c:=none}):=λe=>by
  have:S.MH a={S with g:=a,d:=none}:=by unfold PS.MH;rw[e];rfl
  rw[this];exact c.a (c.c.head (S':={S with g:=a,d:=none}) (vc':=o.h) (lb':=none) (cW.a 13 _) (c.c.a.e 13 _) rfl rfl rfl rfl rfl rfl c.c.vote (.inr ⟨rfl,rfl⟩))
 have q:Hid (S.MY a=true->To w F b o (w.setCell ⟨b,9,none⟩ (J a)) (S.MH a) o):=λe=>by
  have:S.MH a={S with g:=a}:=by unfold PS.MH;rw[e];rfl
  rw[this];exact c
 have m:=d.b 9;have k:=d.a 9 _ rfl;have i:=c.c.a.b 13;have h:=c.c.a.a 13 _ rfl;simp only[yf,yd,ye]at k h;clear p d c;cases g:S.MY a with
 |true=>
  rw[g]at f;go_enter func236,ntmps236;go_wp21;refine f.out.mono ?_;rintro e n⟨rfl,rfl⟩;go_wp21;go_end0;exact⟨rfl,_,q.out g⟩
 |false=>
  rw[g]at f;go_enter func236,ntmps236;go_wp21;refine f.out.mono ?_;rintro e n⟨rfl,rfl⟩;go_wp21;go_end0;exact⟨rfl,_,j.out g⟩
def tQ(p:PP w F b S o)(a:Int):Do 193 #[pT b 0,J a] (.tuple #[]) w F b o (S.Mx a):=by have g:=ah (qg p a);clear p;go_enter func193,ntmps193;go_wp21;refine g.out.mono ?_;rintro e l⟨rfl,h,c⟩;have d:=c.c.a;have k:=d.b 5;have i:=d.a 5 _ rfl;simp only[yf,yd,ye]at i;have f:Hid (∃j,To w F b o _ _ j):=⟨_,c.a (c.c.head (S':=S.Mx a) (vc':=h.h) (lb':=h.c) (cW.a 5 _) (d.e 5 _) rfl rfl rfl rfl rfl rfl c.c.vote (.inl ⟨rfl,rfl⟩))⟩;clear c d g;go_wp21;go_end0;exact⟨rfl,f.out⟩
def Cm(x:Nat)(c:x<64)(w:Δ):ϖ 294 #[.int .u64 x] w λe a=>ϱ e (J (Md.ir x))/\a=w:=by go_enter func294,ntmps294;go_wp2;go_ret;refine⟨dN ?_,rfl⟩;clear w;revert x;decide+kernel
def Ar(x:Nat)(a:x<64)(w:Δ):ϖ 268 #[.int .u64 x] w λe c=>ϱ e (J (Md.ir x))/\c=w:=by have h:=Cm x a;go_enter func268,ntmps268;go_wp2_with (go_at_call 294;refine(h _).mono ?_;rintro e d⟨rfl,rfl⟩);go_ret;exact⟨rfl,rfl⟩
def CH(w:Δ):Prop:=∀i:Nat,i<64->ε w 1 i (.int .u8 (Lib.deBruijn64tab.getD i 0:Nat))
def IC:∀x:Nat,x<64->x≠0->0<=(IntKind.u64.wrap (bits .and .u64 (x:Nat) (IntKind.u64.wrap (-(x:Nat)))*285870213051353865)/288230376151711744)/\(IntKind.u64.wrap (bits .and .u64 (x:Nat) (IntKind.u64.wrap (-(x:Nat)))*285870213051353865)/288230376151711744).toNat<64/\Lib.deBruijn64tab.getD (IntKind.u64.wrap (bits .and .u64 (x:Nat) (IntKind.u64.wrap (-(x:Nat)))*285870213051353865)/288230376151711744).toNat 0=Md.Ik x:=by decide+kernel
def K4:∀i:Nat,i<64->Lib.deBruijn64tab.getD i 0<64:=by decide+kernel
def EL(x:Nat)(f:x<64)(w:Δ)(c:CH w):ϖ 235 #[.int .u64 x] w λe i=>ϱ e (J (Md.Ik x))/\i=w:=by
 by_cases d:x=0
 .subst d;go_enter func235,ntmps235;go_wp2;go_ret;exact⟨rfl,rfl⟩
 have g:¬x=0:=ω;have a:=IC x f d;have h:=c _ a.2.1;have k:=a.1;have l:(IntKind.u64.wrap (bits .and .u64 x (IntKind.u64.wrap (-(x:Nat)))*285870213051353865)/288230376151711744)<64:=by have:=a.2.1;omega
 rw[a.2.2]at h;have j:=ah (a.2.2▸K4 _ a.2.1);clear a c;go_enter func235,ntmps235;go_wp2;go_ret;refine⟨dN ?_,rfl⟩;have:=j.out;unfold wrap64;omega
def ID(x:Nat)(c:x<64)(w:Δ)(a:CH w):ϖ 192 #[.int .u64 x] w λe d=>ϱ e (J (Md.Ik x))/\d=w:=by have h:=EL x c w a;go_enter func192,ntmps192;go_wp2_with (go_at_call 235;refine h.mono ?_;rintro e f⟨rfl,rfl⟩);go_ret;exact⟨rfl,rfl⟩
def tX(s:Int):Md.ir s<=6:=by unfold Md.ir Md.iX;exact yr (G3 _ _) ς
def zx{x:Int}(h:Md.bj x):∃a:Nat,x=a/\a<64:=by obtain⟨a,rfl⟩:=Fi h.1;exact⟨a,rfl,by have:=h.2;omega⟩
def EM(p:PP w F b S o)(i:Wf S){d:Int}(c:Md.bj d):ϖ 237 #[pT b 0,J d] w λe q=>ϱ e (.bool (S.Nj d))/\Below w w q:=by
 have h:=p.a.a 7 _ rfl;simp only[yf,yd,ye]at h;obtain⟨a,rfl,n⟩:=zx c;obtain⟨m,g,f⟩:=zx i.mem;have k:Hid (S.Nj a=decide (Md.ir m<2*Md.ir a)):=by unfold Hid PS.Nj;rw[g]
 rw[g]at h;have t:=tX a;have s:=tX (m:Nat);have l:=Ar a n;have j:=Ar m f;clear p i c g;generalize u:Md.ir _=A at*;generalize r:Md.ir _=M at*;go_enter func237,ntmps237;go_wp21;go_quiet (first|(go_at_call 268;exact Calls.quiet_of_same (l _))|(go_at_call 268;exact Calls.quiet_of_same (j _)));go_wp21;go_ret;rw[k.out];refine⟨aB ?_,below_drewN (Below.refl _ _) _⟩;rw[Bool.eq_iff_iff];simp;omega
def Cq(p:PP w F b S o)(i:Wf S)(j:CH w):ϖ 160 #[pT b 0] w λe t=>ϱ e (.bool S.M4)/\Below w w t:=by
 have s:=p.a.a 0 _ rfl;have q:=p.a.a 7 _ rfl;have n:=p.a.a 8 _ rfl;simp only[yf,yd,ye]at s q n;have g:=cK i.mem i.sus;obtain⟨a,f,d⟩:=zx g.2.2.2.1;have c:=g.1.trans f;have l:=λm=>ID a d (w.drewN m) j;have r:IntKind.u64.wrap (a:Int)=a:=by
  have:∀x:Nat,x<64->IntKind.u64.wrap (x:Int)=x:=by decide+kernel
  exact this a d
 by_cases h:S.k=0
 .have k:Hid (S.M4=false):=by simp[Hid,PS.M4,h]
  rw[h]at n;clear p i j g f c l h;go_enter func160,ntmps160;go_wp21;go_quiet (fail);go_wp21;go_ret;rw[k.out];exact⟨rfl,below_drewN (Below.refl _ _) _⟩
 have k:Hid (S.M4=decide (Md.Ik a=S.c)):=by simp[Hid,PS.M4,h,f]
 have u:(S.k==0)=false:=by simpa using h
 clear p i j g f;go_enter func160,ntmps160;go_wp21;go_quiet ((go_at_call 192;exact Calls.quiet_of_same (l _)));go_wp21;go_ret;rw[k.out];refine⟨aB ?_,below_drewN (Below.refl _ _) _⟩;rw[Bool.eq_iff_iff];simp;try omega
def ET(p:PP w F b S o):ϖ 161 #[pT b 0] w λe h=>ϱ e (.bool S.Nb)/\Below w w h:=by
 have a:=p.a.a 13 _ rfl;have j:=p.a.a 8 _ rfl;simp only[yf,yd,ye]at j;rcases p.lead.cases with ⟨d,c⟩|⟨x,B,d,c,g⟩
 .have f:Hid (S.Nb=true):=by simp[Hid,PS.Nb,c]
  rw[d]at a;simp only[eb,yf,yd,ye]at a;clear p d c;go_enter func161,ntmps161;go_wp21;go_quiet (fail);go_wp21;go_ret;rw[f.out];exact⟨rfl,below_drewN (Below.refl _ _) _⟩
 have f:Hid (S.Nb=decide (B.out≠S.k)):=by simp[Hid,PS.Nb,c]
 have i:=g.c.a 2 _ rfl;rw[d]at a;simp only[eb,bu,yf,yd,ye]at a i;clear p d c g;go_enter func161,ntmps161;go_wp21;go_quiet (fail);go_wp21;go_ret;rw[f.out];refine⟨aB ?_,below_drewN (Below.refl _ _) _⟩;rw[Bool.eq_iff_iff];simp
variable {k:Nat}{cut:Υ}{x:Codec.Msg×Θ}
def pN{a:Type}{f:Nat->Option a}{n:Nat}{m:a}(h:∀q,q<k->f q=none)(g:f k=some m)(i:k<n):(List.range n).findSome? f=some m:=by
 induction n with
 |zero=>omega
 |succ n d=>
  rw[List.range_succ,List.findSome?_append];by_cases e:k=n;subst e;have:=List.findSome?_eq_none_iff.2 λq c=>h q (zD.1 c);rw[this];simp[g];rw[d ω];rfl
def PP.a4(p:PP w F b S o){m:Codec.Msg}(h:m∈S.o):∃c,(m,c)∈o.l:=by rw[<-p.ms]at h;obtain⟨x,a,rfl⟩:=yW.1 h;exact⟨x.2,a⟩
def PP.p(p:PP w F b S o)(a:Wf S)(h:x∈o.l):MsgW S.n x.1:=a.ms x.1 (by rw[<-p.ms];exact Hq h)
def PP.v(p:PP w F b S o)(a:∀x∈o.l,gL k (S.Ml.getD k 0+1) x.1=false):S.M9 cut k=none:=by
 have:S.o.find? (Md.eA k _)=none:=List.find?_eq_none.2 λm d=>by obtain⟨e,c⟩:=p.a4 d;have:=a _ c;rw[show Md.eA k _ m=gL k _ m from rfl,this];simp
 unfold PS.M9;rw[this];rfl
def PP.s(p:PP w F b S o)(a:x∈o.l)(g:gL k (S.Ml.getD k 0+1) x.1=true):S.M9 cut k=if Md.aR cut x.1&&ey S.Ml x.1.c k then some x.1 else none:=by
 have j:S.o.find? (Md.eA k (S.Ml.getD k 0+1))=some x.1:=by rcases e:S.o.find? _ with _|m;exact absurd g (List.find?_eq_none.1 e x.1 (by rw[<-p.ms];exact Hq a));obtain⟨i,n⟩:=p.a4 (List.mem_of_find?_eq_some e);by_cases f:x=(m,i);rw[f];exfalso;have d:=cu.1 ((List.find?_some e));have c:=cu.1 g;exact pC p.e.i a n f (by rw[cu];exact⟨d.1.trans c.1.symm,d.2.trans c.2.symm⟩)
 unfold PS.M9;rw[j];rfl
def pK(p:PP w F b S o)(O:Wf S)(cb cc:Nat)(Q:∀q,q<S.n->ε w cb q (J (cut.getD q 0))):ϖ 301 #[pT b 0,sT cb S.n cc] w λe a=>Below w w a/\((S.Mh cut=none/\ϱ e (.tuple #[.agg #[J 0,J 0,sN,.string ⟨#[]⟩],.bool false]))\/∃x∈o.l,S.Mh cut=some x.1/\ϱ e (.tuple #[aU x.1 x.2,.bool true])):=by
 obtain⟨r,hr,-,b9⟩:=p.i O;have d5:=World.block_lt_of_cell? w _ (Q S.c O.num);have d7:=O.g.1;have e6:=O.c;have HR:Hid (∀a,Below w w a->ϖ 119 #[pT b 0] a λe w''=>ϱ e (sT r S.n S.n)/\Below a a w''/\w''.heap=a.heap):=λa j=>np (p.c j) hr;have HC:Hid (∀a,Below w w a->ε a b 15 (.map (some o.m))/\∀q,q<S.n->ε a r q (J (S.Ml.getD q 0))):=λa j=>⟨(p.c j).a.a 15 _ rfl,λq hq=>(b9.c j b9.f).a q _ (ie ω)⟩;have b5:Hid (∀a(s q:Int),Below w w a->(∀x∈o.l,gL s q x.1=false)->(Instr.lookup 156 (.map (some o.m)) (.agg #[J s,J q]) true).run prog a=.ok (.tuple #[.agg #[J 0,J 0,sN,.string ⟨#[]⟩],.bool false]) a):=λa s q j D=>my a s q ((j.block o.m p.e.q).trans p.e.map) p.e.o D true;have R:Hid (∀a(s q:Int)(x:Codec.Msg×Θ),Below w w a->x∈o.l->gL s q x.1=true->(Instr.lookup 156 (.map (some o.m)) (.agg #[J s,J q]) true).run prog a=.ok (.tuple #[aU x.1 x.2,.bool true]) a):=λa s q x j M hk=>mz a s q ((j.block o.m p.e.q).trans p.e.map) p.e.o p.e.i M hk true;have HT:Hid (∀x∈o.l,∃f g,x.2=sT f S.n g):=λx M=>by obtain⟨f,g,e,-⟩:=jf p.e O.n0 M (p.p O M).t;exact⟨f,g,e⟩
 have E:Hid (∀a(m:Codec.Msg)(f g s:Nat),Below w w a->(m,Value.slice (some ⟨f,0,none⟩) S.n g)∈o.l->m.a=s->ϖ 304 #[pT b 0,aU m (sT f S.n g)] a λe w''=>ϱ e (.bool (ey S.Ml m.c s))/\Below a a w''):=λa m f g s j M Z=>by have a5:=(p.p O M).t;have p':=p.e.j j;obtain⟨e4,e7,e,hc⟩:=jf p' O.n0 M a5;injection e with T e2 e3;injection T with T;injection T with T;subst T;exact Av p' O.c O.num m f g s Z a5 hc
 have HW:Hid (∀a(m:Codec.Msg)(f g s:Nat),Below w w a->s<S.n->m.a=s->ϖ 273 #[sT cb S.n cc,aU m (sT f S.n g)] a λe w''=>ϱ e (.bool (Md.aR cut m))/\Below a a w''):=λa m f g s j hs Z=>by have:=lE (w:=a) cb S.n cc m (some ⟨f,0,none⟩) S.n g s (cut.getD s 0) hs Z ((j.cell (p:=(aT cb s)) d5).trans (Q s hs));rw[show decide (m.seq<=cut.getD s 0)=Md.aR cut m by unfold Md.aR;rw[Z];rfl]at this;exact this
 have G:Hid (∀a,Below (w.heap.size+1) (w.alloc (.cells #[J 0,J 0,sN,.string ⟨#[]⟩] 179)) a->Below w w a/\af a w 179 #[J 0,J 0,sN,.string ⟨#[]⟩]):=λa j=>⟨((Below.refl _ _).alloc (yb _) _).trans (j.mono ω),(af.d w _ rfl 179 #[J 0,J 0,sN,.string ⟨#[]⟩]).c j ω⟩;have c6:Hid (Below (w.heap.size+1) (w.alloc (.cells #[J 0,J 0,sN,.string ⟨#[]⟩] 179)) (w.alloc (.cells #[J 0,J 0,sN,.string ⟨#[]⟩] 179))):=Below.refl _ _;have a2:Hid ((w.alloc (.cells #[J 0,J 0,sN,.string ⟨#[]⟩] 179))=w.heap.size+1):=by simp[Hid]
 have P:Hid (∀q,q<S.n->0<=S.Ml.getD q 0/\S.Ml.getD q 0<=20):=λq hq=>O.g.at hq;have b0:Hid (∀k:Nat,(∀x∈o.l,gL k (S.Ml.getD k 0+1) x.1=false)->S.M9 cut k=none):=λk hk=>p.v hk;have b2:Hid (∀(k:Nat)x,x∈o.l->gL k (S.Ml.getD k 0+1) x.1=true->S.M9 cut k=if Md.aR cut x.1&&ey S.Ml x.1.c k then some x.1 else none):=λk x M hk=>p.s M hk;have HD:Hid (∀(k:Nat)(m:Codec.Msg),(∀q,q<k->S.M9 cut q=none)->S.M9 cut k=some m->k<S.n->S.Mh cut=some m):=λk m h1 h2 h3=>pN h1 h2 h3;have a9:Hid ((∀q,q<S.n->S.M9 cut q=none)->S.Mh cut=none):=λh=>List.findSome?_eq_none_iff.2 λq hq=>h q (zD.1 hq);go_enter func301,ntmps301;go_wp2_with fail;generalize w.alloc _=w1 at G c6 a2⊢;refine(HR.out w1 (G.out w1 c6).1).m ?_;rintro w2⟨c1,-⟩;have c8:Hid (Below (w.heap.size+1) w1 w2):=c1.mono (by rw[a2.out];omega);go_wp2_with fail;go_loopw [13] (λi wr=>∃k:Nat,k<=S.n/\i=J k/\(∀q,q<k->S.M9 cut q=none)/\Below _ w1 wr) λi _=>S.n-(intOf i).toNat
 case atStart=>exact⟨0,ω,rfl,λx hq=>absurd hq ω,c8⟩
 case round=>
  obtain⟨k,hk,rfl,K,C⟩:=hrel;have a4:=ah C;obtain⟨j,Y⟩:=G.out wr C;have d4:=ah j;have d:=ah Y;have B:=ah K;by_cases X:k<S.n
  .obtain⟨e8,U⟩:=HC.out wr j;have cr:=U k X;have d8:k<S.n:=ω;have e5:0<=k:=ω;have hb:=P.out k X;have H:Hid (S.M9 cut k=none->∀q,q<k+1->S.M9 cut q=none):=λe q hq=>by rcases Kq.1 hq with h|h;exact B.out q h;rw[h];exact e
   have c3:wrap64 (S.Ml.getD k 0+1)=S.Ml.getD k 0+1:=by unfold wrap64;omega
   by_cases D:∀x∈o.l,gL k (S.Ml.getD k 0+1) x.1=false
   .have t:=b5.out wr k (S.Ml.getD k 0+1) j D;have HN:=H.out (b0.out k D);have L:=ah HN;clear K C j Y U hb D HN;generalize S.Ml.getD k 0=y at cr c3 t;go_wp2_with fail;refine⟨⟨k+1,ω,by go_num,L,a4.out.alloc (by have:=a4.out.size;rw[a2.out]at this;exact this) _⟩,by simp[intOf];omega⟩
   obtain⟨x,M⟩:=Classical.not_forall.1 D;obtain⟨N,a6⟩:=Classical.not_imp.1 M;have V:=Bool.of_not_eq_false a6;obtain⟨f,g,c5⟩:=HT.out x N;have a0:=b2.out k x N V;obtain⟨c,xv⟩:=x;simp only at c5 V a0;subst c5;have t:=R.out wr k (S.Ml.getD k 0+1) _ j N V;simp only at t;have a8:c.a=(k:Int):=(cu.1 V).1;have L:Hid ((Md.aR cut c&&ey S.Ml c.c k)=false->∀q,q<k+1->S.M9 cut q=none):=λe=>H.out (by rw[a0,e];rfl);have a7:Hid ((Md.aR cut c&&ey S.Ml c.c k)=true->S.Mh cut=some c):=λe=>HD.out k c B (by rw[a0,e];rfl) X;have b7:Hid (∀a,Below w w a->ϖ 304 #[pT b 0,aU c (sT f S.n g)] a λe w''=>ϱ e (.bool (ey S.Ml c.c k))/\Below a a w''):=λa j=>E.out a c f g k j N a8;have c0:Hid (∀a,Below w w a->ϖ 273 #[sT cb S.n cc,aU c (sT f S.n g)] a λe w''=>ϱ e (.bool (Md.aR cut c))/\Below a a w''):=λa j=>HW.out a c f g k j X a8;have c9:=ah N;have b8:Hid (w.heap.size+1<=wr):=by have:=a4.out.size;rw[a2.out]at this;exact this
   clear K C j Y U hb D HW E HT B N V M R b5 HC P a8 a0 H b0 b2 HD a9;generalize S.Ml.getD k 0=y at cr c3 t;generalize ey S.Ml c.c k=sb at L a7 b7;generalize Md.aR cut c=ic at L a7 c0;unfold aU at t b7 c0;go_wp2_with fail;have b4:Hid (Below (w.heap.size+1) w1 (wr.alloc (.cells #[J c.a,J c.seq,sT f S.n g,.string c.b] 179))):=a4.out.alloc b8 _;have c2:Hid (af (wr.alloc (.cells #[J c.a,J c.seq,sT f S.n g,.string c.b] 179)) wr 179 #[J c.a,J c.seq,sT f S.n g,.string c.b]):=af.d wr wr rfl 179 _;have d6:Hid (Below (wr.heap.size+1) (wr.alloc (.cells #[J c.a,J c.seq,sT f S.n g,.string c.b] 179)) (wr.alloc (.cells #[J c.a,J c.seq,sT f S.n g,.string c.b] 179))):=Below.refl _ _;have a1:Hid ((wr.alloc (.cells #[J c.a,J c.seq,sT f S.n g,.string c.b] 179))=wr.heap.size+1):=by simp[Hid]
   generalize wr.alloc (.cells #[J c.a,J c.seq,sT f S.n g,.string c.b] 179)=w3 at b4 c2 d6 a1⊢;refine(c0.out _ (G.out _ b4).1).m ?_;rintro w4 a3;have b6:Hid (Below (w.heap.size+1) w1 w4):=b4.out.trans (a3.mono (by have:=a1.out;have:=b8.out;omega));have A:Hid (af w4 wr 179 #[J c.a,J c.seq,sT f S.n g,.string c.b]):=c2.out.c a3 (by rw[a1.out];omega);have c4:Hid (wr.heap.size+1<=w4):=by have:=a3.size;rw[a1.out]at this;exact this
   have d0:=A.out.z 0;have d1:=A.out.z 1;have d2:=A.out.z 2;have d3:=A.out.z 3;cases ic with
   |false=>
    go_wp2_with fail;refine⟨⟨k+1,ω,by go_num,L.out ς,b6⟩,by simp[intOf];omega⟩
   |true=>
   go_wp2_with fail;refine(b7.out _ (G.out _ b6).1).m ?_;rintro w5 b3;have b1:Hid (Below (w.heap.size+1) w1 w5):=b6.out.trans (b3.mono (by have:=c4.out;have:=b8.out;omega));have I:Hid (af w5 wr 179 #[J c.a,J c.seq,sT f S.n g,.string c.b]):=A.out.c b3 (by have:=c4.out;omega);have d0:=I.out.z 0;have d1:=I.out.z 1;have d2:=I.out.z 2;have d3:=I.out.z 3;have d:=ah ((G.out _ b1).2);have f0:=d.out.b 0;have f1:=d.out.b 1;have f2:=d.out.b 2;have f3:=d.out.b 3;have z0:=d.out.z 0;have z1:=d.out.z 1;have z2:=d.out.z 2;have z3:=d.out.z 3;have c7:=ah ((G.out _ b1).1);cases sb
   .go_wp2_with fail;refine⟨⟨k+1,ω,by go_num,L.out ς,b1⟩,by simp[intOf];omega⟩
   go_wp2_with fail;obtain⟨u,W⟩:=ql d (J c.a) (J c.seq) (sT f S.n g) (.string c.b);generalize ((((w5.setCell ⟨w,0,none⟩ (J c.a)).setCell ⟨w,1,none⟩ (J c.seq)).setCell ⟨w,2,none⟩ (sT f S.n g)).setCell ⟨w,3,none⟩ (.string c.b))=w6 at u W⊢;have e0:=u.z 0;have T:=u.z 1;have e3:=u.z 3;(try simp only[Exit.inBlock,Exit.then]);refine bodyPost_ret (v:=.tuple #[.agg #[J c.a,J c.seq,sT f S.n g,.string c.b],.bool true]) (by simp[results,results301,go_sem,e0,T,(u.z 2),e3]) rfl ?_;exact⟨c7.out.trans (W.c (yb _)),.inr ⟨_,c9,a7.out rfl,rfl⟩⟩
  have M:k=S.n:=ω;have d9:¬(k:Int)<(S.n:Int):=ω;have HE:=ah (a9.out λq hq=>B.out q ω);have f0:=d.out.b 0;have f1:=d.out.b 1;have f2:=d.out.b 2;have f3:=d.out.b 3;have z0:=d.out.z 0;have z1:=d.out.z 1;have z2:=d.out.z 2;have z3:=d.out.z 3;go_wp2_with fail;obtain⟨u,W⟩:=ql d (J 0) (J 0) (sN) (.string ⟨#[]⟩);generalize ((((wr.setCell ⟨w,0,none⟩ (J 0)).setCell ⟨w,1,none⟩ (J 0)).setCell ⟨w,2,none⟩ (sN)).setCell ⟨w,3,none⟩ (.string ⟨#[]⟩))=w6 at u W⊢;have e0:=u.z 0;have T:=u.z 1;have e2:=u.z 2;(try simp);refine bodyPost_ret (v:=.tuple #[.agg #[J 0,J 0,sN,.string ⟨#[]⟩],.bool false]) (by simp[results,results301,go_sem,e0,T,e2,(u.z 3)]) rfl ?_;exact⟨d4.out.trans (W.c (yb _)),.inl ⟨HE,rfl⟩⟩
variable {wr:Δ}{T:PS}{oT:Pl}
def PP.z(p:PP w F b S o):mj w b=S.j.length:=p.e.v
structure Dz(w:Δ)(F:ϑ)(b:Nat)(o:Pl)(S:PS)(cut:Υ)(wr:Δ)(T:PS)(oT:Pl):Prop where
 a:To w F b o wr T oT
 c:Wf T
 n:T.n=S.n
 k:∃k,k+Md.fI T.Ml=Md.fI S.Ml/\T.j.length=S.j.length+k/\S.Mb cut=PS.Mt (121-k) T cut
def Dz.step{e:Δ}{g:Pl}{m:Codec.Msg}(a:Wf S)(d:Dz w F b o S cut wr T oT)(i:T.Mh cut=some m)(h:To w F b o e (T.Ms m 2).M1 g):Dz w F b o S cut e (T.Ms m 2).M1 g:=by obtain⟨c,q,j,s,r,-⟩:=Md.dy i;obtain⟨l,t⟩:=d.c.k j s r (d.c.ms m c).a 2;obtain⟨k,x,u,p⟩:=d.k;have f:=Md.py a.g;have v:=a.c;refine⟨h,l.j,d.n,k+1,by show k+1+Md.fI (T.Ms m 2).Ml=_;omega,?_,?_⟩;show (T.j++[_]).length=_;simp only[yC,yx,yD];omega;rw[p,show 121-k=(121-(k+1))+1 by omega,PS.Mt,i]
def Dz.d(a:Wf S)(d:Dz w F b o S cut wr T oT)(f:T.Mh cut=none):S.Mb cut=T:=by obtain⟨k,g,h,e⟩:=d.k;have c:=Md.py a.g;have i:=a.c;rw[e,show 121-k=(121-(k+1))+1 by omega,PS.Mt,f]
def iF(p:PP w F b S o)(z:Wf S)(H cc:Nat)(I:¬o.M b H)(g:∀q,q<S.n->ε w H q (J (cut.getD q 0))):Do 287 #[pT b 0,sT H S.n cc] (.tuple #[]) w F b o (S.Mb cut):=by
 have v:=World.block_lt_of_cell? w _ (g S.c z.num);have d0:Hid (∃T f,Dz w F b o S cut w T f):=⟨S,o,To.f p,z,rfl,0,ω,ω,rfl⟩;have H1:Hid (∀wr T f,Dz w F b o S cut wr T f->Calls _ 301 _ wr λe w''=>Below _ wr w''/\((∃m i j r,(m,Value.slice i j r)∈f.l/\T.Mh cut=some m/\ϱ e (.tuple #[.agg #[J m.a,J m.seq,.slice i j r,.string m.b],.bool true]))\/(T.Mh cut=none/\ϱ e _))):=λwr T f d=>by have:=pK d.a.c d.c (cut:=cut) H cc λq X=>(World.cell?_of_block (a:=(aT H q)) (d.a.e.block H v I)).trans (g q (by rw[<-d.n];exact X));rw[d.n]at this;refine this.mono ?_;rintro e w''⟨C,y⟩;refine⟨C,?_⟩;rcases y with ⟨G,rfl⟩|⟨x,A,G,rfl⟩;exact .inr ⟨G,rfl⟩;obtain⟨i,j,r,hv⟩:=(d.a.c.e.d x A).1.a;exact .inl ⟨x.1,i,j,r,by rw[<-hv];exact A,G,by rw[<-hv];rfl⟩
 have H2:Hid (∀wr w'' T f(m:Codec.Msg)i j r,Dz w F b o S cut wr T f->Below wr wr w''->(m,Value.slice i j r)∈f.l->ϖ 138 #[pT b 0,.agg #[J m.a,J m.seq,.slice i j r,.string m.b],J 2] w'' λe E=>ϱ e (.tuple #[])/\∃Q,To w F b o E (T.Ms m 2) Q):=λwr w'' T f m i j r d C A=>
  (d.a.a (d.a.c.d C)).g (Ej (d.a.c.c C) d.c (d.a.c.p d.c A) ⟨_,_,_,rfl⟩ 2)
 have H3:Hid (∀wr E T f(m:Codec.Msg)Q,Dz w F b o S cut wr T f->T.Mh cut=some m->To w F b o E (T.Ms m 2) Q->ϖ 140 #[pT b 0] E λe V=>ϱ e (.tuple #[])/\(∃T' o',Dz w F b o S cut V T' o')/\mj V b=T.j.length+1):=λwr E T f m Q d W h=>by obtain⟨Z,q,X,G,h2,-⟩:=Md.dy W;refine(h.g (rT h.c (d.c.k X G h2 (d.c.ms m Z).a 2).1)).mono ?_;rintro e V⟨rfl,o4,h4⟩;refine⟨rfl,⟨_,_,d.step z W h4⟩,?_⟩;rw[h4.c.z];show (T.j++[_]).length=_;simp
 have HL:Hid (∀wr T f,Dz w F b o S cut wr T f->mj wr b=T.j.length/\T.j.length<=S.j.length+120):=λwr T f d=>⟨d.a.c.z,by obtain⟨k,G,h2,-⟩:=d.k;have:=Md.py z.g;have:=z.c;omega⟩;have HE:Hid (∀wr T f,Dz w F b o S cut wr T f->T.Mh cut=none->∀w'',Below wr wr w''->∃o',To w F b o w'' (S.Mb cut) o'):=λwr T f d W w'' C=>by rw[d.d z W];exact⟨_,d.a.a (d.a.c.d C)⟩
 clear p z g I v;go_enter func287,ntmps287;go_wp2_with fail;go_loopw [] (λwr=>∃T f,Dz w F b o S cut wr T f) λwr=>S.j.length+121-mj wr b
 case atStart=>exact d0.out
 case round=>
  obtain⟨T,f,d⟩:=hrel;have D:=ah d;have K:=H1.out _ _ _ d;have u:=HL.out _ _ _ d;clear d;go_wp2_with fail;refine K.mono ?_;rintro e w2⟨L,y⟩;have s:=ah L;clear K L;rcases y with ⟨m,i,j,r,A,t,rfl⟩|⟨U,rfl⟩
  .have HX:=ah A;have R:=ah t;clear A t;go_wp2_with fail;have N:Hid (Below wr wr (w2.alloc (.cells #[J m.a,J m.seq,.slice i j r,.string m.b] 179))):=s.out.alloc s.out.size _;have B:=H2.out _ _ _ _ _ _ _ _ D.out N.out HX.out;generalize w2.alloc _=E at N B⊢;refine B.mono ?_;rintro e V⟨rfl,Q,h3⟩;have O:=H3.out _ _ _ _ _ _ D.out R.out h3;clear B h3;go_wp2_with fail;refine O.mono ?_;rintro e w5⟨rfl,P,Y⟩;have a1:=ah P;clear O P;go_wp2_with fail;exact⟨a1.out,by rw[Y,u.1];have:=u.2;omega⟩
  have a0:=ah U;clear U;go_wp2_with fail;(try simp only[Exit.inBlock,Exit.then]);refine bodyPost_ret (results_none rfl _ _ _) rfl ?_;exact⟨rfl,HE.out _ _ _ D.out a0.out _ (s.out.alloc s.out.size _)⟩
def nh(p:PP w F b S o)(d:Wf S){e:Θ}(f:aE w (o.R F b) e cut)(a:cut.length=S.n):Do 287 #[pT b 0,e] (.tuple #[]) w F b o (S.Mb cut):=by obtain⟨c,h,rfl,-,-,i⟩:=mE f.d (by rw[a];exact d.n0);have:=iF p d c h (f.c c rfl).2 λq g=>i q (by rw[a];exact g);rw[a];exact this
def qK(p:PP w F b S o)(i:Wf S):Do 255 #[pT b 0] (.tuple #[]) w F b o S.MG:=by
 have l:Below _ w (w.alloc (.cells #[J 20] 3)):=(Below.refl _ _).alloc (yb _) _;have y:=(p.c l).a.a 1 _ rfl;simp only[yf,yd,ye]at y;have v:=Cn S.n _ 1 i.c i.n0 _ ((af.d w _ rfl 3 #[J 20]).a 0 _ rfl);have f:=ah v;have u:Hid (∀d g m,Below _ w d->w.heap.size<=g->(∀q,q<S.n->ε d g q (J 20))->Calls _ 287 _ d λe d=>ϱ e _/\∃z,To w F b o d S.MG z):=λd g m t s a=>
  (p.d t).g (iF (p.c t) i g m (λx=>by have:=p.h x;omega) λq k=>(a q k).trans (by simp[k]))
 clear p v i;go_enter func255,ntmps255;go_wp21;refine f.out.mono ?_;rintro e A⟨g,s,rfl,j,a⟩;have r:=u.out A g S.n (l.trans (j.mono ς)) (by have:=s;simp at this;omega) a;clear a f u;go_wp21;refine r.mono ?_;rintro e B⟨rfl,c⟩;have h:=ah c;clear r c;go_wp21;go_end0;exact⟨rfl,h.out⟩
def Cb(l:List Codec.Msg):(S.Mc l).n=S.n:=by
 unfold PS.Mc;induction l generalizing S with
 |nil=>rfl
 |cons m l a=>exact(a).trans (Md.DD m)
def tO(l:List Codec.Msg)(m:Codec.Msg):S.Mc (l++[m])=(S.Mc l).MX m:=by simp[PS.Mc]
def lB(p:PP w F b S o)(E:Wf S){l:List Codec.Msg}{L:Θ}(A:bI w (o.R F b) L l)(B:∀m∈l,MsgW S.n m)(U:l.length<=1000):Do 257 #[pT b 0,L] (.tuple #[]) w F b o (S.Mc l):=by
 have y:Hid (∀(k:Nat)wr o',k<l.length->To w F b o wr (S.Mc (l.take k)) o'->∃g j m r t u,L=sT g l.length j/\l[k]?=some m/\wr.cell? ⟨g,k*4,none⟩=some (J m.a)/\wr.cell? ⟨g,k*4+1,none⟩=some (J m.seq)/\wr.cell? ⟨g,k*4+2,none⟩=some (.slice r t u)/\wr.cell? ⟨g,k*4+3,none⟩=some (.string m.b)/\∀q,Below wr wr q->ϖ 254 #[pT b 0,.agg #[J m.a,J m.seq,.slice r t u,.string m.b]] q λe Z=>ϱ e (.tuple #[])/\∃o3,To w F b o Z (S.Mc (l.take (k+1))) o3):=λk wr o' v h=>by
  have K:=A.c h.d;rcases K with ⟨-,e⟩|⟨g,j,f,hg,hR,z⟩;subst e;simp at v;have O:l[k]?=some l[k]:=yh v;obtain⟨tv,X,h1,C,h3,T⟩:=z k _ O;obtain⟨r,t,u,rfl⟩:=T.a;refine⟨g,j,l[k],r,t,u,f,O,X,h1,C,h3,λq H=>?_⟩;have V:=E.f (l:=l.take k) λm A=>B m (List.mem_of_mem_take A);have e:S.Mc (l.take (k+1))=(S.Mc (l.take k)).MX l[k]:=by rw[<-tO,List.take_append_getElem v]
  rw[e];have s:=T.f (h.c.d H).d;exact(h.a (h.c.d H)).g (Ak (h.c.c H) V (by rw[Cb];exact B _ (AF v)) s)
 have P:Hid (∃o',To w F b o w (S.Mc (l.take 0)) o'):=⟨o,To.f p⟩;have I:Hid (l.take l.length=l):=AE;rcases A with ⟨⟨r,c,rfl⟩,rfl⟩|⟨g,j,rfl,-,-,-⟩
 .clear p E B y I;go_enter func257,ntmps257;go_wp2_with fail;go_loopw [8] (λi wr=>i=J 0/\wr=w) λ_ _=>0
  case atStart=>exact⟨rfl,rfl⟩
  case round=>
   obtain⟨rfl,rfl⟩:=hrel;go_wp2_with fail;go_end0;exact⟨rfl,P.out⟩
 clear p E B;go_enter func257,ntmps257;go_wp2_with fail;go_loopw [8] (λi wr=>∃k:Nat,k<=l.length/\i=J k/\∃o',To w F b o wr (S.Mc (l.take k)) o') λi _=>l.length-(intOf i).toNat
 case atStart=>exact⟨0,ω,rfl,P.out⟩
 case round=>
  obtain⟨k,v,rfl,o',s⟩:=hrel;by_cases D:k<l.length
  .have N:k<l.length:=ω;have a0:0<=k:=ω;obtain⟨g',M,m,r,t,u,f,-,c0,c1,c2,c3,z⟩:=y.out k wr o' D s;injection f with f _ hcap;injection f with f;injection f with f;subst f hcap;have Q:=z (wr.alloc (.cells #[J m.a,J m.seq,.slice r t u,.string m.b] 179)) ((Below.refl _ _).alloc (yb _) _);have x:=ah Q;clear z Q s y;go_wp2_with fail;refine x.out.mono ?_;rintro e w2⟨rfl,o2,C⟩;have H2:Hid (∃o',To w F b o w2 (S.Mc (l.take (k+1))) o'):=⟨o2,C⟩;clear C x;go_wp2_with fail;go_roundw
   case rel=>exact⟨k+1,ω,by go_num,H2.out⟩
   case measure=>simp[intOf];omega
  have W:¬(k:Int)<(l.length:Int):=ω;have G:k=l.length:=ω;have Y:Hid (∃o',To w F b o wr (S.Mc l) o'):=⟨o',by rw[G,I.out]at s;exact s⟩;clear s y I;go_wp2_with fail;go_end0;exact⟨rfl,Y.out⟩
variable {xs:aL}
def PP.u(p:PP w F b S o)(g:Wf S):S.o.length<=126:=by
 have r:=BG.1 p.e.i;rw[p.ms]at r;have E:=g.c;have k:∀d:List _,(∀m∈d,MsgW S.n m)->Mo.gv d->(d.map λm=>m.a.toNat*21+m.seq.toNat).Nodup:=by
  intro d;induction d with
  |nil=>intros;simp
  |cons x d v=>
   intro j i;have c:=K9.1 i;rw[yN,List.nodup_cons];refine⟨λh=>?_,v (λm l=>j m (by simp[l])) c.2⟩;obtain⟨y,q,e⟩:=yW.1 h;have a:=j x ς;have f:=j y (by simp[q]);obtain⟨t,-,u⟩:=a.s;obtain⟨G,-,H⟩:=f.s;have B:=a.b;have A:=a.a;have D:=f.b;have C:=f.a;exact c.1 y q ⟨ω,ω⟩
 have a:=k S.o g.ms r;have f:=Mo.mh 126 _ a λx h=>by obtain⟨m,l,rfl⟩:=yW.1 h;have a:=g.ms m l;obtain⟨t,z,u⟩:=a.s;have B:=a.b;have A:=a.a;omega
 simpa using f
def PP.b3(p:PP w F b S o):∀a∈S.o,∀c∈S.o,a.a=c.a->a.seq=c.seq->a=c:=λa l c j h g=>by obtain⟨i,d⟩:=p.a4 l;obtain⟨k,f⟩:=p.a4 j;by_cases e:(a,i)=(c,k);injection e;exact absurd (cu.2 ⟨h.symm,g.symm⟩) (pC p.e.i d f e)
def vl.a(p:PP w F b S o)(h:vl xs o.l):xs.map Prod.fst=S.Mp:=by refine Md.DI (by rw[<-p.ms];exact h.1.map _) (List.pairwise_map.2 (h.2.imp λ{x y}a=>?_)) p.b3;rw[Am,decide_eq_false_iff_not]at a;rw[Md.iC];omega
def fu.r{M a:Nat}{R:ϑ}(h:fu w M xs xs.length)(s:R M)(r:∀x∈xs,aE w R x.2 x.1.c):bI w R (sT M xs.length a) (xs.map Prod.fst):=by
 obtain⟨g,l,t,f⟩:=h;refine .inr ⟨M,a,by rw[yL],(yk.1 l).1,s,λj m q=>?_⟩;obtain⟨x,d,rfl⟩:∃x,xs[j]?=some x/\x.1=m:=by simpa using q
 have e:=(ym.1 d).1;obtain⟨k,p,n,i⟩:=f j x e d;have c:af w M 179 g:=l;rw[Nat.mul_comm 4 j]at k p n i;exact⟨x.2,c.a _ _ k,c.a _ _ p,c.a _ _ n,c.a _ _ i,r x (yy d)⟩
def gF(p:PP w F b S o)(j:Wf S):ϖ 166 #[pT b 0] w λe d=>Below w w d/\∃M a,w.heap.size<=M/\ϱ e (sT M a.length a.length)/\fu d M a a.length/\a.map Prod.fst=S.Mp/\∀x∈a,x∈o.l:=by
 have k:o.l.length<=126:=by have:=p.u j;rw[<-p.ms]at this;simpa using this
 refine(jQ p.e ω).mono ?_;rintro e d⟨i,M,a,h,f,rfl,c⟩;rw[<-f.1.length_eq]at c⊢;exact⟨i,M,a,h,rfl,c,f.a p,λx g=>f.1.mem_iff.1 g⟩
def PP.g(p:PP w F b S o){x:Nat}(a:w.heap.size<=x):o.R F b x:=⟨p.up x a,λh=>by have:=p.h h;omega⟩
def pR(p:PP w F b S o)(h:Wf S):ϖ 166 #[pT b 0] w λe d=>Below w w d/\∃v,ϱ e v/\bI d (o.R F b) v S.Mp:=by refine(gF p h).mono ?_;rintro e d⟨f,M,j,g,rfl,c,a,i⟩;refine⟨f,_,rfl,?_⟩;rw[<-a];exact c.r (p.g g) λx a=>(p.c f).a3 (i x a)
end
section
open Go.RowKit
open Md (PS Vote Bal Lft Wf MsgW)
variable {w w':Δ}{xb cb n cc M N:Nat}{cut:Υ}{f:Nat->Option (Codec.Msg×Θ)}
structure nC(w:Δ)(xb cb n cc:Nat)(cut:Υ):Prop where
 c:ε w xb 0 (sT cb n cc)
 d:∀q,q<n->ε w cb q (J (cut.getD q 0))
 g:xb<w
 e:cb<w
def nC.b(h:nC w xb cb n cc cut)(b:w'.heap[xb]?=w.heap[xb]?)(d:w'.heap[cb]?=w.heap[cb]?)(a:w.heap.size<=w'):nC w' xb cb n cc cut:=
 ⟨(World.cell?_of_block b).trans h.c,λq c=>(World.cell?_of_block d).trans (h.d q c),yg h.g a,yg h.e a⟩
def nC.a(h:nC w xb cb n cc cut)(a:Below w w w'):nC w' xb cb n cc cut:=h.b (a.block _ h.g) (a.block _ h.e) a.size
def sd(h:nC w xb cb n cc cut)(m:Codec.Msg)(g:Option Addr)(c d:Nat)(r:∃s:Nat,s<n/\m.a=s):ϖ 272 #[aU m (.slice g c d),pT xb 0] w λe p=>ϱ e (.bool (!Md.aR cut m))/\Below w w p:=by
 obtain⟨s,o,b⟩:=r;have i:Hid (Below w w (w.alloc (.cells #[J m.a,J m.seq,.slice g c d,.string m.b] 179))):=(Below.refl _ _).alloc (yb _) _;have t:=(h.a i.out).c;have l:Hid (ϖ 273 #[sT cb n cc,.agg #[J m.a,J m.seq,.slice g c d,.string m.b]] (w.alloc (.cells #[J m.a,J m.seq,.slice g c d,.string m.b] 179)) λe j=>ϱ e (.bool (Md.aR cut m))/\Below w w j):=by refine(lE cb n cc m g c d s _ o b ((h.a i.out).d s o)).mono ?_;rintro e q⟨rfl,a⟩;exact⟨by rw[show decide _=Md.aR cut m by unfold Md.aR;rw[b];rfl],i.out.trans (a.mono ς)⟩
 generalize Md.aR cut m=u at l;clear h b;unfold aU;go_enter func272,ntmps272;go_wp21;refine l.out.mono ?_;rintro e q⟨rfl,a⟩;have k:=ah a;clear a l;go_wp21;go_ret;exact⟨rfl,k.out⟩
structure In(w:Δ)(M N:Nat)(at_:Nat->Option (Codec.Msg×Θ)):Prop where
 c:∃cur:Array Θ,w.heap[M]?=some (.cells cur 179 (0,0))/\cur.size=N*4/\∀i x,at_ i=some x->i<N->cur[i*4]?=some (J x.1.a)/\cur[i*4+1]?=some (J x.1.seq)/\cur[i*4+2]?=some x.2/\cur[i*4+3]?=some (.string x.1.b)
def In.b(h:In w M N f){i:Nat}{x:Codec.Msg×Θ}(d:f i=some x)(l:i<N):w.cell? ⟨M,i*4,none⟩=some (J x.1.a)/\w.cell? ⟨M,i*4+1,none⟩=some (J x.1.seq)/\w.cell? ⟨M,i*4+2,none⟩=some x.2/\w.cell? ⟨M,i*4+3,none⟩=some (.string x.1.b):=by obtain⟨c,j,-,b⟩:=h.c;obtain⟨g,m,k,e⟩:=b i x d l;have a:af w M 179 c:=j;exact⟨a.a _ _ g,a.a _ _ m,a.a _ _ k,a.a _ _ e⟩
def In.e(h:In w M N f):M<w:=by obtain⟨a,b,-⟩:=h.c;exact(yk.1 b).1
def In.a(h:In w M N f)(d:w'.heap[M]?=w.heap[M]?):In w' M N f:=by obtain⟨a,e,c,b⟩:=h.c;exact⟨a,d.trans e,c,b⟩
def ED{cap:Nat}(h:nC w xb cb n cc cut)(b:aL)(t:In w M b.length λi=>b[i]?)(H:∀x∈b,MsgW n x.1)(U:∀x∈b,∃l o p,x.2=.slice l o p)(hl:b.length<=1000):ϖ 295 #[sT M b.length cap,.func (.func 272) #[] #[pT xb 0]] w λe F=>Below w w F/\((ϱ e (J (-1))/\∀x∈b,Md.aR cut x.1=true)\/∃k:Nat,ϱ e (J k)/\k<b.length/\(∀x∈b.take k,Md.aR cut x.1=true)/\∀x,b[k]?=some x->Md.aR cut x.1=false):=by
 have eg:=enters_of func272 κ rfl;have Q:Hid (∀(k:Nat)wr,k<b.length->Below w w wr->∃m l o p,b[k]?=some (m,.slice l o p)/\wr.cell? ⟨M,k*4,none⟩=some (J m.a)/\wr.cell? ⟨M,k*4+1,none⟩=some (J m.seq)/\wr.cell? ⟨M,k*4+2,none⟩=some (.slice l o p)/\wr.cell? ⟨M,k*4+3,none⟩=some (.string m.b)/\ϖ 272 #[.agg #[J m.a,J m.seq,.slice l o p,.string m.b],pT xb 0] wr λe F=>ϱ e (.bool (!Md.aR cut m))/\Below w w F):=λk wr A r=>by have d:=yh A;have O:=AF A;obtain⟨l,o,p,I⟩:=U _ O;obtain⟨R,T,W,S⟩:=(t.a (r.block _ t.e)).b d A;refine⟨b[k].1,l,o,p,by rw[d,<-I],R,T,by rw[<-I];exact W,S,?_⟩;refine(sd (h.a r) b[k].1 l o p (H _ O).s).mono ?_;rintro e G⟨rfl,c⟩;exact⟨rfl,r.trans (c.mono r.size)⟩
 have L:Hid (∀(k:Nat)x,b[k]?=some x->Md.aR cut x.1=true->(∀x∈b.take k,Md.aR cut x.1=true)->∀x∈b.take (k+1),Md.aR cut x.1=true):=λk x d D Z y z=>by obtain⟨A,d⟩:=ym.1 d;rw[<-List.take_append_getElem A,yz,yu]at z;rcases z with z|z;exact Z y z;rw[z,d];exact D
 clear h t H U;go_enter func295,ntmps295;go_wp2_with fail;go_loopw [5,8] (λ_ i wr=>∃k:Nat,k<=b.length/\i=J k/\(∀x∈b.take k,Md.aR cut x.1=true)/\Below _ w wr) λ_ i _=>b.length-(intOf i).toNat
 case atStart=>exact⟨0,ω,rfl,ς,Below.refl _ _⟩
 case round=>
  obtain⟨k,A,rfl,q,r⟩:=hrel;have g:=ah q;have HB:=ah r;clear q;by_cases B:k<b.length
  .have K:k<b.length:=ω;have a0:0<=k:=ω;obtain⟨m,l,o,p,d,R,T,W,S,D⟩:=Q.out k wr B r;have s:=ah D;have P:=ah λe=>L.out k _ d e g.out;have V:Hid (Md.aR cut m=false->∀x,b[k]?=some x->Md.aR cut x.1=false):=λe x C=>by rw[d]at C;cases C;exact e
   clear r D Q L d;generalize Md.aR cut m=Y at s P V;cases Y with
   |true=>
    go_wp2_with (go_at_call 272;refine s.out.mono ?_;rintro e G⟨rfl,c⟩;have u:=ah c;clear c);go_roundw
    case rel=>exact⟨k+1,ω,by go_num,P.out trivial,u.out⟩
    case measure=>simp[intOf];omega
   |false=>
    go_wp2_with (go_at_call 272;refine s.out.mono ?_;rintro e G⟨rfl,c⟩;have u:Hid (Below w w G):=c;clear c);go_ret;exact⟨u.out,.inr ⟨k,rfl,B,g.out,V.out trivial⟩⟩
  have X:¬(k:Int)<(b.length:Int):=ω;have E:k=b.length:=ω;go_wp2_with fail;go_ret;exact⟨HB.out,.inl ⟨rfl,λa v d=>g.out (a,v) (by rw[E,AE];exact d)⟩⟩
def BO(w:Δ)(M o m c:Nat)(s:m≠0){a:Array Θ}(p:w.heap[M]?=some (.cells a 179 (0,0)))(y:o+m*4<=a.size):∃l,(Builtin.clear_ #[163] 0 #[.slice (some ⟨M,o,none⟩) m c]).run prog w=.ok (.tuple #[]) l/\w.grownBy l (some M)/\∃b:Array Θ,l.heap[M]?=some (.cells b 179 (0,0))/\b.size=a.size/\∀i,i<o->b[i]?=a[i]?:=by
 have r:=zeroValue179 w;have d:(Builtin.zeroCells (Value.agg #[J 0,J 0,sN,.string ⟨#[]⟩]).cells m).toList.length=m*4:=by rw[AG,size_zeroCells];rfl
 have g:∀v∈(Builtin.zeroCells (Value.agg #[J 0,J 0,sN,.string ⟨#[]⟩]).cells m).toList,v.oneCell'=true:=by
  intro v n;simp only[Builtin.zeroCells,yV,yW]at n;obtain⟨i,-,rfl⟩:=n;have:i%(Value.agg #[J 0,J 0,sN,.string ⟨#[]⟩]).cells.size<4:=Nat.mod_lt _ θ;generalize i%(Value.agg _).cells.size=j at this;match j,this with
  |0,_=>rfl
  |1,_=>rfl
  |2,_=>rfl
  |3,_=>rfl
 have f:=run_storeCells_at prog M o 179 _ 0 a w p (by rw[d];omega) g;generalize k:(Builtin.zeroCells _ m).toList=t at f d;generalize q:(a.toList.take (o+0)++t++a.toList.drop _).toArray=R at f;refine⟨w.setRow M R,?_,⟨rfl,rfl,rfl,by simp[World.setRow],λx _ h=>setRow_other _ _ _ _ λe=>h (by rw[e])⟩,R,setRow_heap w M _ _ 179 _ p,?_,λi u=>?_⟩
 .cases m with
  |zero=>exact absurd rfl s
  |succ m=>
   simp only[Builtin.clear_,ya7,AH,Sem.run_bind,run_underlying underlying163,Result.andThen,r,k,f,Sem.run_pure]
 rw[<-q];simp only[yJ,yC,xk,I5,d,AG];omega;rw[<-q,ya7,I3,y7 (by simp;omega),List.getElem?_take,if_pos ω,Array.getElem?_toList]
def In.put{w l:Δ}{M N i:Nat}{f:Nat->Option (Codec.Msg×Θ)}(h:In w M N f)(x:Codec.Msg×Θ)(o:l=(((w.setCell ⟨M,i*4,none⟩ (J x.1.a)).setCell ⟨M,i*4+1,none⟩ (J x.1.seq)).setCell ⟨M,i*4+2,none⟩ x.2).setCell ⟨M,i*4+3,none⟩ (.string x.1.b)):In l M N λa=>if a=i then some x else f a:=by
 obtain⟨c,v,m,k⟩:=h.c;have r:af w M 179 c:=v;have g:=(((r.e (i*4) (J x.1.a)).e (i*4+1) (J x.1.seq)).e (i*4+2) x.2).e (i*4+3) (.string x.1.b);rw[<-o]at g;refine⟨_,g,by simpa using m,λa y j z=>?_⟩;by_cases e:a=i
 .subst e;rw[if_pos rfl]at j;cases j;simp only[LK,Array.size_setIfInBounds];refine⟨?_,?_,?_,?_⟩<;>simp (config:={decide:=true}) [m]<;>omega
 rw[if_neg e]at j;obtain⟨u,s,A,t⟩:=k a y j z;have n:∀p q,p<4->q<4->i*4+p≠a*4+q:=λp q B d=>ω;have b:∀q,q<4->((((c.setIfInBounds (i*4) (J x.1.a)).setIfInBounds (i*4+1) (J x.1.seq)).setIfInBounds (i*4+2) x.2).setIfInBounds (i*4+3) (.string x.1.b))[a*4+q]?=c[a*4+q]?:=λq d=>by rw[yP (n 3 q θ d),yP (n 2 q θ d),yP (n 1 q θ d),yP (by have:=n 0 q θ d;simpa using this)]
 exact⟨(b 0 θ).trans u,(b 1 θ).trans s,(b 2 θ).trans A,(b 3 θ).trans t⟩
def In.d{w:Δ}{M N:Nat}{f g:Nat->Option (Codec.Msg×Θ)}(h:In w M N f)(k:∀a x,a<N->g a=some x->f a=some x):In w M N g:=by obtain⟨c,j,i,b⟩:=h.c;exact⟨c,j,i,λa x e d=>b a x (k a x d e) d⟩
variable {xs:aL}{j:Nat}{x:Codec.Msg×Θ}
def bq(cut:Υ)(xs:aL)(j:Nat):aL:=(xs.take j).filter λx=>Md.aR cut x.1
def rV(a:Υ)(b:aL)(j:Nat):(bq a b j).length<=j:=yr (G3 _ _) (by simp;omega)
def ff(a:xs[j]?=some x):bq cut xs (j+1)=if Md.aR cut x.1 then bq cut xs j++[x] else bq cut xs j:=by obtain⟨b,rfl⟩:=ym.1 a;unfold bq;rw[<-List.take_append_getElem b,La];cases h:Md.aR cut xs[j].1<;>simp[h]
def fh(cut:Υ)(xs:aL)(j a:Nat):Option (Codec.Msg×Θ):=if a<(bq cut xs j).length then (bq cut xs j)[a]? else if j<=a then xs[a]? else none
def EN(d:xs[j]?=some x)(e:Md.aR cut x.1=false)(a:Nat)(y:Codec.Msg×Θ)(h:fh cut xs (j+1) a=some y):fh cut xs j a=some y:=by
 unfold fh at h⊢;rw[ff d,e]at h;simp at h;split
 .rename_i b;rw[if_pos b]at h;exact h
 rename_i b
 rw[if_neg b]at h;by_cases c:j+1<=a;rw[if_pos c]at h;rw[if_pos ω];exact h;rw[if_neg c]at h;cases h
def Gs(d:xs[j]?=some x)(g:Md.aR cut x.1=true)(a:Nat)(y:Codec.Msg×Θ)(h:fh cut xs (j+1) a=some y):(if a=(bq cut xs j).length then some x else fh cut xs j a)=some y:=by unfold fh at h⊢;rw[ff d,g]at h;simp at h;have f:=rV cut xs j;by_cases e:a=(bq cut xs j).length;subst e;rw[if_pos rfl];rw[if_pos ω,Fl (yb _)]at h;simpa using h;rw[if_neg e];by_cases b:a<(bq cut xs j).length;rw[if_pos b];rw[if_pos ω,y7 b]at h;exact h;rw[if_neg b];rw[if_neg ω]at h;by_cases c:j+1<=a;rw[if_pos c]at h;rw[if_pos ω];exact h;rw[if_neg c]at h;cases h
def vH{w:Δ}{xb cb n cc M:Nat}(h:nC w xb cb n cc cut)(b4:xb≠M)(c5:cb≠M)(xs:aL)(N:In w M xs.length λi=>xs[i]?)(hW:∀x∈xs,MsgW n x.1)(hT:∀x∈xs,∃s t u,x.2=.slice s t u)(hl:xs.length<=1000):ϖ 271 #[sT M xs.length xs.length,.func (.func 272) #[] #[pT xb 0]] w λe p=>ϱ e (sT M (xs.filter λx=>Md.aR cut x.1).length xs.length)/\w.grownBy p (some M)/\In p M xs.length λi=>(xs.filter λx=>Md.aR cut x.1)[i]?:=by
 have eg:=enters_of func272 κ rfl;have a1:=N.e;have a5:=ah ((ED (cap:=xs.length) h xs N hW hT hl));have K:Hid (∀p,Below w w p->(∀x∈xs,Md.aR cut x.1=true)->xs.filter (λx=>Md.aR cut x.1)=xs/\w.grownBy p (some M)/\In p M xs.length λi=>(xs.filter λx=>Md.aR cut x.1)[i]?):=λp v Y=>by rw[(List.filter_eq_self.2 Y)];exact⟨rfl,⟨v.os,v.tape,v.output,v.size,λk A _=>v.block k A⟩,N.a (v.block M a1)⟩
 have a2:Hid (∀p(k:Nat),Below w w p->k<xs.length->(∀x∈xs.take k,Md.aR cut x.1=true)->(∀x,xs[k]?=some x->Md.aR cut x.1=false)->k=(bq cut xs (k+1)).length/\w.grownBy p (some M)/\In p M xs.length (fh cut xs (k+1))/\(bq cut xs xs.length).length<xs.length):=λp k v A Y hf=>by
  have G:xs[k]?=some xs[k]:=yh A;have e0:bq cut xs k=xs.take k:=List.filter_eq_self.2 Y;have e1:bq cut xs (k+1)=xs.take k:=by rw[ff G,hf _ G,e0];rfl
  refine⟨by rw[e1,xk];omega,⟨v.os,v.tape,v.output,v.size,λk A _=>v.block k A⟩,(N.a (v.block M a1)).d λa y d7 F=>?_,?_⟩
  .unfold fh at F;rw[e1]at F;split at F
   .rename_i h1
    rw[List.getElem?_take,if_pos (by rw[xk]at h1;omega)]at F;exact F
   split at F;exact F;cases F
  unfold bq;rw[AE];refine Nat.lt_of_le_of_ne (G3 _ _) λe=>?_;have:=List.length_filter_eq_length_iff.1 e xs[k] (AF A);rw[hf _ G]at this;cases this
 have HC:Hid (∀(j:Nat)wr,j<xs.length->w.grownBy wr (some M)->In wr M xs.length (fh cut xs j)->∃m s t u,xs[j]?=some (m,.slice s t u)/\wr.cell? ⟨M,j*4,none⟩=some (J m.a)/\wr.cell? ⟨M,j*4+1,none⟩=some (J m.seq)/\wr.cell? ⟨M,j*4+2,none⟩=some (.slice s t u)/\wr.cell? ⟨M,j*4+3,none⟩=some (.string m.b)/\∀p,Below wr wr p->ϖ 272 #[.agg #[J m.a,J m.seq,.slice s t u,.string m.b],pT xb 0] p λe c4=>ϱ e (.bool (!Md.aR cut m))/\Below p p c4):=λj wr hj O hmid=>by
  have G:xs[j]?=some xs[j]:=yh hj;have hm:=AF hj;obtain⟨s,t,u,hv⟩:=hT _ hm;have c9:=rV cut xs j;have P:fh cut xs j j=some xs[j]:=by unfold fh;rw[if_neg ω,if_pos (yb _)];exact G
  obtain⟨c0,c1,c2,c3⟩:=hmid.b P hj;refine⟨xs[j].1,s,t,u,by rw[G,<-hv],c0,c1,by rw[<-hv];exact c2,c3,λp v=>?_⟩;exact sd ((h.b (O.block xb h.g λe=>b4 (by injection e)) (O.block cb h.e λe=>c5 (by injection e)) O.size).a v) xs[j].1 s t u (hW _ hm).s
 have a6:Hid (∀wr,w.grownBy wr (some M)->In wr M xs.length (fh cut xs xs.length)->(bq cut xs xs.length).length<xs.length->∃H,(Builtin.clear_ #[163] 0 #[.slice (some ⟨M,(bq cut xs xs.length).length*4,none⟩) (xs.length-(bq cut xs xs.length).length) (xs.length-(bq cut xs xs.length).length)]).run prog wr=.ok (.tuple #[]) H/\w.grownBy H (some M)/\In H M xs.length λi=>(bq cut xs xs.length)[i]?):=λwr O hmid T=>by obtain⟨Q,hc,hs,P⟩:=hmid.c;obtain⟨H,hr,S,a8,c6,c7,W⟩:=BO wr M ((bq cut xs xs.length).length*4) (xs.length-(bq cut xs xs.length).length) (xs.length-(bq cut xs xs.length).length) ω hc (by rw[hs];omega);refine⟨H,hr,O.trans S,a8,c6,by rw[c7,hs],λi x G hi=>?_⟩;have b9:=(ym.1 G).1;obtain⟨h0,h1,h2,h3⟩:=P i x (by unfold fh;rw[if_pos b9];exact G) hi;exact⟨(W _ ω).trans h0,(W _ ω).trans h1,(W _ ω).trans h2,(W _ ω).trans h3⟩
 have D:Hid (∀wr(i:Nat)f,In wr M xs.length f->i<xs.length->∀q,wr.frozen? ⟨M,i*4+q,none⟩=false):=λwr i f hmid hi q=>by obtain⟨Q,hc,hs,P⟩:=hmid.c;exact frozen_of_row wr M (i*4+q) Q 179 hc
 have X:Hid (∀wr(i:Nat)f,In wr M xs.length f->i<xs.length->∀q,q<4->∃c,wr.cell? ⟨M,i*4+q,none⟩=some c):=λwr i f hmid hi q hq=>by
  obtain⟨Q,hc,hs,P⟩:=hmid.c;have hB:af wr M 179 Q:=hc;have T:i*4+q<Q.size:=by rw[hs];omega
  exact⟨_,hB.a _ _ (yl T)⟩
 have b0:Hid (bq cut xs xs.length=xs.filter λx=>Md.aR cut x.1):=by unfold Hid bq;rw[AE]
 go_enter func271,ntmps271;go_wp2_with fail;refine a5.out.mono ?_;rintro e H⟨U,b2⟩;rcases b2 with ⟨rfl,Y⟩|⟨k,rfl,A,Y,hf⟩
 .obtain⟨e1,e2,e3⟩:=K.out H U Y;have HE:Hid (xs.filter (λx=>Md.aR cut x.1)=xs/\w.grownBy H (some M)/\In H M xs.length λi=>(xs.filter λx=>Md.aR cut x.1)[i]?):=⟨e1,e2,e3⟩;go_wp2_with fail;go_ret;exact⟨by rw[HE.out.1];rfl,HE.out.2⟩
 obtain⟨e1,e2,e3,e4⟩:=a2.out H k U A Y hf;have HK:=ah e4;have H0:Hid (k=(bq cut xs (k+1)).length/\w.grownBy H (some M)/\In H M xs.length (fh cut xs (k+1))):=⟨e1,e2,e3⟩;have e8:((k:Int)== -1)=false:=by rw[beq_eq_false_iff_ne];omega
 clear Y hf e1 e2 e3 e4 a2 K a5 U;go_wp2_with fail;go_loopw [5,6] (λui uj wr=>∃i j:Nat,ui=J i/\uj=J j/\j<=xs.length/\i=(bq cut xs j).length/\i<=j/\w.grownBy wr (some M)/\In wr M _ (fh cut xs j)) λ_ uj _=>xs.length-(intOf uj).toNat
 case atStart=>exact⟨k,k+1,rfl,by go_num,ω,H0.out.1,ω,H0.out.2⟩
 case round=>
  obtain⟨i,j,rfl,rfl,hj,hi,e7,O,hmid⟩:=hrel;have B:=ah hi;have HG:=ah O;have HM:=ah hmid;clear hi;by_cases T:j<xs.length
  .have c8:(j:Int)<(xs.length:Int):=ω;have d6:(0:Int)<=(j:Int):=ω;have b8:(0:Int)<=(i:Int):=ω;have b7:(i:Int)<(xs.length:Int):=ω;obtain⟨m,s,t,u,G,c0,c1,c2,c3,hc⟩:=HC.out j wr T O hmid;have a4:Below wr wr (wr.alloc (.cells #[J m.a,J m.seq,.slice s t u,.string m.b] 179)):=(Below.refl _ _).alloc (yb _) _;have r:Hid (ϖ 272 _ _ _):=hc _ a4;have HX:=ah G;have a3:Hid (af (wr.alloc (.cells #[J m.a,J m.seq,.slice s t u,.string m.b] 179)) wr 179 #[J m.a,J m.seq,.slice s t u,.string m.b]):=af.d wr wr rfl 179 _;have L:Hid ((wr.alloc (.cells #[J m.a,J m.seq,.slice s t u,.string m.b] 179))=wr.heap.size+1):=by simp[Hid]
   have V:=ah a4;cases C:Md.aR cut m
   .rw[C]at r;go_wp2_with fail;generalize wr.alloc (.cells #[J m.a,J m.seq,.slice s t u,.string m.b] 179)=w3 at r a3 L V⊢;refine r.out.m ?_;rintro z E;have l:Hid (Below wr wr z):=V.out.trans (E.mono (by rw[L.out];omega));have HR:Hid (i=(bq cut xs (j+1)).length/\w.grownBy z (some M)/\In z M xs.length (fh cut xs (j+1))):=by refine⟨by rw[ff HX,C];exact B,HG.out.trans ⟨l.out.os,l.out.tape,l.out.output,l.out.size,λk A _=>l.out.block k A⟩,(HM.out.a (l.out.block M HM.out.e)).d λa y _ F=>EN HX C a y F⟩
    go_wp2_with fail;exact⟨⟨i,j+1,rfl,by go_num,ω,HR.out.1,ω,HR.out.2⟩,by simp[intOf];omega⟩
   rw[C]at r;go_wp2_with fail;generalize wr.alloc (.cells #[J m.a,J m.seq,.slice s t u,.string m.b] 179)=w3 at r a3 L V⊢;refine r.out.m ?_;rintro z E;have l:Hid (Below wr wr z):=V.out.trans (E.mono (by rw[L.out];omega));have I:=a3.out.c E (by rw[L.out];omega);have d0:=I.z 0;have d1:=I.z 1;have d2:=I.z 2;have d3:=I.z 3;have o:=ah (HM.out.a (l.out.block M HM.out.e));have f0:=D.out z i _ o ω 0;have f1:=D.out z i _ o ω 1;have f2:=D.out z i _ o ω 2;have f3:=D.out z i _ o ω 3;simp at f0;obtain⟨g0,b5⟩:=X.out z i _ o ω 0 θ;obtain⟨g1,d9⟩:=X.out z i _ o ω 1 θ;obtain⟨g2,S⟩:=X.out z i _ o ω 2 θ;obtain⟨g3,e6⟩:=X.out z i _ o ω 3 θ;simp at b5;have R:=ah (HG.out.trans ⟨l.out.os,l.out.tape,l.out.output,l.out.size,λk A _=>l.out.block k A⟩);have HR:Hid (∀w5,w5=(((z.setCell ⟨M,i*4,none⟩ (J m.a)).setCell ⟨M,i*4+1,none⟩ (J m.seq)).setCell ⟨M,i*4+2,none⟩ (.slice s t u)).setCell ⟨M,i*4+3,none⟩ (.string m.b)->i+1=(bq cut xs (j+1)).length/\w.grownBy w5 (some M)/\In w5 M xs.length (fh cut xs (j+1))):=λw5 e5=>by
    refine⟨by rw[ff HX,C];simp[B.out],?_,(o.out.put (m,.slice s t u) e5).d λa y _ F=>?_⟩
    .rw[e5];exact⟨R.out.os,R.out.tape,R.out.output,by simpa using R.out.size,λk A a7=>by have Z:k≠M:=λe=>a7 (by rw[e]);rw[Below.heap_setCell _ _ _ _ Z,Below.heap_setCell _ _ _ _ Z,Below.heap_setCell _ _ _ _ Z,Below.heap_setCell _ _ _ _ Z];exact R.out.block k A a7⟩
    have:=Gs HX C a y F;rw[B.out];exact this
   go_wp2_with fail;obtain⟨r1,r2,r3⟩:=HR.out _ rfl;exact⟨⟨i+1,j+1,by go_num,by go_num,ω,r1,ω,r2,r3⟩,by simp[intOf];omega⟩
  have d4:¬(j:Int)<(xs.length:Int):=ω;have b3:j=xs.length:=ω;subst b3;obtain⟨b1,b6,S,a0⟩:=a6.out wr O hmid HK;have HR:Hid (w.grownBy b1 (some M)/\In b1 M xs.length λi=>(bq cut xs xs.length)[i]?):=⟨S,a0⟩;rw[<-B.out]at b6;have b8:(0:Int)<=(i:Int):=ω;have b7:(i:Int)<=(xs.length:Int):=ω;have d5:¬xs.length=i:=by have:=HK.out;have:=B.out;omega
  have d8:i<=xs.length:=ω;go_wp2_with fail;go_ret;obtain⟨r1,r2⟩:=HR.out;rw[b0.out]at r2;have e:=B.out;rw[b0.out]at e;rw[<-e];exact⟨rfl,r1,r2⟩
variable {F:ϑ}{b:Nat}{S:PS}{o:Pl}
def fu.in(h:fu w M xs xs.length):In w M xs.length λi=>xs[i]?:=by obtain⟨c,g,f,a⟩:=h;refine⟨c,g,by rw[f,Nat.mul_comm],λi x d e=>?_⟩;have:=a i x e d;rw[Nat.mul_comm 4 i]at this;exact this
def In.r{N a:Nat}{R:ϑ}(h:In w M N λi=>xs[i]?)(q:xs.length<=N)(n:R M)(k:∀x∈xs,aE w R x.2 x.1.c):bI w R (sT M xs.length a) (xs.map Prod.fst):=by
 refine .inr ⟨M,a,by rw[yL],h.e,n,λj m g=>?_⟩;obtain⟨x,c,rfl⟩:∃x,xs[j]?=some x/\x.1=m:=by simpa using g
 have e:=(ym.1 c).1;obtain⟨f,p,l,d⟩:=h.b c ω;exact⟨x.2,f,p,l,d,k x (yy c)⟩
def lA(p:PP w F b S o)(z:Wf S){a:Υ}{O:Θ}(t:aE w (o.R F b) O a)(D:a.length=S.n):ϖ 240 #[pT b 0,O] w λe u=>Below w w u/\∃v,ϱ e v/\bI u (o.R F b) v (S.Mm a):=by
 obtain⟨K,E,rfl,-,s,P⟩:=mE t.d (by rw[D];exact z.n0);rw[D];have C:Below _ w (w.alloc (.cells #[sT K S.n E] 69)):=(Below.refl _ _).alloc (yb _) _;have c:(w.alloc (.cells #[sT K S.n E] 69)).heap.size=w.heap.size+1:=ς;have L:=ah (gF (p.c C) z);have j:nC _ _ K S.n E a:=⟨(af.d w _ rfl 69 _).a 0 _ rfl,λq V=>(C.cell s).trans (P q (by rw[D];exact V)),by rw[c];omega,by rw[c];omega⟩;have I:Hid (∀m M i,Below _ _ m->w.heap.size+1<=M->fu m M i _->i.map Prod.fst=S.Mp->(∀x∈i,x∈o.l)->Calls _ 271 _ m λe u=>Below _ w u/\∃v,ϱ e v/\bI u _ v (S.Mm a)):=λm M i N G h g d=>by
  have T:i.length<=126:=by have X:=p.u z;have W:=congrArg List.length g;rw[yL,Md.ll]at W;omega
  refine(vH (j.a N) ω ω i h.in (λx g=>p.p z (d x g)) (λx g=>(p.e.d x (d x g)).1.a) ω).mono ?_;rintro e H⟨rfl,B,A⟩;have f:=(C.trans (N.mono (by rw[c];omega))).trans ⟨B.os,B.tape,B.output,B.size,λk Y=>B.block k (by have:=N.size;rw[c]at this;omega) λe=>by injection e with e;omega⟩;refine⟨f,_,rfl,?_⟩;have e:S.Mm a=(i.filter λx=>Md.aR a x.1).map Prod.fst:=by rw[cL,g];rfl
  rw[e];exact A.r (G3 _ _) (p.g ω) λx g=>(p.c f).a3 (d x (yM.1 g).1)
 clear p z t D P j s;go_enter func240,ntmps240;go_wp21;generalize w.alloc _=Z at L I c C⊢;refine L.out.mono ?_;rintro e m⟨y,M,i,G,rfl,h,g,d⟩;have Q:=I.out m M i y (by rw[<-c];exact G) h g d;clear L I y G h g d;go_wp21;refine Q.mono ?_;rintro e H⟨f,v,rfl,t⟩;have U:Hid (Below w w H/\bI H (o.R F b) v (S.Mm a)):=⟨f,t⟩;clear Q f t;go_wp21;go_ret;exact⟨U.out.1,_,rfl,U.out.2⟩
open Md (Sends)
def rX(S:PS)(q:Nat)(T:PS)(m:Codec.Msg):PS:=if S.Nl q m then T.MN q m else T
def eD(S:PS)(q k:Nat):PS:=(S.Mp.take k).foldl (rX S q) S
def vZ(S:PS)(q k:Nat):Sends S (eD S q k) k:=by
 have h:=Md.bK (rX S q) 1 (λT m=>by unfold rX;split;exact Md.ak T _;exact(Sends.f T).c ω) (S.Mp.take k) S
 exact h.c (by rw[xk];omega)
def qb{q k:Nat}{m:Codec.Msg}(c:S.Mp[k]?=some m):eD S q (k+1)=rX S q (eD S q k) m:=by obtain⟨a,rfl⟩:=ym.1 c;unfold eD;rw[<-List.take_append_getElem a,List.foldl_append];rfl
def Cf(q:Nat):eD S q S.Mp.length=S.Mz q:=by unfold eD;rw[AE];rfl
def qj(p:PP w F b S o)(U:Wf S)(hs:S.e.length<=900000)(q:Nat)(hq:q<S.n):Do 112 #[pT b 0,J q] (.tuple #[]) w F b o (S.Mz q):=by
 have b5:=ah (gF p U);have c9:S.Mp.length<=126:=by rw[Md.ll];exact p.u U
 have u:Hid (∀g M xs,Below w w g->w.heap.size<=M->fu g M xs xs.length->xs.map Prod.fst=S.Mp->(∀x∈xs,x∈o.l)->xs.length=S.Mp.length/\(∃o',To g F b o g (eD S q 0) o')/\(∀wr o',To g F b o wr (eD S q S.Mp.length) o'->∃o',To w F b o wr (S.Mz q) o')/\∀(k:Nat)wr o',k<xs.length->To g F b o wr (eD S q k) o'->∃(m:Codec.Msg)(B:Option Addr)(C D s r kb:Nat),m.a=s/\s<S.n/\(ε wr b 14 (sT kb S.n S.n)/\ε wr kb q (sT r S.n S.n)/\ε wr r s (J ((S.q.getD q []).getD s 0))/\b<wr/\kb<wr/\r<wr)/\(wr.cell? ⟨M,k*4,none⟩=some (J m.a)/\wr.cell? ⟨M,k*4+1,none⟩=some (J m.seq)/\wr.cell? ⟨M,k*4+2,none⟩=some (.slice B C D)/\wr.cell? ⟨M,k*4+3,none⟩=some (.string m.b))/\(¬(S.q.getD q []).getD s 0<m.seq->∀I,Below wr wr I->∃Q,To g F b o I (eD S q (k+1)) Q)/\((S.q.getD q []).getD s 0<m.seq->∀I,Below wr wr I->ϖ 141 #[pT b 0,J q,.agg #[J m.a,J m.seq,.slice B C D,.string m.b]] I λe w3=>ϱ e (.tuple #[])/\∃Q,To g F b o w3 (eD S q (k+1)) Q)):=λg M xs a7 hM a1 hx E=>by
  have p1:=p.c a7;refine⟨by rw[<-hx,yL],⟨o,To.f p1⟩,λwr o' h=>⟨o',(p.d a7).a (by rw[Cf]at h;exact h)⟩,λk wr o' hk h=>?_⟩;have a5:=yh hk;have a4:S.Mp[k]?=some xs[k].1:=by rw[<-hx,yZ,a5];rfl
  have P:=E _ (AF hk);obtain⟨B,C,D,hv⟩:=(p.e.d _ P).1.a;obtain⟨s,b0,t⟩:=(p.p U P).s;have G:=vZ S q k;have b9:(eD S q k).q=S.q:=by rw[G.e]
  have hn:(eD S q k).n=S.n:=by rw[G.e]
  have y:=h.c.e;rw[b9]at y;obtain⟨r,hr,b3,T,a2⟩:=y.m (q:=q) (by show q<(eD S q k).n;rw[hn];exact hq);have a8:In wr M xs.length λi=>xs[i]?:=a1.in.a (h.e.block M a1.in.e λe=>by have:=p.h e;omega);obtain⟨c0,c1,c2,c3⟩:=a8.b a5 hk;have b4:S.Nl q xs[k].1=decide ((S.q.getD q []).getD s 0<xs[k].1.seq):=by unfold PS.Nl;rw[t];rfl
  refine⟨xs[k].1,B,C,D,s,r,o'.kb,t,b0,⟨?_,?_,b3.a s _ (ie (by rw[T];show s<(eD S q k).n;rw[hn];exact b0)),y.a.f,y.e.h.1,b3.f⟩,⟨c0,c1,by rw[<-hv];exact c2,c3⟩,λb8 I j=>?_,λa3 I j=>?_⟩;have:=y.a.a 14 _ rfl;rw[show (o'.q (eD S q k)).n=S.n from hn]at this;exact this;rw[show (o'.q (eD S q k)).n=S.n from hn]at a2;exact a2;rw[qb a4];unfold rX;rw[b4,decide_eq_false b8];exact⟨_,h.a (h.c.d j)⟩;rw[qb a4];unfold rX;rw[b4,decide_eq_true a3];simp only[if_true];have c6:aE I (o'.R F b) (.slice B C D) xs[k].1.c:=by have b6:=((p1.a3 P).f (h.a (h.c.d j)).d);rw[hv]at b6;exact b6
  exact(h.a (h.c.d j)).g (nU (h.c.c j) (G.d U) (by have:=G.b;rw[<-yL (f:=Prod.fst),hx]at hk;omega) q xs[k].1 (aX c6.d))
 have d7:=U.c;have e1:0<=q:=ω;have d9:q<S.n:=ω;clear p U hs;go_enter func112,ntmps112;go_wp2_with fail;refine b5.out.mono ?_;rintro e g⟨b2,M,xs,hM,rfl,a9,X,E⟩;obtain⟨hL,h0,hE,a0⟩:=u.out g M xs b2 hM a9 X E;have H0:=ah h0;have HE:=ah hE;have HS:=a0;have N:=ah HS;have c7:=hL;clear b2 hM a9 X E h0 hE a0 HS u b5 hL;go_wp2_with fail;go_loopw [9] (λi wr=>∃k:Nat,k<=xs.length/\i=J k/\∃o',To g F b o wr (eD S q k) o') λi _=>xs.length-(intOf i).toNat
 case atStart=>exact⟨0,ω,rfl,H0.out⟩
 case round=>
  obtain⟨k,hk,rfl,o',ht⟩:=hrel;by_cases b7:k<xs.length
  .obtain⟨⟨ms,W,mt,mx⟩,B,C,D,s,r,kb,t,hs,⟨a6,ck,cr,c5,V,T⟩,⟨m0,m1,m2,m3⟩,K,A⟩:=N.out k wr o' b7 ht;simp only at t m0 m1 m2 m3 K A;subst t;have O:=ah λh=>K ω;have v:=ah A;have d4:k<xs.length:=ω;have d6:0<=k:=ω;have d8:0<=s:=ω;have e0:s<(S.n:Int):=ω;have f:Hid (Below wr wr (wr.alloc (.cells #[J s,J W,.slice B C D,.string mx] 179))):=(Below.refl _ _).alloc (yb _) _;have Y:=af.d wr wr.heap.size rfl 179 #[J s,J W,.slice B C D,.string mx];have d0:=Y.a 0 _ rfl;have d1:=Y.a 1 _ rfl;have d2:=Y.a 2 _ rfl;have d3:=Y.a 3 _ rfl;simp only[yf,yd,ye]at d0 d1 d2 d3;have H:=(f.out.cell (p:=(aT b 14)) c5).trans a6;have Z:=(f.out.cell (p:=(aT kb q)) V).trans ck;have L:=(f.out.cell (p:=(aT r s)) T).trans cr;clear Y K A N a6 ck cr ht;generalize (S.q.getD q []).getD s 0=z at L O v;by_cases hz:z<W
   .go_wp2_with fail;generalize wr.alloc (.cells #[J s,J W,.slice B C D,.string mx] 179)=w5 at f d0 d1 d2 d3 H Z L⊢;go_quiet (fail);go_wp2_with fail;refine(v.out hz _ (below_drewN f.out _)).mono ?_;rintro e w6⟨rfl,b1⟩;have c8:=ah b1;clear b1 v O;go_wp2_with fail;exact⟨⟨k+1,ω,by go_num,c8.out⟩,by simp[intOf];omega⟩
   go_wp2_with fail;generalize wr.alloc (.cells #[J s,J W,.slice B C D,.string mx] 179)=w5 at f d0 d1 d2 d3 H Z L⊢;go_quiet (fail);go_wp2_with fail;exact⟨⟨k+1,ω,by go_num,O.out hz _ (below_drewN f.out _)⟩,by simp[intOf];omega⟩
  have d5:¬(k:Int)<(xs.length:Int):=ω;have c4:k=xs.length:=ω;have HT:Hid (∃o',To w F b o wr (S.Mz q) o'):=HE.out wr o' (by rw[<-c7,<-c4];exact ht);clear ht N HE;go_wp2_with fail;go_end0;exact⟨rfl,HT.out⟩
end
section
open Go.RowKit
open Md (PS Vote Bal Lft Wf MsgW Sends)
variable {w w':Δ}{F:ϑ}{b:Nat}{S:PS}{o:Pl}{g:PS->Nat->PS}{rv cv mv:Θ}{l:List Nat}{k q x:Nat}{B:Bal}
def E6(p:PP w F b S o)(f:Codec.Frame)(G:S.e.length<=1000000)(i:aw w w rv f.g)(j:aw w w cv f.i)(n:ba w w mv f.d):ϖ 165 #[pT b 0,.agg #[J f.c,J 0,J f.j,J f.b,J f.h,J f.a,J f.e,rv,cv,mv]] w λe d=>ϱ e (.tuple #[])/\∃a,To w F b o d (S.MZ f) {o with d:=a}:=by
 obtain⟨z,C,u,rfl⟩:=i.b;obtain⟨y,D,v,rfl⟩:=j.b;obtain⟨t,A,s,rfl⟩:=n.b;cases c:Codec.dg _;refine(Ax p.e {f with f:=S.c} rfl z y t C u D v A s i j n c).m ?_;rintro d I;rw[show S.MZ f=S by unfold PS.MZ;rw[c];rfl];exact⟨rfl,o.d,p.d I⟩;refine(Aw p.e {f with f:=S.c} rfl z y t C u D v A s i j n c (by simpa using G)).m ?_;rintro d⟨m,a,r,H⟩;rw[show S.MZ f={S with e:=S.e++[{f with f:=S.c}]} by unfold PS.MZ;rw[c];rfl];exact⟨rfl,a,p.step (m.e λx _ E=>E.elim .inl λe=>.inr (.inr (.inr (.inr e)))) (λ_ h=>h) (λ_ h=>.inl h) r (by rw[y8];exact H) p.ms rfl rfl rfl⟩
def aG(g:PS->Nat->PS)(l:List Nat)(S:PS)(k:Nat):PS:=(l.take k).foldl g S
def jb(h:l[k]?=some q):aG g l S (k+1)=g (aG g l S k) q:=by obtain⟨a,rfl⟩:=ym.1 h;unfold aG;rw[<-List.take_append_getElem a,List.foldl_append];rfl
def iH(g:PS->Nat->PS)(l:List Nat):aG g l S l.length=l.foldl g S:=by unfold aG;rw[AE]
def fa(a:∀T q,Sends T (g T q) 1)(l:List Nat)(k:Nat):Sends S (aG g l S k) k:=(Md.bK g 1 a _ S).c (by rw[xk];omega)
def gG(a:Int)(n:Nat):(Md.iX a n).length<=n:=yr (G3 _ _) ς
def fN{a:Nat}{v:Θ}(h:w.ownsRow a 3 1 v l.length (cz l))(s:∀g,a<=g->g<w->w'.heap[g]?=w.heap[g]?):∃m c,v=.slice m l.length c/\∀(k q:Nat),l[k]?=some q->∃g,m=some ⟨g,0,none⟩/\ε w' g k (J q):=by
 rcases h.2 with ⟨e,n⟩|⟨g,i,t,e,r,p,-⟩;refine⟨none,0,by rw[e,n],λk q f=>?_⟩;have:=(ym.1 f).1;omega;refine⟨_,i,e,λk q f=>⟨g,rfl,?_⟩⟩;have j:=h.cells (by rw[e];rfl) k (J q) (by simp[cz,f]);have d:(⟨g,0,none⟩:Addr).add k=(aT g k):=by unfold Addr.add;split<;>simp_all
 rw[d]at j;exact(World.cell?_of_block (s g r (yk.1 p).1)).trans j
def PP.f(p:PP w F b S o)(a:o.c=some x)(c:S.d=some B):fD w (o.R F b) B x o.e o.a:=by have h:=p.lead;rw[a,c]at h;exact h
def rP{fr:PS->Nat->Codec.Frame}(m:∀T q,g T q=T.MZ (fr T q))(i:∀T q,T={S with e:=T.e}->fr T q=fr S q){L:List Nat}{r j a:Δ}{c:Θ}(h:To r F b o j (aG g L S k) {o with d:=c})(t:L[k]?=some q)(z:S.e.length+k<=1000000)(p:Below j j a)(u:aw a a rv (fr S q).g)(v:aw a a cv (fr S q).i)(y:ba a a mv (fr S q).d):ϖ 165 #[pT b 0,.agg #[J (fr S q).c,J 0,J (fr S q).j,J (fr S q).b,J (fr S q).h,J (fr S q).a,J (fr S q).e,rv,cv,mv]] a λe n=>ϱ e (.tuple #[])/\∃c,To r F b o n (aG g L S (k+1)) {o with d:=c}:=by
 have d:Sends S (aG g L S k) k:=fa (λT q=>by rw[m];exact Md.ak T _) L k;refine(E6 (h.c.c p) (fr S q) (by have:=d.b;omega) u v y).m ?_;rintro n⟨f,s⟩;refine⟨rfl,f,?_⟩;rw[jb t,m,i _ q d.e];exact(h.a (h.c.d p)).a s
def tM(B:Bal)(T:PS)(q:Nat):Codec.Frame:=⟨3,0,q,B.out,T.b,B.g,0,[],[],[]⟩
def lz(B:Bal)(T:PS)(q:Nat):PS:=T.MZ (tM B T q)
def dt(S:PS)(B:Bal):List Nat:=Md.iX (Md.cX B.a B.c) S.n
def mH(p:PP w F b S o)(wf:Wf S)(u:o.c=some x)(N:S.d=some B)(hs:S.e.length<=900000):ϖ 195 #[pT b 0] w λe d=>ϱ e (.tuple #[])/\∃a,To w F b o d (S.Mi B) {o with d:=a}:=by
 have P:=p.a.y 13;rw[u]at P;simp only[eb,yf,yd,ye]at P;have hW:=wf.lead B N;have HC:Hid (∀d,Below w w d->ε d x 3 (J B.a)/\ε d x 4 (J B.c)):=λd Z=>⟨((p.c Z).f u N).c.a 3 _ rfl,((p.c Z).f u N).c.a 4 _ rfl⟩;have C:Hid (∀d,Below w w d->ϖ 164 #[pT b 0,J (bits .andNot .i64 B.a B.c)] d λe G=>∃v,ϱ e v/\G.ownsRow d 3 1 v (dt S B).length (cz (dt S B))/\Below d d G):=λd Z=>by rw[(cK hW.asked hW.answ).1];exact tR (p.c Z) wf _
 have Y:(dt S B).length<=6:=yr (gG _ S.n) wf.c;have r:Hid (∀s v,Below w w s->s.ownsRow w 3 1 v (dt S B).length (cz (dt S B))->∃I c,v=.slice I (dt S B).length c/\(∃a,To s F b o s (aG (lz B) (dt S B) S 0) {o with d:=a})/\(∀wr a,To s F b o wr (aG (lz B) (dt S B) S (dt S B).length) {o with d:=a}->∃a,To w F b o wr (S.Mi B) {o with d:=a})/\∀(k:Nat)wr a,k<(dt S B).length->To s F b o wr (aG (lz B) (dt S B) S k) {o with d:=a}->∃q g:Nat,I=some ⟨g,0,none⟩/\ε wr g k (J q)/\(ε wr b 6 (J S.b)/\ε wr x 0 (J B.g)/\ε wr x 2 (J B.out))/\ϖ 165 #[pT b 0,.agg #[J 3,J 0,J q,J B.out,J S.b,J B.g,J 0,sN,sN,sN]] wr.drew λe E=>ϱ e (.tuple #[])/\(∃a,To s F b o E (aG (lz B) (dt S B) S (k+1)) {o with d:=a})/\(ε E b 6 (J S.b)/\ε E x 0 (J B.g)/\ε E x 2 (J B.out))):=λs v t m=>by
  obtain⟨I,c,hv,-⟩:=fN (w':=s) m λ_ _ _=>rfl;refine⟨I,c,hv,⟨o.d,To.f (p.c t)⟩,λwr a h=>⟨a,(p.d t).a (by rw[iH]at h;exact h)⟩,λk wr a hk h=>?_⟩;have O:=yh hk;obtain⟨a5,c',U,D⟩:=fN (w':=wr) m λg hg z=>h.e.block g z λe=>by have:=p.h e;omega
  rw[hv]at U;injection U with e1 _ _;subst e1;obtain⟨g,hg,hc⟩:=D k _ O;have y:∀{d a k},PP d F b (aG (lz B) (dt S B) S k) {o with d:=a}->ε d b 6 (J S.b)/\ε d x 0 (J B.g)/\ε d x 2 (J B.out):=λ{d a k}pp=>by have a1:Sends S (aG (lz B) (dt S B) S k) k:=fa (λT q=>Md.ak T _) _ k;rw[a1.e]at pp;have hB:=pp.f u N;exact⟨pp.a.y 6,hB.c.y 0,hB.c.y 2⟩
  refine⟨_,g,hg,hc,y h.c,?_⟩;refine(rP (fr:=tM B) (λ_ _=>rfl) (λT q e=>by unfold tM;rw[e]) h O ω (Below.refl _ _).drew (rv:=sN) (cv:=sN) (mv:=sN) (.inl ⟨⟨_,_,rfl⟩,rfl⟩) (.inl ⟨⟨_,_,rfl⟩,rfl⟩) (.inl ⟨⟨_,_,rfl⟩,rfl⟩)).m ?_;rintro E⟨a0,h3⟩;exact⟨rfl,⟨a0,h3⟩,y h3.c⟩
 clear p wf N hs hW u;generalize dt S B=L at r Y C;go_enter func195,ntmps195;go_wp2_with fail;refine wp_region_held_drew (S:=λd=>ε d x 3 (J B.a)/\ε d x 4 (J B.c)) rfl (HC.out _ (Below.refl _ _).drew) λf=>?_;(iterate 10 refine ψ ?_);refine wk 12 ?_;refine we 10 λK M=>?_;go_simp;refine(C.out _ (Below.refl _ _).drew).mono ?_;rintro e s⟨v,rfl,m,t⟩;have A:Below w w s:=((Below.refl _ _).drew).trans (t.mono ς);obtain⟨I,c,rfl,h0,hE,Q⟩:=r.out s v A (by simpa using m);have HE:=ah hE;have HS:=ah Q;have W:=HC.out s A;go_wp2_with fail;refine M.out _ _ W λf=>?_;clear M K;refine wk 11 ?_;refine wpAnyH_done κ ?_ _;clear f HC W;go_wp2_with fail;go_loopw [21] (λi wr=>∃k:Nat,k<=L.length/\i=J k/\∃a,To s F b o wr (aG (lz B) L S k) {o with d:=a}) λi _=>L.length-(intOf i).toNat
 case atStart=>exact⟨0,ω,rfl,(ah h0).out⟩
 case round=>
  obtain⟨k,hk,rfl,a,ht⟩:=hrel;by_cases z:k<L.length
  .have a3:k<L.length:=ω;have a6:0<=k:=ω;obtain⟨q,g,rfl,cg,V,hc⟩:=HS.out k wr a z ht;have R:=ah hc;clear hc ht HS;go_wp2_with fail;refine wp_region_held_drew (S:=λd=>ε d b 6 (J S.b)/\ε d x 0 (J B.g)/\ε d x 2 (J B.out)) rfl V λf=>?_;(iterate 15 refine ψ ?_);refine we 15 λK M=>?_;go_simp;refine R.out.m ?_;rintro E⟨H,X⟩;have H3:=ah H;clear H R;go_wp2_with fail;refine M.out _ _ X λf=>?_;clear M K;refine wpAnyH_done κ ?_ _;clear f X V;go_wp2_with fail;exact⟨⟨k+1,ω,by go_num,H3.out⟩,by simp[intOf];omega⟩
  have a4:¬(k:Int)<(L.length:Int):=ω;have a2:k=L.length:=ω;have HT:Hid (∃a,To w F b o wr (S.Mi B) {o with d:=a}):=HE.out wr a (by rw[<-a2];exact ht);clear ht HS HE;go_wp2_with fail;go_end0;exact⟨rfl,HT.out⟩
def bI.a{R:ϑ}{v:Θ}{l:List Codec.Msg}(h:bI w R v l):∃e n c,v=.slice e n c:=by rcases h with ⟨⟨_,_,a⟩,-⟩|⟨g,d,a,-⟩;exact⟨_,_,_,a⟩;exact⟨_,_,_,a⟩
def DR(S:PS)(B:Bal)(T:PS)(q:Nat):Codec.Frame:=⟨5,0,q,T.a.m,T.b,B.g,0,[],T.a.a,S.Mm S.a.a⟩
def xS(S:PS)(B:Bal)(T:PS)(q:Nat):PS:=T.MZ (DR S B T q)
def jO(S:PS)(B:Bal):List Nat:=Md.iX (Md.cX B.a B.d) S.n
def kS(p:PP w F b S o)(wf:Wf S){x:Nat}{B:Bal}(C:o.c=some x)(hL:S.d=some B)(a6:S.a.a.length=S.n)(hs:S.e.length<=900000):ϖ 197 #[pT b 0] w λe d=>ϱ e (.tuple #[])/\∃a,To w F b o d (S.Mj B) {o with d:=a}:=by
 have P:=p.a.a 13 _ rfl;rw[C]at P;have Q:=p.a.a 12 _ rfl;simp only[eb,yf,yd,ye]at P Q;have hW:=wf.lead B hL;obtain⟨M,I,G,E⟩:=p.vote.a;rw[E]at Q;have a9:Hid (ϖ 240 #[pT b 0,.slice M I G] w λe d=>Below w w d/\∃v,ϱ e v/\bI d (o.R F b) v (S.Mm S.a.a)):=by have:=lA p wf p.vote a6;rw[E]at this;exact this
 have HC:Hid (∀d,Below w w d->ε d x 3 (J B.a)/\ε d x 5 (J B.d)):=λd hw=>⟨((p.c hw).f C hL).c.a 3 _ rfl,((p.c hw).f C hL).c.a 5 _ rfl⟩;have W:Hid (∀d,Below w w d->ϖ 164 #[pT b 0,J (bits .andNot .i64 B.a B.d)] d λe a0=>∃v,ϱ e v/\a0.ownsRow d 3 1 v (jO S B).length (cz (jO S B))/\Below d d a0):=λd hw=>by rw[(cK hW.asked hW.acc).1];exact tR (p.c hw) wf _
 have b2:(jO S B).length<=6:=yr (gG _ S.n) wf.c;have r:Hid (∀D t v mv,Below w w D->bI D (o.R F b) mv (S.Mm S.a.a)->Below D D t->t.ownsRow D 3 1 v (jO S B).length (cz (jO S B))->∃ao c,v=.slice ao (jO S B).length c/\(∃a,To t F b o t (aG (xS S B) (jO S B) S 0) {o with d:=a})/\(∀wr a,To t F b o wr (aG (xS S B) (jO S B) S (jO S B).length) {o with d:=a}->∃a,To w F b o wr (S.Mj B) {o with d:=a})/\∀(k:Nat)wr a,k<(jO S B).length->To t F b o wr (aG (xS S B) (jO S B) S k) {o with d:=a}->∃q g:Nat,ao=some ⟨g,0,none⟩/\ε wr g k (J q)/\(ε wr b 6 (J S.b)/\ε wr b 11 (J S.a.m)/\ε wr b 12 (.slice M I G)/\ε wr x 0 (J B.g))/\ϖ 165 #[pT b 0,.agg #[J 5,J 0,J q,J S.a.m,J S.b,J B.g,J 0,sN,.slice M I G,mv]] wr.drew λe U=>ϱ e (.tuple #[])/\(∃a,To t F b o U (aG (xS S B) (jO S B) S (k+1)) {o with d:=a})/\(ε U b 6 (J S.b)/\ε U b 11 (J S.a.m)/\ε U b 12 (.slice M I G)/\ε U x 0 (J B.g))):=λD t v mv s z A l=>by
  have H:=s.trans (A.mono s.size);have p1:=p.c H;have a8:=z.c ((p.c s).d A).d;obtain⟨ao,c,hv,-⟩:=fN (w':=t) l λ_ _ _=>rfl;refine⟨ao,c,hv,⟨o.d,To.f p1⟩,λwr a h=>⟨a,(p.d H).a (by rw[iH]at h;exact h)⟩,λk wr a hk h=>?_⟩;have a2:=yh hk;obtain⟨b8,c',a5,X⟩:=fN (w':=wr) l λg hg N=>h.e.block g N λe=>by have:=p.h e;have:=s.size;omega
  rw[hv]at a5;injection a5 with e1 _ _;subst e1;obtain⟨g,hg,hc⟩:=X k _ a2;have y:∀{d a k},PP d F b (aG (xS S B) (jO S B) S k) {o with d:=a}->(ε d b 6 (J S.b)/\ε d b 11 (J S.a.m)/\ε d b 12 (.slice M I G)/\ε d x 0 (J B.g))/\aw d d.heap.size (.slice M I G) S.a.a:=λ{d a k}Y=>by have b4:Sends S (aG (xS S B) (jO S B) S k) k:=fa (λT q=>Md.ak T _) _ k;rw[b4.e]at Y;have hB:=Y.f C hL;rw[<-E];exact⟨⟨Y.a.a 6 _ rfl,Y.a.a 11 _ rfl,Y.a.a 12 _ rfl,hB.c.a 0 _ rfl⟩,aX Y.vote.d⟩
  refine⟨_,g,hg,hc,(y h.c).1,?_⟩;have O:Below wr wr wr.drew:=(Below.refl _ _).drew;refine(rP (fr:=DR S B) (λ_ _=>rfl) (λT q e=>by unfold DR;rw[e]) h a2 ω O (rv:=sN) (cv:=.slice M I G) (mv:=mv) (.inl ⟨⟨_,_,rfl⟩,rfl⟩) (y (h.c.c O)).2 ((a8.c h.d).c (h.c.d O).d).at).mono ?_;rintro e U⟨rfl,b3,h3⟩;exact⟨rfl,⟨b3,h3⟩,(y h3.c).1⟩
 clear p wf hL hs hW C a6 E;generalize jO S B=L at r b2 W;go_enter func197,ntmps197;go_wp2_with fail;refine a9.out.mono ?_;rintro e D⟨s,mv,rfl,z⟩;obtain⟨mo,mn,mk,rfl⟩:=z.a;have u:=ah s;have Z:=ah z;clear s z a9 Q P;go_wp2_with fail;refine wp_region_held_drew (S:=λd=>ε d x 3 (J B.a)/\ε d x 5 (J B.d)) rfl (HC.out _ u.out.drew) λhHeld=>?_;(iterate 10 refine ψ ?_);refine wk 12 ?_;refine we 10 λK hK=>?_;go_simp;refine(W.out _ u.out.drew).mono ?_;rintro e t⟨v,rfl,l,A⟩;have V:Below D D t:=((Below.refl _ _).drew).trans (A.mono ς);obtain⟨ao,c,rfl,h0,hE,a3⟩:=r.out D t v _ u.out Z.out V (by simpa using l);have H0:=ah h0;have HE:=ah hE;have HS:=ah a3;have b0:=HC.out t (u.out.trans (V.mono u.out.size));clear h0 hE a3 l A V r W Z u;go_wp2_with fail;refine hK.out _ _ b0 λhHeld=>?_;clear hK K;try simp only[pU]
 refine wk 11 ?_;refine wpAnyH_done κ ?_ _;clear hHeld HC b0;go_wp2_with fail;go_loopw [29] (λi wr=>∃k:Nat,k<=L.length/\i=J k/\∃a,To t F b o wr (aG (xS S B) L S k) {o with d:=a}) λi _=>L.length-(intOf i).toNat
 case atStart=>exact⟨0,ω,rfl,H0.out⟩
 case round=>
  obtain⟨k,hk,rfl,a,ht⟩:=hrel;by_cases N:k<L.length
  .have b6:k<L.length:=ω;have b9:0<=k:=ω;obtain⟨q,g,rfl,cg,a7,hc⟩:=HS.out k wr a N ht;have a4:=ah hc;clear hc ht HS;go_wp2_with fail;refine wp_region_held_drew (S:=λd=>ε d b 6 (J S.b)/\ε d b 11 (J S.a.m)/\ε d b 12 (.slice M I G)/\ε d x 0 (J B.g)) rfl a7 λhHeld=>?_;(iterate 22 refine ψ ?_);refine we 22 λK hK=>?_;go_simp;refine a4.out.mono ?_;rintro e U⟨rfl,a1,b1⟩;have H3:=ah a1;clear a1 a4;go_wp2_with fail;refine hK.out _ _ b1 λhHeld=>?_;clear hK K;try simp only[pU]
   refine wpAnyH_done κ ?_ _;clear hHeld b1 a7;go_wp2_with fail;exact⟨⟨k+1,ω,by go_num,H3.out⟩,by simp[intOf];omega⟩
  have b7:¬(k:Int)<(L.length:Int):=ω;have b5:k=L.length:=ω;have HT:Hid (∃a,To w F b o wr (S.Mj B) {o with d:=a}):=HE.out wr a (by rw[<-b5];exact ht);clear ht HS HE;go_wp2_with fail;go_end0;exact⟨rfl,HT.out⟩
def kT(p:PP w F b S o)(q:Nat)(a:Int)(e:Lft)(H:S.e.length<=1000000){z A:Θ}(r:aw w w.heap.size z e.a)(u:ba w w.heap.size A e.b):ϖ 208 #[pT b 0,J q,J a,.agg #[J e.m,z,A]] w λv k=>ϱ v (.tuple #[])/\∃c,To w F b o k (S.ME q a e) {o with d:=c}:=by
 obtain⟨n,t,j,rfl⟩:=r.b;obtain⟨i,s,g,rfl⟩:=u.b;obtain⟨f,B,y⟩:=e;simp only at r u⊢;have d:Below w w (w.alloc (.cells #[J f,.slice n t j,.slice i s g] 249)):=(Below.refl _ _).alloc (yb _) _;have x:Hid (ϖ 165 #[pT b 0,.agg #[J 7,J 0,J q,J f,J a,J 0,J 0,sN,.slice n t j,.slice i s g]] (w.alloc (.cells #[J f,.slice n t j,.slice i s g] 249)) λv k=>ϱ v (.tuple #[])/\∃c,To w F b o k (S.ME q a ⟨f,B,y⟩) {o with d:=c}):=by refine(E6 (p.c d) ⟨7,0,q,f,a,0,0,[],B,y⟩ H (rv:=sN) (.inl ⟨⟨_,_,rfl⟩,rfl⟩) ((r.a d).d d.size) ((u.a d).d d.size)).mono ?_;rintro e k⟨rfl,c,h⟩;exact⟨rfl,c,(p.d d).a h⟩
 have l:=af.d w w.heap.size rfl 249 #[J f,.slice n t j,.slice i s g];have D:=l.a 0 _ rfl;have E:=l.a 1 _ rfl;have G:=l.a 2 _ rfl;simp only[yf,yd,ye]at D E G;clear p r u l;go_enter func208,ntmps208;go_wp21;refine x.out.mono ?_;rintro e K⟨rfl,C⟩;have I:=ah C;clear C x;go_wp21;go_end0;exact⟨rfl,I.out⟩
def PP.a8(p:PP w F b S o){l j:Δ}(q:Below w w l)(i:l.grownBy j o.g.ownBlock){g a:Nat}{e:Ev}(c:j.ownsRow 0 64 6 (sT g (S.j.length+1) a) (S.j.length+1) (az S.j++e.f))(m:o.g.ownBlock=some g\/w.heap.size<=g):∃r,To w F b o (j.setCell ⟨b,17,none⟩ (sT g (S.j.length+1) a)) (S.Ng e) r:=by
 obtain⟨f,k⟩:=p.e.a4 q i c m;exact⟨_,p.step (f.e λx _ n=>n.elim .inl λe=>.inr (.inr (.inr (.inl e)))) (λ_ h=>h) (λs d=>by cases d;exact m) (λ_ h=>.inl h) k p.ms rfl rfl rfl⟩
def xX(p:PP w F b S o)(Q:Md.Lq S):Do 290 #[pT b 0] (.tuple #[]) w F b o S.Na:=by
 obtain⟨U,I,E,M,D⟩:=info_parts mw;have A:=p.a;have t:=A.b 4;have T:=A.a 4 _ rfl;simp only[yf,yd,ye]at T;have P:To w F b o (w.setCell ⟨b,4,none⟩ (.bool true)) {S with out:=true} o:=p.head (cW.a 4 _) (A.e 4 _) rfl rfl rfl rfl rfl rfl p.vote (.inl ⟨rfl,rfl⟩);have H:=ah P;have a0:S.j.length<=1000000000000:=by have:=Q.evs;omega
 clear p Q A P;go_enter func290,ntmps290;go_wp21;generalize w.setCell _ _=d at H⊢;have m:=ah H.out.c;have f:=ah m.out.e.a.f;have G:=m.out.a.a 6 _ rfl;have n:=m.out.a.a 17 _ rfl;simp only[yf,yd,ye]at G n;have y:Hid (∀r,Below d d r->ε r b 6 (J S.b)/\ε r b 17 o.g):=λr N=>⟨(N.cell (p:=(aT b 6)) f.out).trans G,(N.cell (p:=(aT b 17)) f.out).trans n⟩;clear G n T t;refine gl.b (λr=>ε r b 6 _/\r.cell? _=some o.g) 14 rfl (y.out _ (Below.refl _ _).drew) λa=>?_;(iterate 10 refine χ ?_);refine te 10 λK i=>?_;go_simp;have c:Hid (Below d d (d.alloc (.cells #[J 4,J S.b,J 0,J 0,J 0,.string ⟨#[]⟩] 64)).drew):=((Below.refl _ _).alloc (yb _) _).drew;refine i.out _ _ (λ_=>y.out _ c.out) λa=>?_;clear i K;try simp only[pU]
 have B:Hid (af (d.alloc (.cells #[J 4,J S.b,J 0,J 0,J 0,.string ⟨#[]⟩] 64)).drew d.heap.size 64 #[J 4,J S.b,J 0,J 0,J 0,.string ⟨#[]⟩]):=(af.d d d.heap.size rfl 64 _).i;have q:Hid ((d.alloc (.cells #[J 4,J S.b,J 0,J 0,J 0,.string ⟨#[]⟩] 64)).drew.heap.size=d.heap.size+1):=by simp[Hid]
 generalize (d.alloc (.cells #[J 4,J S.b,J 0,J 0,J 0,.string ⟨#[]⟩] 64)).drew=V at c B q a⊢;refine te 11 λK i=>?_;refine step_append_lies V rfl (.tmp 9) (.tmp 15) 35 rfl 0 64 U _ 6 56 underlying35 I E M D rfl θ o.g S.j.length (az S.j) rfl (aQ m.out.e.c.d c.out) (aT d 0) 1 1 (Ev.f ⟨4,S.b,0,0,0,⟨#[]⟩⟩) rfl rfl (World.news_of_block B.out) (by intro u R;simp only[Ev.f,yF,yU,or_false]at R;rcases R with rfl|rfl|rfl|rfl|rfl|rfl<;>rfl) ω (by simp[maxLen];omega) ω (oI _) (d.heap.size+1) q.out ?_;intro g Y L l j v C;have z:some b≠o.g.ownBlock:=λe=>m.out.e.c.o e.symm m.out.e.a θ rfl;have k:=yg f.out c.out.size;have s:Hid (ε L b 6 (J S.b)/\ε L b 17 o.g):=by have O:=y.out _ c.out;exact⟨(j.cell_far ⟨b,6,none⟩ k z).trans O.1,(j.cell_far ⟨b,17,none⟩ k z).trans O.2⟩
 have x:=ah (m.out.a8 c.out j (e:=⟨4,S.b,0,0,0,⟨#[]⟩⟩) l (v.imp id λe=>by omega));have W:L.frozen? (aT b 17)=false:=by rw[j.frozen_far ⟨b,17,none⟩ k z];exact(m.out.e.a.c c.out f.out).b 17
 clear l j v C a B q c y z k;refine i.out _ _ (λ_=>s.out) λa=>?_;clear i K;try simp only[pU]
 have a:=a θ;refine te 12 λK i=>?_;go_simp;refine i.out _ _ (λ_=>s.out) λa=>?_;clear i K;try simp only[pU]
 refine te 13 λK i=>?_;go_simp;refine i.out _ _ (λ_=>s.out) λa=>?_;clear i K;try simp only[pU]
 have a:=a θ;refine te 14 λK i=>?_;go_simp;refine i.out _ _ (λh=>absurd rfl h) λ_=>?_;clear i K;try simp only[pU]
 refine gl.done κ ?_ _;go_wp21;go_end0;obtain⟨Z,X⟩:=x.out;exact⟨rfl,Z,H.out.a X⟩
open Go.ChangeMaps (setBlock)
variable {kn:List (Υ)}{n:Nat}
def Fh(n:Nat):(Builtin.zeroCells (Value.int .i64 0).cells n).toList=List.replicate n (J 0):=by have e:(Value.int .i64 0).cells=#[J 0]:=rfl;rw[e];simp only[Builtin.zeroCells,yV,Array.toList_range,yJ,yx,yD,yS,Nat.mul_one,Nat.mod_one];rw[List.eq_replicate_iff];refine⟨ς,λx a=>?_⟩;obtain⟨i,-,rfl⟩:=yW.1 a;rfl
def Ei(w:Δ)(r n c:Nat)(k:n≠0){l:Υ}(i:l.length=n)(g:af w r 3 (ints l).toArray):∃d,(Builtin.clear_ #[69] 0 #[sT r n c]).run prog w=.ok (.tuple #[]) d/\cW (λx=>x=r) w d/\d.heap.size=w.heap.size/\af d r 3 (ints (List.replicate n 0)).toArray:=by
 have j:=zeroValue3 w;have a:=run_storeCells_at prog r 0 3 (List.replicate n (J 0)) 0 _ w g (by simp[ints,i]) (by intro v h;rw[List.mem_replicate]at h;rw[h.2];rfl);have e:((ints l).toArray.toList.take (0+0)++List.replicate n (Value.int .i64 0)++(ints l).toArray.toList.drop (0+0+(List.replicate n (Value.int .i64 0)).length)).toArray=(ints (List.replicate n 0)).toArray:=by rw[Lf (by simp[ints,i])];simp[ints]
 rw[e]at a;refine⟨w.setRow r _,?_,⟨rfl,rfl,rfl,by simp[World.setRow],λx _ f=>setRow_other _ _ _ _ f⟩,by simp[World.setRow],setRow_heap w r _ _ 3 _ g⟩;cases n with
 |zero=>exact absurd rfl k
 |succ m=>
  simp only[Builtin.clear_,ya7,AH,Sem.run_bind,run_underlying underlying69,Result.andThen,j,Fh,a,Sem.run_pure]
def PP.b1(p:PP w F b S o){q r:Nat}(e:o.k[q]?=some r){row':Υ}(g:row'.length=S.n)(a:cW (λx=>x=r) w w')(f:af w' r 3 (ints row').toArray):To w F b o w' {S with q:=S.q.set q row'} o:=
 p.step (a.e λ_ _ c=>.inr (.inr (.inl (c▸yy e)))) (λ_ h=>.inl h) (λ_ h=>.inl h) (λ_ h=>.inl h) (p.e.a0 e g (λx c d=>a.block x c d) f) p.ms rfl rfl rfl
def gK(kn:List (Υ))(n k:Nat):List (Υ):=List.replicate k (List.replicate n 0)++kn.drop k
def Cv{k:Nat}(a:k<kn.length):(gK kn n k).set k (List.replicate n 0)=gK kn n (k+1):=by unfold gK;rw[List.set_append_right _ _ ς,I2,Nat.sub_self,List.drop_eq_getElem_cons a,List.set_cons_zero,List.replicate_succ',I3];rfl
def Cu(h:∀r∈kn,r.length=n):gK kn n kn.length=kn.map λr=>List.replicate r.length 0:=by unfold gK;rw[List.drop_length,IX,eq_comm,List.eq_replicate_iff];refine⟨ς,λx a=>?_⟩;obtain⟨r,c,rfl⟩:=yW.1 a;rw[h r c]
def Eh(w:Δ){c:Nat}{e:Array MapEntry}{a:Nat}(d:w.heap[c]?=some (.map e a)):(Builtin.clear_ #[156] 0 #[.map (some c)]).run prog w=.ok (.tuple #[]) (setBlock w c (.map #[] a)):=by simp only[Builtin.clear_,ya7,AH,Sem.run_bind,run_underlying underlying156,Result.andThen,MapKept.run_getObj_map d,MapKept.run_setObj_map _ d,Sem.run_pure];rfl
def PP.a9(p:PP w F b S o):To w F b o (setBlock w o.m (.map #[] o.j)) {S with o:=[]} {o with l:=[],n:=#[]}:=by have c:=ep p.e.map (.map #[] o.j);exact p.step (cW.f c λx a=>by injection a with a;subst a;exact .inr (.inl rfl)) (λ_ h=>.inl h) (λ_ h=>.inl h) (λ_ h=>.inl h) (p.e.y c (jV p.e.map _) ⟨rfl,rfl,ς,ς⟩ List.Pairwise.nil λx a=>by cases a) rfl rfl rfl rfl
def dM(S:PS)(m:Int):PS:={S with b:=S.b+1,m:=m,k:=Md.fK S.k m,h:=false,g:=0,a:=⟨0,0,[]⟩,d:=none}
def PP.y(p:PP w F b S o)(m:Int):To w F b o ((((((((((w.setCell ⟨b,6,none⟩ (J (S.b+1))).setCell ⟨b,7,none⟩ (J m)).setCell ⟨b,8,none⟩ (J (Md.fK S.k m))).setCell ⟨b,5,none⟩ (.bool false)).setCell ⟨b,9,none⟩ (J 0)).setCell ⟨b,10,none⟩ (J 0)).setCell ⟨b,11,none⟩ (J 0)).setCell ⟨b,12,none⟩ (sN)).setCell ⟨b,13,none⟩ (.pointer none))) (dM S m) {o with h:=sN,c:=none}:=by have c:ej b w ((((((((((w.setCell ⟨b,6,none⟩ (J (S.b+1))).setCell ⟨b,7,none⟩ (J m)).setCell ⟨b,8,none⟩ (J (Md.fK S.k m))).setCell ⟨b,5,none⟩ (.bool false)).setCell ⟨b,9,none⟩ (J 0)).setCell ⟨b,10,none⟩ (J 0)).setCell ⟨b,11,none⟩ (J 0)).setCell ⟨b,12,none⟩ (sN)).setCell ⟨b,13,none⟩ (.pointer none))):=(((((((((ej.d b w).a _ _).a _ _).a _ _).a _ _).a _ _).a _ _).a _ _).a _ _).a _ _;have a:=((((((((p.a.e 6 (J (S.b+1))).e 7 (J m)).e 8 (J (Md.fK S.k m))).e 5 (.bool false)).e 9 (J 0)).e 10 (J 0)).e 11 (J 0)).e 12 (sN)).e 13 (.pointer none);simp only[Li,List.set_cons_succ,List.set_cons_zero]at a;exact p.head (cW.i c rfl) a rfl rfl rfl rfl rfl rfl ⟨World.ownsRow_nil w 0 3 1,λg d=>by cases d⟩ (.inr ⟨rfl,rfl⟩)
def Em(p:PP w F b S o)(C:Md.Lq S){m:Int}(hm:Md.bj m):Do 289 #[pT b 0,J m] (.tuple #[]) w F b o (S.enter m):=by
 obtain⟨i0,b1,b4,a9,a3⟩:=info_parts mw;have B0:=ah p.a;have a7:wrap64 (S.b+1)=S.b+1:=by have:=C.view;unfold wrap64;omega
 have M:=(cK C.sus hm).2.1;have c2:S.j.length<=1000000000000:=by have:=C.evs;omega
 have HK:Hid (S.q.length=S.n/\∀r∈S.q,r.length=S.n):=⟨C.a,λr hr=>(C.kn r hr).1⟩;have b2:S.n≠0:=by have:=C.b;omega
 have d1:=C.c;have t:=ah ((p.y m));go_enter func289,ntmps289;refine wp_seq_k λK c=>?_;have d:=ah c;clear c;have N:=B0.out.y 6;have f6:=B0.out.b 6;simp at N;go_wp2_with fail;refine d.out _ _ ?_;have P:=B0.out.e 6 (J (S.b+1));simp at P;generalize w.setCell _ _=w1 at P t⊢;refine wp_seq_k λK c=>?_;have d:=ah c;clear c;have c7:=P.y 7;have f7:=P.b 7;simp at c7;have X:=ah P;go_wp2_with fail;refine d.out _ _ ?_;have O:=X.out.e 7 (J m);simp at O;generalize w1.setCell _ (J m)=B at O t⊢;refine wp_seq_k λK c=>?_;have d:=ah c;clear c;have c8:=O.y 8;have f8:=O.b 8;simp at c8;have V:=ah O;clear O X;go_wp2_with fail;refine d.out _ _ ?_;clear d K c8 f8;have B3:=V.out.e 8 (J (Md.fK S.k m));simp at B3;generalize B.setCell _ _=w3 at B3 t⊢;refine wp_seq_k λK c=>?_;have d:=ah c;clear c;have c5:=B3.y 5;have c9:=B3.y 9;have a1:=B3.y 10;have a0:=B3.y 11;have U:=B3.y 12;have T:=B3.y 13;have f5:=B3.b 5;have f9:=B3.b 9;have b6:=B3.b 10;have b3:=B3.b 11;have b5:=B3.b 12;have a4:=B3.b 13;simp at c5 c9 a1 a0 U T;clear B3 V;go_wp2_with fail;refine d.out _ _ ?_;clear d K c5 c9 a1 a0 U T f5 f9 b6 b3 b5 a4;have c3:Hid ((dM S m).n=S.n/\(dM S m).q=S.q):=⟨rfl,rfl⟩;generalize ((((((w3.setCell ⟨b,5,none⟩ (.bool false)).setCell ⟨b,9,none⟩ (J 0)).setCell ⟨b,10,none⟩ (J 0)).setCell ⟨b,11,none⟩ (J 0)).setCell ⟨b,12,none⟩ (sN)).setCell ⟨b,13,none⟩ (.pointer none))=w4 at t⊢;have Y:=t.out.c.a.y 14;simp only[dM,yf,yd,ye]at Y;have H0:=ah t.out;have l:Hid (∀(k:Nat)wr,k<S.n->To w F b o wr {dM S m with q:=gK S.q S.n k} {o with h:=sN,c:=none}->∃r B,ε wr o.kb k (sT r S.n S.n)/\(Builtin.clear_ #[69] 0 #[sT r S.n S.n]).run prog wr=.ok (.tuple #[]) B/\To w F b o B {dM S m with q:=gK S.q S.n (k+1)} {o with h:=sN,c:=none}):=λk wr hk h=>by obtain⟨r,hr,b9,b8,b0⟩:=h.c.e.m (q:=k) hk;obtain⟨B,A,c0,-,a6⟩:=Ei wr r S.n S.n b2 b8 b9;refine⟨r,B,b0,A,?_⟩;have e:((gK S.q S.n k).set k (List.replicate S.n 0))=gK S.q S.n (k+1):=Cv (by rw[HK.out.1];exact hk);have h3:=h.a (h.c.b1 hr (row':=List.replicate S.n 0) (by simp;rfl) c0 a6);rw[show ({({dM S m with q:=gK S.q S.n k}:PS)with q:=((gK S.q S.n k).set k (List.replicate S.n 0))}:PS)={dM S m with q:=gK S.q S.n (k+1)} by rw[e]]at h3;exact h3
 have y:Hid (∀wr,To w F b o wr {dM S m with q:=gK S.q S.n S.n} {o with h:=sN,c:=none}->ε wr b 15 (.map (some o.m))/\∃B,(Builtin.clear_ #[156] 0 #[.map (some o.m)]).run prog wr=.ok (.tuple #[]) B/\To w F b o B {dM S m with q:=S.q.map λr=>List.replicate r.length 0,o:=[]} {o with h:=sN,c:=none,l:=[],n:=#[]}):=λwr h=>by
  have e:gK S.q S.n S.n=S.q.map λr=>List.replicate r.length 0:=by have:=Cu (kn:=S.q) (n:=S.n) HK.out.2;rw[HK.out.1]at this;exact this
  rw[e]at h;exact⟨h.c.a.y 15,_,Eh wr h.c.e.map,h.a h.c.a9⟩
 clear t a7 M;refine wp_seq_k λK c=>?_;have d:=ah c;clear c;go_wp2_with fail;go_loopw [43] (λi wr=>∃k:Nat,k<=S.n/\i=J k/\To w F b o wr {dM S m with q:=gK S.q S.n k} {o with h:=sN,c:=none}) λi _=>S.n-(intOf i).toNat
 case atStart=>exact⟨0,ω,rfl,H0⟩
 case round=>
  obtain⟨k,hk,rfl,ht⟩:=hrel;by_cases a2:k<S.n
  .have c1:(k:Int)<(S.n:Int):=ω;have d0:(0:Int)<=(k:Int):=ω;obtain⟨r,j,ck,A,Z⟩:=l.out k wr a2 ht;have H5:=ah Z;clear Z ht l y;go_wp2_with fail;exact⟨⟨k+1,ω,by go_num,H5⟩,by simp[intOf];omega⟩
  have a5:¬(k:Int)<(S.n:Int):=ω;have a8:k=S.n:=ω;subst a8;obtain⟨b7,j,A,Z⟩:=y.out wr ht;have H5:Hid (To w F b o j _ _):=Z;clear Z ht l y;go_wp2_with fail;refine d.out _ _ ?_;clear d;go_wp2_with fail;clear A b7 Y a5;have D:=ah H5.out.c;have v:=ah D.out.e.a.f;have N:=D.out.a.y 6;have G:=D.out.a.y 17;simp only[dM,yf,yd,ye]at N G;have HS:Hid (∀H,Below j j H->ε H b 6 (J (S.b+1))/\ε H b 17 o.g):=λH hw=>⟨(hw.cell (p:=(aT b 6)) v).trans N,(hw.cell (p:=(aT b 17)) v).trans G⟩;clear N G;refine gl.b (λH=>ε H b 6 (J (S.b+1))/\ε H b 17 o.g) 15 rfl (HS.out _ (Below.refl _ _).drew) λa=>?_;(iterate 11 refine χ ?_);refine te 11 λK c=>?_;go_simp;have f:Hid (Below j j (j.alloc (.cells #[J 3,J (S.b+1),J 0,J 0,J m,.string ⟨#[]⟩] 64)).drew):=((Below.refl _ _).alloc (yb _) _).drew;refine c.out _ _ (λ_=>HS.out _ f) λa=>?_;clear c K;have HE:Hid (af (j.alloc (.cells #[J 3,J (S.b+1),J 0,J 0,J m,.string ⟨#[]⟩] 64)).drew j 64 #[J 3,J (S.b+1),J 0,J 0,J m,.string ⟨#[]⟩]):=(af.d j j rfl 64 _).i;have I:Hid ((j.alloc (.cells #[J 3,J (S.b+1),J 0,J 0,J m,.string ⟨#[]⟩] 64)).drew=j.heap.size+1):=by simp[Hid]
  generalize (j.alloc (.cells #[J 3,J (S.b+1),J 0,J 0,J m,.string ⟨#[]⟩] 64)).drew=w6 at f HE I a⊢;refine te 12 λK c=>?_;refine step_append_lies w6 rfl (.tmp 57) (.tmp 64) 35 rfl 0 64 i0 _ 6 56 underlying35 b1 b4 a9 a3 rfl θ o.g S.j.length (az S.j) rfl (aQ D.out.e.c.d f) (aT j 0) 1 1 (Ev.f ⟨3,S.b+1,0,0,m,⟨#[]⟩⟩) rfl rfl (World.news_of_block HE) (by intro u hu;simp only[Ev.f,yF,yU,or_false]at hu;rcases hu with rfl|rfl|rfl|rfl|rfl|rfl<;>rfl) ω (by simp[maxLen];omega) ω (oI _) (j.heap.size+1) I ?_;intro g c4 w7 E x Q R;have nb:some b≠o.g.ownBlock:=λe=>D.out.e.c.o e.symm D.out.e.a θ rfl;have z:=yg v f.out.size;have L:Hid (ε w7 b 6 (J (S.b+1))/\ε w7 b 17 o.g):=by have h4:=HS.out _ f;exact⟨(x.cell_far ⟨b,6,none⟩ z nb).trans h4.1,(x.cell_far ⟨b,17,none⟩ z nb).trans h4.2⟩
  have W:=ah (D.out.a8 f x (e:=⟨3,S.b+1,0,0,m,⟨#[]⟩⟩) E (Q.imp id λe=>ω));have d2:w7.frozen? (aT b 17)=false:=by rw[x.frozen_far ⟨b,17,none⟩ z nb];exact(D.out.e.a.c f v).b 17
  clear E x Q R a HE I f HS nb z;refine c.out _ _ (λ_=>L) λa=>?_;clear c K;have a:=a θ;refine te 13 λK c=>?_;go_simp;refine c.out _ _ (λ_=>L) λa=>?_;clear c K;refine te 14 λK c=>?_;go_simp;refine c.out _ _ (λ_=>L) λa=>?_;clear c K;have a:=a θ;refine te 15 λK c=>?_;go_simp;refine c.out _ _ (λh=>absurd rfl h) λ_=>?_;clear c K;refine gl.done κ ?_ _;go_wp2_with fail;go_end0;obtain⟨o',ho⟩:=W.out;exact⟨rfl,o',H5.out.a ho⟩
def iV.c{R:ϑ}{d:Option Nat}{L:Option Bal}{c:Θ}{a:List (Θ×Θ)}{x:Nat}{B:Bal}(f:d=Option.some x)(e:L=Option.some B)(h:fD w R B x c a):iV w R d L c a:=by subst f e;exact h
def kP:∀{L:List Lft}{lvs:List (Θ×Θ)},lvs.length=L.length->∀(e:Lft)(v:Θ×Θ),bV (L++[e]) (lvs++[v])=bV L lvs++[J e.m,v.1,v.2]
 |[],[],_,e,v=>by simp[bV]
 |a::L,u::lvs,h,e,v=>by have:=kP (by simpa using h) e v;simp only[Ft,bV,this];simp
 |[],_::_,h,_,_=>by simp at h
 |_::_,[],h,_,_=>by simp at h
def PP.b5(p:PP w F b S o):PA w (λx=>F x/\¬o.X x) b (o.q S) S.q o.l S.j (S.e.map lF) o.kb o.m o.k o.n o.j o.g o.d:=by
 have q:=p.e;have d:∀{x},o.U b x->¬o.X x:=λm a=>p.nx a m;have k:∀{x e t},w.heap[x]?=some (.cells e t (0,0))->(t=3\/t=69)->¬o.X x:=λh s a=>by obtain⟨_,u,j,f⟩:=p.q a;rw[h]at j;cases j;rcases s with rfl|rfl<;>simp at f
 refine⟨q.a,q.e,q.map,q.o,q.i,λx a=>⟨⟨(q.d x a).1.d,λg c=>⟨(q.d x a).1.c g c,?_⟩⟩,(q.d x a).2⟩,⟨q.c.d,λg c=>⟨q.c.c g c,d (.inr (.inr (.inr (.inl c))))⟩⟩,⟨q.f.d,λg c=>⟨q.f.c g c,d (.inr (.inr (.inr (.inr c))))⟩⟩,⟨q.t,d (.inl rfl)⟩,⟨q.z,k q.e.c (.inr rfl)⟩,⟨q.s,d (.inr (.inl rfl))⟩,λr i=>⟨q.fr r i,d (.inr (.inr (.inl i)))⟩⟩;obtain⟨e,n⟩:=(q.d x a).1.m c;exact k n (.inl rfl)
def PP.a2(p:PP w F b S o){s:Δ}(f:w.grownBy s o.i.ownBlock){g d:Nat}{e:Lft}{N O:Θ}(P:s.ownsRow 0 249 3 (sT g (S.i.length+1) d) (S.i.length+1) (bV S.i o.f++[J e.m,N,O]))(hg:o.i.ownBlock=some g\/w.heap.size<=g)(hc:aE w (o.R F b) N e.a)(hm:bI w (o.R F b) O e.b):To w F b o (s.setCell ⟨b,16,none⟩ (sT g (S.i.length+1) d)) {S with i:=S.i++[e]} {o with i:=sT g (S.i.length+1) d,f:=o.f++[(N,O)]}:=by
 have Y:∀x,({o with i:=sT g (S.i.length+1) d,f:=o.f++[(N,O)]}:Pl).M b x->o.M b x\/w.heap.size<=x:=λx c=>by
  rcases c with h|h|h|h;exact .inl (.inl h);exact .inl (.inr (.inl h));exact .inl (.inr (.inr (.inl h)));have:g=x:=by simpa[Value.ownBlock]using h
  subst this;exact hg.imp (λh=>.inr (.inr (.inr h))) id
 have Z:∀x,x<w.heap.size->x≠b->o.i.ownBlock≠some x->(s.setCell ⟨b,16,none⟩ (sT g (S.i.length+1) d)).heap[x]?=w.heap[x]?:=λx c z C=>(Below.heap_setCell _ _ _ _ z).trans (f.block x c λe=>C e.symm);have A:w.heap.size<=(s.setCell ⟨b,16,none⟩ (sT g (S.i.length+1) d)).heap.size:=by simpa using f.size
 have j:jo (o.R F b) (({o with i:=sT g (S.i.length+1) d,f:=o.f++[(N,O)]}:Pl).R F b) w (s.setCell ⟨b,16,none⟩ (sT g (S.i.length+1) d)):=⟨A,λx U c=>⟨⟨U.1,λh=>(Y x h).elim U.2 λe=>ω⟩,Z x c (λe=>U.2 (.inl (.inl e))) λe=>U.2 (.inr (.inr (.inr e)))⟩⟩;have a0:∀x,o.i.ownBlock=some x->x≠b:=λx c e=>p.nx (.inr (.inr c)) (.inl e);have a2:=hg.elim (a0 g) λh=>by have:=p.e.a.f;omega
 have H:=p.b5.u λx c V=>f.block x V λe=>c.2 (.inr (.inr e.symm));have hX:=λx c C=>Z x (p.n c) (λe=>p.nx c (.inl e)) C;have hB:=H.a.e 16 (sT g (S.i.length+1) d);have K:∀{e sz:Nat}{v:Θ}{n:Nat}{xs:List Θ},e≠159->eB s (λx=>F x/\¬o.X x) e sz v n xs->eB (s.setCell ⟨b,16,none⟩ (sT g (S.i.length+1) d)) (λx=>F x/\¬o.X x) e sz v n xs:=λhe r=>r.i λx c=>Below.heap_setCell _ _ _ _ (r.o c H.a he);refine⟨⟨?_,p.ms,λx c=>?_,λx c=>p.up x (yr A c),p.vote.f j,?_,?_⟩,⟨f.os,f.tape,f.output,A,λx c hn=>Z x c (λe=>hn (.inl (.inl e))) λe=>hn (.inr (.inr (.inr e)))⟩,Y⟩;exact(H.p (h':=zc {S with i:=S.i++[e]} o.h (sT g (S.i.length+1) d) o.c) rfl hB (λx _ z _ _=>Below.heap_setCell _ _ _ _ z) (K θ H.c) (K θ H.f)).k λx c=>c.1;rcases Y x (.inr c)with h|h;exact p.mf h;exact p.up x h
 .rcases p.lead.cases with ⟨G,W⟩|⟨x,B,G,W,C⟩;show iV _ _ o.c S.d _ _;rw[G,W];trivial;have I:∀{y t a1},w.heap[y]?=some (.cells a1 t (0,0))->t≠249->o.i.ownBlock≠some y:=λh ht e=>by rcases p.left.d.2 with ⟨l,-⟩|⟨g',E,L,l,-,q,-⟩;rw[l]at e;cases e;rw[l]at e;cases e;rw[h]at q;cases q;exact ht rfl
  have k:=C.g j (hX x (.inl G) (I C.c θ)) λy T=>by rcases C.d.2 with ⟨l,-⟩|⟨g',E,L,l,-,q,-⟩;rw[l]at T;cases T;rw[l]at T;cases T;exact hX _ (.inr (.inl ⟨by rw[G];rfl,by rw[l];rfl⟩)) (I q θ)
  exact iV.c G W k
 refine⟨by simp[p.left.f],?_,λi a v u D=>?_⟩
 .show World.ownsRow _ 0 249 3 _ _ _;rw[kP p.left.f,yC];exact aj P λx c=>by
   have:g=x:=by simpa[Value.ownBlock]using c
   subst this;exact Below.heap_setCell _ _ _ _ a2
 have Q:=p.left.f;by_cases hi:i<S.i.length;rw[y7 hi]at u;rw[y7 ω]at D;exact⟨(p.left.e i a v u D).1.f j,(p.left.e i a v u D).2.c j⟩;rw[Fl ω]at u;rw[Fl ω,Q]at D;have l:=(ym.1 u).1;simp only[yx,yD]at l;rw[show i-S.i.length=0 by omega]at u D;simp only[AH,yA]at u D;subst u D;exact⟨hc.f j,hm.c j⟩
def Ek(p:PP w F b S o):Do 70 #[pT b 0] (J (if S.f then 6 else 0)) w F b o S.crash:=by
 have c:=p.a;have g:=c.a 3 _ rfl;have j:=c.b 3;simp only[yf,yd,ye]at g;have i:Hid (∃f,To w F b o _ S.crash f):=⟨_,p.head (cW.a 3 _) (c.e 3 _) rfl rfl rfl rfl rfl rfl p.vote (.inl ⟨rfl,rfl⟩)⟩;have d:Hid (S.f=true->∃f,To w F b o w S.crash f):=λe=>⟨o,by rw[show S.crash=S by unfold PS.crash;rw[<-e]];exact To.f p⟩;clear p c;cases a:S.f with
 |true=>
  rw[a]at g;have HF':=ah (d.out a);clear d i a;go_enter func70,ntmps70;go_wp2;go_ret;exact⟨rfl,HF'.out⟩
 |false=>
  rw[a]at g;clear d a;go_enter func70,ntmps70;go_wp2;go_ret;exact⟨rfl,i.out⟩
def oD(p:PP w F b S o):ϖ 105 #[pT b 0] w λe g=>ϱ e (J S.MC)/\g=w:=by have c:=p.a;have d:=c.a 3 _ rfl;have f:=c.a 4 _ rfl;simp only[yf,yd,ye]at d f;have a:Hid (S.MC=if S.f then 6 else if S.out then 7 else 0):=rfl;clear p c;generalize S.MC=v at a⊢;generalize S.f=x at d a;generalize S.out=y at f a;cases x<;>cases y<;>(have e:=a.out;simp only[yH,if_true,if_false]at e;subst e;clear a;go_enter func105,ntmps105;go_wp2;go_ret;exact⟨rfl,rfl⟩)
def Ay(a:q<6):∃x:Int,x=Md.aO q/\wrap64 (2^q)=x/\Md.bj x:=⟨_,rfl,by
 match q,a with
 |0,_|1,_|2,_|3,_|4,_|5,_=>decide+kernel,.c a⟩
def wX(p:PP w F b S o)(k:Wf S)(r:q<6):Do 65 #[pT b 0,J q] (J (if q=S.c then 5 else S.MC)) w F b o (S.Mu q):=by
 have s:=p.a.y 0;simp at s;have f:=oD p;have j:Hid (∃A,To w F b o w S A):=⟨o,To.f p⟩;obtain⟨x,l,n,c⟩:=Ay r;have i:Hid (Do 106 #[pT b 0,J x] (.tuple #[]) w F b o (S.suspect (Md.aO q))):=l▸qm p k c;have z:0<=q:=ω;clear p k l c;by_cases e:q=S.c
 .have d:Hid (S.Mu q=S):=by unfold Hid PS.Mu;rw[if_neg];rintro⟨h,-⟩;exact h e
  have u:q=S.c:=by rw[e]
  rw[if_pos e,d.out];go_enter func65,ntmps65;go_wp2;go_ret;exact⟨rfl,j⟩
 have u:¬q=S.c:=ω;rw[if_neg e];by_cases g:S.MC=0
 .have d:Hid (S.Mu q=S.suspect (Md.aO q)):=by unfold Hid PS.Mu;rw[if_pos ⟨e,g⟩]
  rw[d.out,g];rw[g]at f;have a:Hid (ϖ 105 #[pT b 0] w λe t=>ϱ e (J 0)/\t=w):=f;have D:min q 64=q:=ω;go_enter func65,ntmps65;go_wp21;refine a.out.m ?_;rintro B rfl;go_wp21;rw[n];refine i.out.m ?_;rintro C m;go_wp2;go_ret;exact⟨rfl,(ah m)⟩
 have d:Hid (S.Mu q=S):=by unfold Hid PS.Mu;rw[if_neg];rintro⟨-,h⟩;exact g h
 have a:=ah f;rw[d.out];generalize S.MC=v at g a⊢;go_enter func65,ntmps65;go_wp21;refine a.out.m ?_;rintro B rfl;go_wp2;go_ret;exact⟨rfl,j⟩
def Gk:(prog.info? 249).map (λi=>(i.zero,i.size,i.bytes))=some (some (.agg #[J 0,sN,sN]),3,56):=κ
def qun(p:PP w F b S o)(Q:Wf S)(ho:S.out=false){m:Int}(hm:Md.bj m){c:Υ}{cv:Θ}(hv:aE w (o.R F b) cv c)(hl:c.length=S.n):Do 258 #[pT b 0,J m,cv] (.tuple #[]) w F b o (S.install m c):=by
 obtain⟨s,t,x,rfl⟩:=hv.a;obtain⟨i0,b4,b2,b3,b0⟩:=info_parts Gk;have HD:=ah (nh p Q hv hl);have kp:=Md.eh S c;have HN:Hid (∀k f,To w F b o k (S.Mb c) f->aE k (f.R F b) (.slice s t x) c/\c.length=(S.Mb c).n/\(S.Mb c).i.length<=2147483648/\Wf (S.Mb c)):=λk f h=>by refine⟨hv.f h.d,by rw[kp.n];exact hl,?_,Q.d c⟩;rw[kp.h,Q.left.2 ho];have:=Q.view;omega
 have b6:0<=S.c:=ω;have HI:Hid (S.install m c=if Md.aV m S.c then ((S.Mb c).M6 m c).enter m else ((S.Mb c).M6 m c).Na):=rfl;have A:=kp.i;have a3:S.c<=63:=by have:=Q.num;have:=Q.c;omega
 have r:=gE m S.c;generalize S.install m c=X at HI⊢;generalize S.Mb c=T at HD HN A HI;go_enter func258,ntmps258;go_wp21;refine HD.out.m ?_;rintro k⟨f,h1⟩;have M:=ah h1;obtain⟨a5,b5,b7,a8⟩:=HN.out k f h1;have HV:=ah a5;have HW:Hid (Wf T):=a8;have U:=h1.c.a.y 16;simp at U;have Z:Hid (∀z,Below k k z->ε z b 16 f.i):=λz hw=>(hw.cell (p:=(aT b 16)) (ah h1.c.e.a.f)).trans U;have HH:Hid (∀z,Below k k z->ϖ 240 #[pT b 0,.slice s t x] z λe a1=>Below z z a1/\∃v,ϱ e v/\bI a1 (f.R F b) v (T.Mm c)):=λz hw=>lA (M.out.c.c hw) HW (HV.out.f (M.out.c.d hw).d) b5;go_wp21;refine gl.b (λz=>z.cell? _=some f.i) 15 rfl (Z.out _ (Below.refl _ _).drew) λa=>?_;(iterate 9 refine χ ?_);refine te 9 λK d=>?_;go_simp;refine(HH.out _ (Below.refl _ _).drew).mono ?_;rintro e j⟨a4,mv,rfl,P⟩;obtain⟨D,B,G,rfl⟩:=P.a;have l:Hid (Below k k j):=((Below.refl _ _).drew).trans (a4.mono ς);refine d.out _ _ (λ_=>Z.out _ l) λa=>?_;have a:=a θ;refine te 10 λK d=>?_;go_simp;refine d.out _ _ (λ_=>Z.out _ l) λa=>?_;have a:=a θ;refine te 11 λK d=>?_;go_simp;have i:Hid (Below k k (j.alloc (.cells #[J m,.slice s t x,.slice D B G] 249))):=l.out.alloc l.out.size _;have y:Hid (Below j j (j.alloc (.cells #[J m,.slice s t x,.slice D B G] 249))):=(Below.refl _ _).alloc (yb _) _;have HE:Hid (af (j.alloc (.cells #[J m,.slice s t x,.slice D B G] 249)) j 249 #[J m,.slice s t x,.slice D B G]):=af.d j j rfl 249 _;have E:Hid ((j.alloc (.cells #[J m,.slice s t x,.slice D B G] 249))=j.heap.size+1):=by simp[Hid]
 refine d.out _ _ (λ_=>Z.out _ i) λa=>?_;have a:=a θ;generalize (j.alloc (.cells #[J m,.slice s t x,.slice D B G] 249))=w4 at i y HE E a⊢;have P4:=ah (M.out.c.c i);refine te 12 λK d=>?_;refine step_append_lies w4 rfl (.tmp 13) (.tmp 20) 157 rfl 0 249 i0 _ 3 56 underlying157 b4 b2 b3 b0 rfl θ f.i T.i.length (bV T.i f.f) rfl P4.out.left.d ⟨j,0,none⟩ 1 1 [J m,.slice s t x,.slice D B G] rfl rfl (World.news_of_block HE) (by intro u hu;simp at hu;rcases hu with rfl|rfl|rfl<;>rfl) ω (by simp[maxLen];omega) ω (oI _) (j.heap.size+1) E ?_;intro g I w5 O H a0 a9;have nb:some b≠f.i.ownBlock:=λe=>P4.out.nx (.inr (.inr e.symm)) (.inl rfl);have W:=P4.out.e.a.f;have L:=ah ((H.cell_far ⟨b,16,none⟩ W nb).trans (Z.out _ i));have N:Hid (To w4 F b f (w5.setCell ⟨b,16,none⟩ (sT g (T.i.length+1) I)) (T.M6 m c) {f with i:=sT g (T.i.length+1) I,f:=f.f++[(.slice s t x,.slice D B G)]}):=P4.out.a2 H (e:=⟨m,c,T.Mm c⟩) O (a0.imp id λe=>by have:=E.out;omega) (ah (HV.out.f (M.out.c.d i).d)) (ah ((ah P).out.c ((M.out.c.c l).d y).d));have b1:w5.frozen? (aT b 16)=false:=by rw[H.frozen_far ⟨b,16,none⟩ W nb];exact P4.out.e.a.b 16
 have C:=ah ((M.out.a (M.out.c.d i)).a N);refine d.out _ _ (λ_=>L) λa=>?_;have a:=a θ;refine te 13 λK d=>?_;go_simp;refine d.out _ _ (λ_=>L) λa=>?_;refine te 14 λK d=>?_;go_simp;refine d.out _ _ (λ_=>L) λa=>?_;have a:=a θ;refine te 15 λK d=>?_;go_simp;refine d.out _ _ (λh=>absurd rfl h) λ_=>?_;refine gl.done κ ?_ _;generalize ({f with i:=sT g (T.i.length+1) I,f:=f.f++[(.slice s t x,.slice D B G)]}:Pl)=o2 at C;generalize w5.setCell ⟨b,16,none⟩ (sT g (T.i.length+1) I)=w6 at C⊢;have c0:=C.out.c.a.y 0;simp at c0;rw[show (T.M6 m c).c=S.c from A]at c0;go_wp21;refine(r w6 a3).m ?_;rintro w7 rfl;have hH:jc m S.c=Md.aV m S.c:=rfl;rw[hH];cases hc:Md.aV m S.c with
 |true=>
  have HX:Hid (X=(T.M6 m c).enter m):=by have:=HI.out;rw[hc]at this;exact this
  go_wp21;refine(ah (Em C.out.c (HW.out.v m c) hm)).out.m ?_;rintro w8⟨o3,h3⟩;have H3:Hid (∃o',To w F b o w8 X o'):=⟨o3,by rw[HX.out];exact C.out.a h3⟩;go_wp21;go_end0;exact⟨rfl,H3⟩
 |false=>
  have HX:Hid (X=(T.M6 m c).Na):=by have:=HI.out;rw[hc]at this;exact this
  go_wp21;refine(ah (xX C.out.c (HW.out.v m c))).out.m ?_;rintro w8⟨o3,h3⟩;have H3:Hid (∃o',To w F b o w8 X o'):=⟨o3,by rw[HX.out];exact C.out.a h3⟩;go_wp21;go_end0;exact⟨rfl,H3⟩
def kr{e i:Nat}{v:Θ}{n:Nat}{f:List Θ}(d:w.ownsRow 0 e i v n f)(c:v.ownBlock=some x):∃a,w.heap[x]?=some (.cells a e (0,0)):=by rcases d.2 with ⟨h,-⟩|⟨k,g,a,rfl,-,j,-⟩;rw[h]at c;cases c;cases c;exact⟨a,j⟩
def PP.m(p:PP w F b S o){B':Bal}(j:o.c=some x)(H:S.d=some B){av':Θ}{avs':List (Θ×Θ)}(f:cW (λy=>y=x\/o.e.ownBlock=some y) w w')(m:af w' x 234 (bu B' av'))(q:avs'.length=B'.i.length)(n:w'.ownsRow 0 237 4 av' B'.i.length (bF B'.i avs'))(l:∀(i:Nat)a v,B'.i[i]?=some a->avs'[i]?=some v->aE w (o.R F b) v.1 a.1/\aE w (o.R F b) v.2 a.2.a)(z:∀g,av'.ownBlock=some g->o.e.ownBlock=some g\/w.heap.size<=g):To w F b o w' {S with d:=some B'} {o with e:=av',a:=avs'}:=by
 have A:∀y,(y=x\/o.e.ownBlock=some y)->o.X y:=λy d=>d.elim (λe=>.inl (by rw[j,e])) λe=>.inr (.inl ⟨by rw[j];rfl,e⟩);have u:∀y,({o with e:=av',a:=avs'}:Pl).M b y->o.M b y\/w.heap.size<=y:=λy d=>by rcases d with h|h|⟨c,s⟩|h;exact .inl (.inl h);exact .inl (.inr (.inl h));exact(z y s).imp (λe=>.inr (.inr (.inl ⟨c,e⟩))) id;exact .inl (.inr (.inr (.inr h)))
 have k:jo (o.R F b) (({o with e:=av',a:=avs'}:Pl).R F b) w w':=⟨f.size,λg C r=>⟨⟨C.1,λh=>(u g h).elim C.2 λe=>ω⟩,f.block g r λe=>C.2 (.inr (A g e))⟩⟩;have D:=λg r=>f.block g (p.n (.inr (.inr r))) λe=>by obtain⟨I,G⟩:=kr p.left.d r;rcases e with e|e;have c:=(p.f j H).c;rw[<-e]at c;have c:w.heap[g]?=_:=c;rw[G]at c;cases c;obtain⟨E,c⟩:=kr (p.f j H).d e;rw[G]at c;cases c
 refine⟨⟨?_,p.ms,λy d=>(u y (.inr d)).elim p.mf (p.up y),λy d=>p.up y (yr f.size d),p.vote.f k,?_,p.left.c k D⟩,f.e λy _ d=>.inr (A y d),u⟩;exact(p.b5.u λy d t=>f.block y t λe=>d.2 (A y e)).k λy d=>d.1;exact iV.c j rfl ⟨m,q,n,λi a v c s=>⟨(l i a v c s).1.f k,(l i a v c s).2.f k⟩⟩
def PP.a1(p:PP w F b S o){d:Δ}(z:Below w w d)(l:w.heap.size<=x)(A:B.i=[])(k:af d x 234 (bu B (sN))):To w F b o (d.setCell ⟨b,13,none⟩ (pT x 0)) {S with d:=some B} {o with c:=some x,e:=sN,a:=[]}:=by
 have s:=p.c z;have C:x≠b:=λe=>by have:=p.e.a.f;omega
 have G:=z.size;have j:w.heap.size<=(d.setCell ⟨b,13,none⟩ (pT x 0)).heap.size:=by simpa using G
 have O:∀y,({o with c:=some x,e:=sN,a:=[]}:Pl).X y->y=x\/o.i.ownBlock=some y:=λy c=>by rcases c with h|⟨-,h⟩|h;cases h;exact .inl rfl;cases h;exact .inr h
 have I:∀y,({o with c:=some x,e:=sN,a:=[]}:Pl).M b y->o.M b y\/w.heap.size<=y:=λy c=>by rcases c with h|h;exact .inl (.inl h);rcases O y h with h|h;exact .inr (h▸l);exact .inl (.inr (.inr (.inr h)))
 have u:∀y,y≠b->(d.setCell ⟨b,13,none⟩ (pT x 0)).heap[y]?=d.heap[y]?:=λy c=>Below.heap_setCell _ _ _ _ c;have m:cW (o.M b) w (d.setCell ⟨b,13,none⟩ (pT x 0)):=(p.d z).e.c ((cW.a 13 _).e λy _ c=>.inl (.inl (.inl c)));have q:jo (o.R F b) (({o with c:=some x,e:=sN,a:=[]}:Pl).R F b) w _:=⟨j,λg H f=>⟨⟨H.1,λh=>(I g h).elim H.2 λe=>ω⟩,m.block g f H.2⟩⟩;have E:=s.e.a.e 13 (pT x 0);have t:∀{e N:Nat}{v:Θ}{n:Nat}{K:List Θ},e≠159->eB d F e N v n K->eB _ F e N v n K:=λP r=>r.i λg f=>u g (r.o f s.e.a P);refine⟨⟨?_,p.ms,λy c=>?_,λy c=>p.up y (yr j c),p.vote.f q,?_,p.left.c q λg f=>?_⟩,m,I⟩;exact s.e.p rfl E (λy _ D _ _=>u y D) (t θ s.e.c) (t θ s.e.f);rcases O y c with h|h;exact h▸p.up x l;exact p.fx y (.inr (.inr h));exact iV.c rfl rfl ⟨(u x C).trans k,by rw[A];rfl,by rw[A];exact⟨rfl,.inl ⟨rfl,rfl⟩⟩,λi a v L _=>by rw[A]at L;cases L⟩;exact(u g λe=>p.nx (.inr (.inr f)) (.inl e)).trans (z.block g (p.n (.inr (.inr f))))

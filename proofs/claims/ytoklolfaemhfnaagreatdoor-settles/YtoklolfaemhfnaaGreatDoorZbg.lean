import Derived.Test.YtoklolfaemhfnaaGreatDoorZbf
set_option maxRecDepth 100000
set_option maxHeartbeats 0
set_option linter.defProp false
open Go.Proofs.Tryz
namespace Go.Proofs.Y
section
open Go.RowKit
open Md (PS Vote Bal Lft Wf MsgW Sends)
variable {w w':Δ}{F:ϑ}{b:Nat}{S:PS}{o:Pl}{R:ϑ}
def gI(hb:Ϟ w w'):jo R R w w':=⟨hb.size,λg hg hlt=>⟨hg,hb.block g hlt⟩⟩
def BM(hR:∀y,w.heap.size<=y->R y){B:Bal}{x n:Nat}{av:Θ}{avs:List (Θ×Θ)}(h:fD w R B x av avs)(hfew:B.i.length<=1000)(hl:∀a∈B.i,a.1.length=n)(ne:B.i≠[])(hn6:n<=6)(hn0:1<=n):ϖ 238 #[pT x 0] w λe w'=>Ϟ w w'/\∃co cn ck,ϱ e (.agg #[J B.b.b,J B.b.m,.slice co cn ck])/\aE w' R (.slice co cn ck) B.b.a:=by
 have later:∀w',Ϟ w w'->fD w' R B x av avs:=λw' hw=>h.g (gI hw) (hw.block x h.c.f) λg hg=>
  let ⟨cur,hc⟩:=kr h.d hg
  hw.block g (yk.1 hc).1
 have HH:Hid (∀w',Ϟ w w'->ϖ 269 #[pT x 0] w' λe w''=>Ϟ w' w''/\∃co cn ck,ϱ e (.agg #[J B.h.b,J B.h.m,.slice co cn ck])/\aE w' R (.slice co cn ck) B.h.a):=λw' hw=>by apply (ze (later w' hw) hfew).mono;rintro e w''⟨hb,cv,rfl,hn⟩;obtain⟨co,cn,ck,rfl⟩:=hn.a;exact⟨hb,co,cn,ck,rfl,hn⟩
 have HGR:Hid (∀w',Ϟ w w'->ϖ 270 #[pT x 0] w' λe w''=>Ϟ w' w''/\∃g cap,ϱ e (sT g n cap)/\w<=g/\g<w''/\w'<=g/\aE w'' R (sT g n cap) B.j):=λw' hw=>by
  apply (vP (later w' hw) hfew hl ne hn6 hn0).mono;rintro e w''⟨hb,g,cap,rfl,hown⟩;have hg:=hown.lt g rfl;refine⟨hb,g,cap,rfl,yr hw.size hg.1,hg.2,hg.1,?_⟩;refine⟨by rw[(Md.lW hl ne)];exact aD hown (oI _),λy hy=>?_⟩;have:g=y:=by simpa[Value.ownBlock]using hy
  subst this;exact hR _ (yr hw.size hg.1)
 have HX:Hid (∀w',Ϟ w w'->ε w' x 0 (J B.g)/\ε w' x 3 (J B.a)):=λw' hw=>⟨(later w' hw).c.a 0 _ rfl,(later w' hw).c.a 3 _ rfl⟩;have HCH:Hid (B.b=if B.h.b=0 then ⟨B.g,B.a,B.j⟩ else {B.h with b:=B.g}):=rfl;have HB0:Hid (Ϟ w (w.alloc (.cells #[J 0,J 0,sN] 154))):=Ϡ.alloc Ϫ _;have HX0:Hid (af (w.alloc (.cells #[J 0,J 0,sN] 154)) w 154 #[J 0,J 0,sN]):=af.d w w rfl 154 _;generalize B.b=Z at HCH|-;generalize B.h=V at HH HCH;generalize B.j=Gr at HGR HCH;go_enter func238,ntmps238;refine wp_seq_k λK hK=>?_;have HK1:Hid (∀a w,_->K a w):=hK;clear hK;go_wp21;apply HK1;generalize w.alloc (.cells #[J 0,J 0,sN] 154)=w0 at HB0 HX0|-;refine wp_seq_k λK hK=>?_;have HK1:Hid (∀a w,_->K a w):=hK;clear hK;go_wp21;apply (HH w0 HB0).mono;rintro e w1⟨hb1,ko,kn,kk,rfl,hn⟩;have HB1:Hid (Ϟ w w1):=HB0.trans (hb1.mono HB0.size);have HX1:Hid (af w1 w.heap.size 154 #[J 0,J 0,sN]):=HX0.c hb1 HX0.f;have HN1:Hid (aE w1 R (.slice ko kn kk) V.a):=hn.f (gI hb1);have hs1:Hid (w.heap.size<w1):=HX1.f;have HB2:Hid (Ϟ w1 (w1.alloc (.cells #[J V.b,J V.m,.slice ko kn kk] 154))):=Ϡ.alloc Ϫ _;have X3:=af.d w1 w1.heap.size rfl 154 #[J V.b,J V.m,.slice ko kn kk];have q0:=X3.y 0;have q1:=X3.y 1;have q2:=X3.y 2;have f0:=X3.b 0;have f1:=X3.b 1;have f2:=X3.b 2;simp only[yf,yd,ye]at q0 q1 q2;have HX3:Hid (af (w1.alloc (.cells #[J V.b,J V.m,.slice ko kn kk] 154)) w1.heap.size 154 #[J V.b,J V.m,.slice ko kn kk]):=X3;have HBW:Hid (Ϟ w (w1.alloc (.cells #[J V.b,J V.m,.slice ko kn kk] 154))):=HB1.trans (HB2.mono HB1.size);have HRW:Hid (af (w1.alloc (.cells #[J V.b,J V.m,.slice ko kn kk] 154)) w.heap.size 154 #[J 0,J 0,sN]):=HX1.c HB2 HX1.f;have HNW:Hid (aE (w1.alloc (.cells #[J V.b,J V.m,.slice ko kn kk] 154)) R (.slice ko kn kk) V.a):=HN1.f (gI HB2);have hXle:Hid (w.heap.size<=w1):=HB1.size;have hne:Hid (w.heap.size≠w1.heap.size):=by have:=hs1.out;unfold Hid;lia
 have HXW:=HX3;go_wp21;apply HK1;generalize w1.alloc (.cells #[J V.b,J V.m,.slice ko kn kk] 154)=W at HBW HRW HXW HNW q0 q1 q2 f0 f1 f2|-;generalize w1.heap.size=X at HXW hXle hne q0 q1 q2 f0 f1 f2|-;by_cases hv:V.b=0
 .have HZ:Hid (Z=⟨B.g,B.a,Gr⟩):=by rw[Hid,HCH,if_pos hv]
  go_wp21
  refine gl.b (λw'=>ε w' x 3 (J B.a)) 7 rfl (HX _ HBW.drew).2 λhHeld=>?_;(iterate 5 refine χ ?_);refine te 5 λK hK=>?_;go_simp;apply (HGR _ HBW.drew).mono;rintro e w3⟨hb3,g,cap,rfl,hg1,hg2,hg3,hn⟩;have HB3:Hid (Ϟ w w3):=HBW.drew.trans (hb3.mono HBW.drew.size);have HXW3:Hid (af w3 X 154 #[J V.b,J V.m,.slice ko kn kk]):=HXW.i.c hb3 HXW.i.f;have HRW3:Hid (af w3 w.heap.size 154 #[J 0,J 0,sN]):=HRW.i.c hb3 HRW.i.f;have HN3:Hid (aE w3 R (sT g n cap) Gr):=hn;refine hK.out _ _ (λ_=>(HX _ HB3).2) λhHeld=>?_;have hHeld:=hHeld θ;have d0:=HXW3.y 0;have d1:=HXW3.y 1;have d2:=HXW3.y 2;have f0:=HXW3.b 0;have f1:=HXW3.b 1;have f2:=HXW3.b 2;simp only[yf,yd,ye]at d0 d1 d2;apply tw 6;refine te 7 λK hK=>?_;go_simp;refine hK.out _ _ (λh=>absurd rfl h) λ_=>?_;refine gl.done κ ?_ _
  let ⟨s1,s2⟩:=jX HXW3 (J 0) (J B.a) (sT g n cap)
  have HXW:Hid (af (((w3.setCell ⟨X,0,none⟩ (J 0)).setCell ⟨X,1,none⟩ (J B.a)).setCell ⟨X,2,none⟩ (sT g n cap)) X 154 #[J 0,J B.a,sT g n cap]):=s1;have HRW:Hid (af (((w3.setCell ⟨X,0,none⟩ (J 0)).setCell ⟨X,1,none⟩ (J B.a)).setCell ⟨X,2,none⟩ (sT g n cap)) w.heap.size 154 #[J 0,J 0,sN]):=(s2.block _ hne).trans HRW3;have HBW:Hid (Ϟ w (((w3.setCell ⟨X,0,none⟩ (J 0)).setCell ⟨X,1,none⟩ (J B.a)).setCell ⟨X,2,none⟩ (sT g n cap))):=HB3.trans (s2.c hXle);have HNW:Hid (aE (((w3.setCell ⟨X,0,none⟩ (J 0)).setCell ⟨X,1,none⟩ (J B.a)).setCell ⟨X,2,none⟩ (sT g n cap)) R (sT g n cap) Gr):=⟨aj HN3.d λy hy=>s2.block y (HN3.o hy HXW3 θ),HN3.c⟩;generalize ((w3.setCell ⟨X,0,none⟩ (J 0)).setCell ⟨X,1,none⟩ (J B.a)).setCell ⟨X,2,none⟩ (sT g n cap)=W2 at HXW HRW HBW HNW|-;have hx0:=(HX _ HBW).1;have y0:=HXW.y 0;have hyf:=HXW.b 0;simp only[yf,yd]at y0;have hneX:w.heap.size≠X:=hne;have HX':Hid (af (W2.setCell ⟨X,0,none⟩ (J B.g)) X 154 #[J B.g,J B.a,sT g n cap]):=HXW.e 0 (J B.g);have HR':Hid (af (W2.setCell ⟨X,0,none⟩ (J B.g)) w.heap.size 154 #[J 0,J 0,sN]):=(Below.heap_setCell _ _ _ _ hneX).trans HRW;have y1:=HX'.y 0;have y2:=HX'.y 1;have y3:=HX'.y 2;have p0:=HR'.y 0;have p1:=HR'.y 1;have p2:=HR'.y 2;have pf0:=HR'.b 0;have pf1:=HR'.b 1;have pf2:=HR'.b 2;simp only[yf,yd,ye]at y1 y2 y3 p0 p1 p2
  let ⟨z1,z2⟩:=jX HR' (J B.g) (J B.a) (sT g n cap)
  have HFB:Hid (Ϟ w (((W2.setCell ⟨X,0,none⟩ (J B.g)).setCell ⟨w.heap.size,0,none⟩ (J B.g)).setCell ⟨w.heap.size,1,none⟩ (J B.a) |>.setCell ⟨w.heap.size,2,none⟩ (sT g n cap))):=(HBW.trans (((ej.d X W2).a 0 (J B.g)).c hXle)).trans (z2.c Ϫ);have HFN:Hid (aE (((W2.setCell ⟨X,0,none⟩ (J B.g)).setCell ⟨w.heap.size,0,none⟩ (J B.g)).setCell ⟨w.heap.size,1,none⟩ (J B.a) |>.setCell ⟨w.heap.size,2,none⟩ (sT g n cap)) R (sT g n cap) Z.a):=HZ▸⟨aj HNW.d λg hg=>(z2.block g (HNW.o hg HRW θ)).trans (Below.heap_setCell _ _ _ _ (HNW.o hg HXW θ)),HNW.c⟩;have r0:=z1.y 0;have r1:=z1.y 1;have r2:=z1.y 2;simp only[yf,yd,ye]at r0 r1 r2;go_wp21;apply bodyPost_ret (v:=.agg #[J B.g,J B.a,sT g n cap]) (by simp[results,results238,go_sem,r0,r1,r2]) rfl;exact⟨HFB,_,_,_,by rw[HZ],HFN⟩
 have HZ:Hid (Z={V with b:=B.g}):=by rw[Hid,HCH,if_neg hv]
 have hx0:=(HX _ HBW).1;have y0:=HXW.y 0;have hyf:=HXW.b 0;simp only[yf,yd]at y0;have hneX:w.heap.size≠X:=hne;have HX':Hid (af (W.setCell ⟨X,0,none⟩ (J B.g)) X 154 #[J B.g,J V.m,.slice ko kn kk]):=HXW.e 0 (J B.g);have HR':Hid (af (W.setCell ⟨X,0,none⟩ (J B.g)) w.heap.size 154 #[J 0,J 0,sN]):=(Below.heap_setCell _ _ _ _ hneX).trans HRW;have y1:=HX'.y 0;have y2:=HX'.y 1;have y3:=HX'.y 2;have p0:=HR'.y 0;have p1:=HR'.y 1;have p2:=HR'.y 2;have pf0:=HR'.b 0;have pf1:=HR'.b 1;have pf2:=HR'.b 2;simp only[yf,yd,ye]at y1 y2 y3 p0 p1 p2
 let ⟨z1,z2⟩:=jX HR' (J B.g) (J V.m) (.slice ko kn kk)
 have HFB:Hid (Ϟ w (((W.setCell ⟨X,0,none⟩ (J B.g)).setCell ⟨w.heap.size,0,none⟩ (J B.g)).setCell ⟨w.heap.size,1,none⟩ (J V.m) |>.setCell ⟨w.heap.size,2,none⟩ (.slice ko kn kk))):=(HBW.trans (((ej.d X W).a 0 (J B.g)).c hXle)).trans (z2.c Ϫ);have HFN:Hid (aE (((W.setCell ⟨X,0,none⟩ (J B.g)).setCell ⟨w.heap.size,0,none⟩ (J B.g)).setCell ⟨w.heap.size,1,none⟩ (J V.m) |>.setCell ⟨w.heap.size,2,none⟩ (.slice ko kn kk)) R (.slice ko kn kk) Z.a):=HZ▸⟨aj HNW.d λg hg=>(z2.block g (HNW.o hg HRW θ)).trans (Below.heap_setCell _ _ _ _ (HNW.o hg HXW θ)),HNW.c⟩;have r0:=z1.y 0;have r1:=z1.y 1;have r2:=z1.y 2;simp only[yf,yd,ye]at r0 r1 r2;go_wp21;apply bodyPost_ret (v:=.agg #[J B.g,J V.m,.slice ko kn kk]) (by simp[results,results238,go_sem,r0,r1,r2]) rfl;exact⟨HFB,_,_,_,by rw[HZ],HFN⟩
variable {B:Bal}{x j:Nat}{u:Θ}
def PP.k(p:PP w F b S o){B':Bal}(f:o.c=some x)(l:S.d=some B)(c:B'.i=B.i)(d:af (w.setCell ⟨x,j,none⟩ u) x 234 (bu B' o.e)):To w F b o (w.setCell ⟨x,j,none⟩ u) {S with d:=some B'} o:=by
 have a:=p.f f l;have i:∀g,o.e.ownBlock=some g->g≠x:=λg k e=>by
  let ⟨r,q⟩:=kr a.d k
  have m:_=_:=a.c;rw[<-e,q]at m;cases m
 refine p.m f l ((cW.a j u).e λy _ n=>.inl n) d (c▸a.f) (c▸aj a.d λg k=>Below.heap_setCell _ _ _ _ (i g k)) (c▸a.e) λ_ h=>.inl h
def cW.g{w:Δ}{X i k:Nat}{v t:Θ}:cW (λx=>x=X) w (((w.setCell ⟨X,i,none⟩ u).setCell ⟨X,j,none⟩ v).setCell ⟨X,k,none⟩ t):=⟨rfl,rfl,rfl,ς,λy _ a=>((Below.heap_setCell _ _ _ _ a).trans (Below.heap_setCell _ _ _ _ a)).trans (Below.heap_setCell _ _ _ _ a)⟩
def GG{q:Nat}(a:q<6):wrap64 (2^min q 64)=Md.aO q:=by obtain⟨x,rfl,h,-⟩:=Ay a;rwa [show min q 64=q by lia]
def Md.lh.h{n:Nat}{v:Vote}(h:Md.lh n v B):B.i.length<=6:=yr h.e (tX _)
def si(p:PP w F b S o)(wf:Wf S)(ho:S.out=false)(s:o.c=some x)(X:S.d=some B)(hs:S.e.length<=800000):Do 196 #[pT b 0] ϳ w F b o (S.MA B):=by
 have I:=p.a.z 13;rw[s]at I;simp only[eb,]at I;have C:=wf.lead B X;have L:Hid (∀d,Ϟ w d->ε d x 4 (J B.c)/\ε d x 3 (J B.a)):=λd hw=>⟨((p.c hw).f s X).c.a 4 _ rfl,((p.c hw).f s X).c.a 3 _ rfl⟩;have E:Hid (∀d,Ϟ w d->ϖ 237 #[pT b 0,J B.c] d λe a8=>ϱ e (.bool (S.Nj B.c))/\Ϟ d a8):=λd hw=>EM (p.c hw) wf C.answ;have H:Hid (S.MA B=if B.c=B.a&&S.Nj B.c then (({S with d:=some {B with e:=false,d:=Md.aO S.c},a:=B.b}:PS).Mj {B with e:=false,d:=Md.aO S.c}).installIf {B with e:=false,d:=Md.aO S.c} else S):=rfl;have HP:=ah p;have f:Hid (Wf S):=wf;have g:=ah s;have M:=ah X;have a6:=ah ho;generalize S.MA B=Z at H|-;go_enter func196,ntmps196;go_wp21;by_cases v:B.c=B.a
 .have O:=ah v;clear v;refine wp_region_held_drew (S:=λd=>ε d x 4 (J B.c)/\ε d x 3 (J B.a)) rfl (L _ Ϡ.drew) λc=>?_;(iterate 10 refine ψ ?_);rw[show (B.c !=B.a)=false by simp[O.out]];(iterate 5 refine ψ ?_);refine we 15 λK hK=>?_;go_simp;apply (E _ Ϡ.drew).m;rintro w1 a0;have k:Hid (Ϟ w w1):=(Ϡ.drew).trans (a0.mono ς);cases D:S.Nj B.c
  .have Q:Hid (Z=S):=by have:=H;rwa [D,Bool.and_false]at this
   refine hK.out _ _ (L _ k) λc=>?_;(iterate 2 refine ψ ?_);refine wpAnyH_done κ ?_ _;go_wp21;(try simp);apply bodyPost_ret (results_none rfl _ _ _) rfl;exact⟨rfl,o,Q▸HP.d k⟩
  have Q:Hid (Z=(({S with d:=some {B with e:=false,d:=Md.aO S.c},a:=B.b}:PS).Mj {B with e:=false,d:=Md.aO S.c}).installIf {B with e:=false,d:=Md.aO S.c}):=by have:=H;rwa [D,show decide (B.c=B.a)=true by simp[O.out]]at this
  refine hK.out _ _ (L _ k) λc=>?_;apply wk 16;apply wk 17;refine wpAnyH_done κ ?_ _;have P1:Hid (PP w1 F b S o):=HP.c k;have i:Hid (fD w1 (o.R F b) B x o.e o.a):=P1.f g M;have q1:=i.c.z 1;have f1:=i.c.b 1;simp only[bu,yf,yd,ye]at q1;have H2:Hid (To w F b o (w1.setCell ⟨x,1,none⟩ (.bool false)) {S with d:=some {B with e:=false}} o):=(HP.d k).a (P1.k g M rfl (i.c.e 1 _));go_wp21;generalize w1.setCell ⟨x,1,none⟩ (.bool false)=w2 at H2|-;have P2:Hid (PP w2 F b {S with d:=some {B with e:=false}} o):=H2.c;have U:Hid (ϖ 238 #[pT x 0] w2 λe d=>Ϟ w2 d/\∃l q r,ϱ e (.agg #[J B.b.b,J B.b.m,.slice l q r])/\aE d (o.R F b) (.slice l q r) B.b.a):=
   BM (B:={B with e:=false}) (λy hy=>P2.g hy) (P2.f g rfl) (by have:=(f.lead B M).h;show B.i.length<=1000;lia) (n:=S.n) (λa ha=>((f.lead B M).c a ha).1) (f.lead B M).f f.c f.n0
  apply U.mono;rintro e P⟨V,l,q,r,rfl,hn⟩;have H3:Hid (To w F b o P {S with d:=some {B with e:=false}} o):=H2.a (P2.d V);have HN:Hid (aE P (o.R F b) (.slice l q r) B.b.a):=hn;have A:=H3.c.a;have a4:=A.z 10;have a2:=A.z 11;have a1:=A.z 12;have b0:=A.b 10;have a7:=A.b 11;have a9:=A.b 12;have H4:Hid (To w F b o (((P.setCell ⟨b,10,none⟩ (J B.b.b)).setCell ⟨b,11,none⟩ (J B.b.m)).setCell ⟨b,12,none⟩ (.slice l q r)) {S with d:=some {B with e:=false},a:=B.b} {o with h:=.slice l q r}):=
   H3.a (H3.c.head (S':={S with d:=some {B with e:=false},a:=B.b}) (vc':=.slice l q r) (lb':=o.c) cW.g (((A.e 10 _).e 11 _).e 12 _) rfl rfl rfl rfl rfl rfl HN (.inl ⟨rfl,rfl⟩))
  have t:Hid (fD (((P.setCell ⟨b,10,none⟩ (J B.b.b)).setCell ⟨b,11,none⟩ (J B.b.m)).setCell ⟨b,12,none⟩ (.slice l q r)) (({o with h:=.slice l q r}:Pl).R F b) {B with e:=false} x o.e o.a):=H4.c.f g rfl;have d0:=H4.c.a.z 0;have d5:=t.c.z 5;have g5:=t.c.b 5;simp only[bu,yf,yd,ye]at d0 d5;have b1:(0:Int)<=(S.c:Int):=ω;have z:Hid (wrap64 (2^min S.c 64)=Md.aO S.c):=GG (ϵ f.num f.c);have H5:Hid (To w F b o ((((P.setCell ⟨b,10,none⟩ (J B.b.b)).setCell ⟨b,11,none⟩ (J B.b.m)).setCell ⟨b,12,none⟩ (.slice l q r)).setCell ⟨x,5,none⟩ (J (Md.aO S.c))) {S with d:=some {B with e:=false,d:=Md.aO S.c},a:=B.b} {o with h:=.slice l q r}):=H4.a (H4.c.k g rfl rfl (t.c.e 5 _));go_wp21;rw[z];generalize (((P.setCell ⟨b,10,none⟩ (J B.b.b)).setCell ⟨b,11,none⟩ (J B.b.m)).setCell ⟨b,12,none⟩ (.slice l q r)).setCell ⟨x,5,none⟩ (J (Md.aO S.c))=w5 at H5|-;have C:Hid (Md.lh S.n S.a B):=f.lead B M;have N:Hid (Wf {S with d:=some {B with e:=false,d:=Md.aO S.c},a:=B.b}):=f.a5 C;have W:Hid (ϖ 197 #[pT b 0] w5 λe d=>ϱ e ϳ/\∃o6,To w F b o d (({S with d:=some {B with e:=false,d:=Md.aO S.c},a:=B.b}:PS).Mj {B with e:=false,d:=Md.aO S.c}) o6/\o6.c=some x):=by apply (kS H5.c N (x:=x) (B:={B with e:=false,d:=Md.aO S.c}) g rfl C.d.2.1 (by show S.e.length<=_;lia)).m;rintro d⟨b3,h⟩;exact⟨rfl,_,H5.a h,g⟩
  apply W.m;rintro w6⟨o6,h6,a5⟩;have a3:Hid (ϖ 239 #[pT b 0] w6 λe d=>ϱ e ϳ/\∃Y,To w F b o d Z Y):=by have G:Sends ({S with d:=some {B with e:=false,d:=Md.aO S.c},a:=B.b}:PS) (({S with d:=some {B with e:=false,d:=Md.aO S.c},a:=B.b}:PS).Mj {B with e:=false,d:=Md.aO S.c}) ((jO ({S with d:=some {B with e:=false,d:=Md.aO S.c},a:=B.b}:PS) {B with e:=false,d:=Md.aO S.c}).length*1):=Md.bK _ 1 (λT _=>Md.ak T _) _ _;have hk:=G.a;have b2:(jO ({S with d:=some {B with e:=false,d:=Md.aO S.c},a:=B.b}:PS) {B with e:=false,d:=Md.aO S.c}).length<=6:=yr (gG _ S.n) f.c;apply (qtp h6.c (G.d N) (hk.out.trans a6) a5 (hk.f.trans rfl) (by rw[hk.c,hk.n];exact C.d.2.1) (by have h1:=G.b;have h2:({S with d:=some {B with e:=false,d:=Md.aO S.c},a:=B.b}:PS).e.length<=800000:=hs;lia)).m;rintro d⟨Y,h'⟩;exact⟨rfl,Y,Q▸h6.a h'⟩
  go_wp21
  apply a3.m;rintro w7 h7;have H7:Hid (∃Y,To w F b o w7 Z Y):=h7;go_wp21;go_end0;exact⟨rfl,H7⟩
 have Q:Hid (Z=S):=by have:=H;rwa [show decide (B.c=B.a)=false by simp[v],Bool.false_and]at this
 refine wp_region_held_drew (S:=λd=>ε d x 4 (J B.c)/\ε d x 3 (J B.a)) rfl (L _ Ϡ.drew) λc=>?_;(iterate 10 refine ψ ?_);rw[show (B.c !=B.a)=true by simp[v]];(iterate 8 refine ψ ?_);refine wpAnyH_done κ ?_ _;go_wp21;(try simp);apply bodyPost_ret (results_none rfl _ _ _) rfl;exact⟨rfl,o,Q▸HP.d Ϡ.drew⟩
def jh{x:Int}(c:0<=x)(a:x<1099511627776):IntKind.i64.wrap x=x:=by rw[IntKind.wrap_i64];lia
def DW(p:PP w F b S o)(W:Wf S)(ho:S.out=false)(hp:S.g<2147483640)(hs:S.e.length<=700000):Do 162 #[pT b 0] ϳ w F b o S.M5:=by
 have hN:=W.p hp;have b7:=W.prom.1;have c2:=yg W.num W.c;have c9:=p.a.y 9;have c0:=p.a.y 0;simp at c0 c9;have HE:Hid (IntKind.i64.wrap (IntKind.i64.wrap (IntKind.i64.wrap (IntKind.i64.wrap (S.g.tdiv 8)+1)*8)+S.c)=(S.g/8+1)*8+S.c):=by have hq:=W.prom.2;unfold Hid;rw[Int.tdiv_eq_ediv_of_nonneg b7,jh (x:=S.g/8) ω ω,jh (x:=S.g/8+1) ω ω,jh (x:=(S.g/8+1)*8) ω ω,jh ω ω]
 have HJ:Hid (∀c,Ϟ w c->ϖ 193 #[pT b 0,J ((S.g/8+1)*8+S.c)] c λe d=>ϱ e ϳ/\∃Z,To w F b o d (S.Mx ((S.g/8+1)*8+S.c)) Z):=λc l=>(p.d l).g (tQ (p.c l) _);have b3:Hid (∀c,Ϟ w c->ε c b 9 (J S.g)/\ε c b 0 (J S.c)):=λc l=>⟨(p.c l).a.a 9 _ rfl,(p.c l).a.a 0 _ rfl⟩;have k:Hid (Wf S):=W;have d2:=ah hN;have a8:=ah hp;go_enter func162,ntmps162;go_wp21;refine gl.b (λc=>ε c b 9 _/\ε c b 0 _) 13 rfl (b3 _ Ϡ.drew) λa=>?_;(iterate 13 refine χ ?_);refine te 13 λK g=>?_;go_simp;rw[HE];apply (HJ _ Ϡ.drew).m;rintro s⟨o1,h1⟩;have I:=ah h1;refine g.out _ _ (λh=>absurd rfl h) λ_=>?_;refine gl.done κ ?_ _;have c7:=I.c.a.y 7;have c8:=I.c.a.y 8;have c9:=I.c.a.y 9;have b8:=I.c.a.b 13;have v:Hid (∀c,Ϟ s c->ε c b 9 (J ((S.g/8+1)*8+S.c))/\ε c b 8 (J S.k)/\ε c b 7 (J S.m)/\c.frozen? (aT b 13)=false/\ε c b 13 (eb o1.c)):=λc l=>
  have h:=(I.c.c l).a
  ⟨h.y 9,h.y 8,h.y 7,h.b 13,h.y 13⟩
 have P:Hid (bits .andNot .i64 S.m S.k=Md.cX S.m S.k):=(cK k.mem k.sus).1;go_wp21;refine gl.b (λc=>ε c b 9 (J ((S.g/8+1)*8+S.c))/\ε c b 8 (J S.k)/\ε c b 7 (J S.m)/\c.frozen? (aT b 13)=false/\ε c b 13 (eb o1.c)) 22 rfl (v _ Ϡ.drew) λa=>?_;(iterate 18 refine χ ?_);rw[P];apply tw 18;refine te 19 λK g=>?_;go_simp;have q:Hid (Ϟ s (s.alloc (.cells #[J ((S.g/8+1)*8+S.c),.bool true,J S.k,J (Md.cX S.m S.k),J 0,J 0,sN] 234)).drew):=(Ϡ.alloc Ϫ _).drew;have X:Hid (af (s.alloc (.cells #[J ((S.g/8+1)*8+S.c),.bool true,J S.k,J (Md.cX S.m S.k),J 0,J 0,sN] 234)).drew s 234 (bu ⟨((S.g/8+1)*8+S.c),true,S.k,Md.cX S.m S.k,0,0,[]⟩ (sN))):=(af.d s s rfl 234 _).i;refine g.out _ _ (λ_=>v _ q) λa=>?_;have a:=a θ;generalize (s.alloc (.cells #[J ((S.g/8+1)*8+S.c),.bool true,J S.k,J (Md.cX S.m S.k),J 0,J 0,sN] 234)).drew=w2 at q X a|-;refine te 20 λK g=>?_;go_simp;refine g.out _ _ (λ_=>v _ q) λa=>?_;have a:=a θ;refine te 21 λK g=>?_;go_simp;refine g.out _ _ (λ_=>v _ q) λa=>?_;have a:=a θ
 let ⟨_,_,_,c3,c5⟩:=v _ q
 refine te 22 λK g=>?_;go_simp;refine g.out _ _ (λh=>absurd rfl h) λ_=>?_;refine gl.done κ ?_ _;have H3:Hid (To w F b o (w2.setCell ⟨b,13,none⟩ (pT s 0)) {S.Mx ((S.g/8+1)*8+S.c)with d:=some ⟨((S.g/8+1)*8+S.c),true,S.k,Md.cX S.m S.k,0,0,[]⟩} {o1 with c:=some s,e:=sN,a:=[]}):=I.a (I.c.a1 q Ϫ rfl X);generalize w2.setCell ⟨b,13,none⟩ (pT s 0)=z at H3|-;generalize s.heap.size=x at H3|-;have B:Hid (({o1 with c:=some x,e:=sN,a:=[]}:Pl).c=some x):=rfl;generalize ({o1 with c:=some x,e:=sN,a:=[]}:Pl)=A at H3 B;have U:Hid (PP z F b {S.Mx ((S.g/8+1)*8+S.c)with d:=some ⟨((S.g/8+1)*8+S.c),true,S.k,Md.cX S.m S.k,0,0,[]⟩} A):=H3.c
 let ⟨N,M,Q,H⟩:=U.vote.a
 have c4:Hid (A.h=.slice N M Q):=H
 let ⟨r,hr,a1,_,_⟩:=U.e.m k.num
 have D:S.Ml.length=S.n:=k.g.1;have L:Hid (∀c,Ϟ z c->ϖ 119 #[pT b 0] c λe d=>ϱ e (sT r S.n S.n)/\Ϟ c d):=λc l=>(np (U.c l) hr).mono λe d h=>⟨h.1,h.2.1⟩;have O:Hid (∀c,Ϟ z c->ϖ 118 #[sT r S.n S.n] c λe d=>∃t f,ϱ e (sT t S.n f)/\Ϟ c d/\aE d (A.R F b) (sT t S.n f) S.Ml):=λc l=>by
  have a5:af c r 3 (ints S.Ml).toArray:=a1.c l a1.f;have h1:=rN r S.n S.Ml c a5.f (λj u hj=>a5.a j u (ϰ hj)) (D▸k.c) (D▸k.n0);rw[D]at h1;apply h1.mono;rintro e d⟨t,f,rfl,V,hb⟩;refine⟨t,f,rfl,hb,by rw[D];exact aD V (oI _),λy hy=>?_⟩;have:t=y:=by simpa[Value.ownBlock]using hy
  subst this;exact U.g (yr l.size (V.lt t rfl).1)
 have a0:Hid (∀(c:Δ)(i:Θ×List (Θ×Θ)),(∃S':PS,PP c F b S' {A with e:=i.1,a:=i.2}/\S'.c=S.c/\S'.a=S.a)->ε c b 13 (pT x 0)/\ε c b 0 (J S.c)/\ε c b 10 (J S.a.b)/\ε c b 11 (J S.a.m)/\ε c b 12 (.slice N M Q)):=by rintro c i⟨S',pp,e1,e2⟩;have h:=pp.a;rw[e1,e2]at h;have b9:({A with e:=i.1,a:=i.2}:Pl).c=some x:=B;rw[b9]at h;have hv:({A with e:=i.1,a:=i.2}:Pl).h=.slice N M Q:=H;rw[hv]at h;exact⟨h.y 13,h.y 0,h.y 10,h.y 11,h.y 12⟩
 have G:Hid (∀c,Ϟ z c->ε c b 13 (pT x 0)/\ε c b 0 (J S.c)/\ε c b 10 (J S.a.b)/\ε c b 11 (J S.a.m)/\ε c b 12 (.slice N M Q)):=λc l=>a0 c (A.e,A.a) ⟨_,U.c l,rfl,rfl⟩;have b1:Hid (∀c t f,Ϟ z c->aE c (A.R F b) (sT t S.n f) S.Ml->ϖ 194 #[pT x 0,J S.c,.agg #[sT t S.n f,J S.a.b,J S.a.m,.slice N M Q]] c λe d=>ϱ e ϳ/\(∃E,To w F b o d S.l E/\E.c=some x)/\(ε d b 13 (pT x 0)/\ε d b 0 (J S.c)/\ε d b 10 (J S.a.b)/\ε d b 11 (J S.a.m)/\ε d b 12 (.slice N M Q))):=λc t f l hn=>by have p':=U.c l;have hv:=p'.vote;rw[H]at hv;apply (AA p' B rfl c2 Md.bj.b (oI _) (S.Ml,S.a) hn hv).m;rintro d⟨i,h⟩;have hT:To w F b o d S.l {A with e:=i,a:=A.a++[(sT t S.n f,.slice N M Q)]}:=(H3.a (U.d l)).a h;exact⟨rfl,⟨_,hT,B⟩,a0 d (i,_) ⟨_,hT.c,rfl,rfl⟩⟩
 go_wp21
 refine wp_region_held_drew (S:=λc=>ε c b 13 (pT x 0)/\ε c b 0 (J S.c)/\ε c b 10 (J S.a.b)/\ε c b 11 (J S.a.m)/\ε c b 12 (.slice N M Q)) rfl (G _ Ϡ.drew) λa=>?_;(iterate 9 refine ψ ?_);apply wk 11;apply wk 12;apply wk 13;apply wk 14;refine we 9 λK g=>?_;go_simp;apply (L _ Ϡ.drew).m;rintro w4 b6;have C:Hid (Ϟ z w4):=(Ϡ.drew).trans (b6.mono ς);refine g.out _ _ (G _ C) λa=>?_;refine we 10 λK g=>?_;go_simp;apply (O _ C).mono;rintro e w5⟨t,f,rfl,a7,b5⟩;have a2:Hid (Ϟ z w5):=C.trans (a7.mono C.size);have a6:Hid (aE w5 (A.R F b) (sT t S.n f) S.Ml):=b5;refine g.out _ _ (G _ a2) λa=>?_;apply wk 15;refine we 16 λK g=>?_;go_simp;apply (b1 w5 t f a2 a6).m;rintro w6⟨b0,a4⟩;have H6:Hid (∃E,To w F b o w6 S.l E/\E.c=some x):=b0;refine g.out _ _ a4 λa=>?_;refine wpAnyH_done κ ?_ _
 let ⟨E,h6,a3⟩:=H6
 have H7:Hid (To w F b o w6 S.l E):=h6;have a9:Hid (E.c=some x):=a3;have b4:Hid (ϖ 195 #[pT b 0] w6 λe c=>ϱ e ϳ/\∃c6,To w6 F b E c (S.l.Mi S.p) {E with d:=c6}):=mH h6.c (k.y a8) a3 rfl (by show S.e.length<=_;lia);go_wp21;apply b4.m;rintro w7⟨d1,h7⟩;have b2:Hid (ϖ 196 #[pT b 0] w7 λe c=>ϱ e ϳ/\∃Z,To w F b o c S.M5 Z):=by have Y:Sends S.l (S.l.Mi S.p) ((dt S.l S.p).length*1):=Md.bK _ 1 (λT _=>Md.ak T _) _ _;have hk:=Y.a;have d0:(dt S.l S.p).length<=6:=yr (gG _ S.n) k.c;apply (si h7.c (Y.d (k.y a8)) (hk.out.trans (ah ho)) (x:=x) (B:=S.p) a9 (hk.f.trans rfl) (by have h1:=Y.b;have h2:S.l.e.length<=700000:=hs;lia)).m;rintro c⟨Z,h'⟩;exact⟨rfl,Z,(H7.a h7).a h'⟩
 go_wp21
 apply b2.m;rintro w8 h8;have H8:Hid (∃Z,To w F b o w8 S.M5 Z):=h8;go_wp21;go_end0;exact⟨rfl,H8⟩
def tU(p:PP w F b S o)(l:Wf S){x:Nat}{B:Bal}(a:o.c=some x)(i:S.d=some B)(v:S.e.length<=900000):Do 163 #[pT b 0] ϳ w F b o (S.Mr B):=by
 have f:=p.a.a 13 _ rfl;rw[a]at f;have m:=(p.f a i).c.a 1 _ rfl;simp only[eb,bu,yf,yd,ye]at f m;have q:Hid (Do 195 _ _ w F b o _):=(mH p l a i v).mono λe y h=>⟨h.1,h.2.elim λs h=>⟨_,h⟩⟩;have r:Hid (B.e=false->Do 197 _ _ w F b o _):=λc=>(kS p l a i ((l.lead B i).cut c) v).mono λe y h=>⟨h.1,h.2.elim λs h=>⟨_,h⟩⟩;have g:Hid (S.Mr B=if B.e then S.Mi B else S.Mj B):=rfl;clear p l a i;generalize S.Mr B=Z at g|-;cases c:B.e with
 |true=>
  have k:Hid (Z=S.Mi B):=by have:=g;rwa [c]at this
  rw[c]at m;clear g r c;go_enter func163,ntmps163;go_wp21;apply q.mono;rintro e u⟨rfl,j⟩;have n:Hid (∃t,To w F b o u Z t):=by rwa [k]
  clear j q k;go_wp21;go_end0;exact⟨rfl,n⟩
 |false=>
  have k:Hid (Z=S.Mj B):=by have:=g;rwa [c]at this
  have d:=ah (r c);rw[c]at m;clear g r q c;go_enter func163,ntmps163;go_wp21;apply d.mono;rintro e u⟨rfl,j⟩;have n:Hid (∃t,To w F b o u Z t):=by rwa [k]
  clear j d k;go_wp21;go_end0;exact⟨rfl,n⟩
def qF(p:PP w F b S o)(O:Wf S)(U:CH w)(T:S.out=false)(W:S.e.length<=700000):Do 109 #[pT b 0] ϳ w F b o S.Me:=by
 have V:=ah (Cq p O U);have P:Hid (∀f,Ϟ w f->ϖ 161 #[pT b 0] f λe y=>ϱ e (.bool S.Nb)/\Ϟ f y):=λf s=>ET (p.c s);have m:Hid (∀f,Ϟ w f->ε f b 9 (J S.g)):=λf s=>(p.c s).a.a 9 _ rfl;have a:Hid (∀f,Ϟ w f->ε f b 13 (eb o.c)):=λf s=>(p.c s).a.a 13 _ rfl;have v:Hid (∀f,Ϟ w f->S.g<2147483640->ϖ 162 #[pT b 0] f λe y=>ϱ e ϳ/\∃u,To w F b o y S.M5 u):=λf s M=>(p.d s).g (DW (p.c s) O T M W);have i:Hid (∀f x B,Ϟ w f->o.c=some x->S.d=some B->ϖ 163 #[pT b 0] f λe y=>ϱ e ϳ/\∃u,To w F b o y (S.Mr B) u):=λf x B s Q r=>(p.d s).g (tU (p.c s) O Q r ω);have D:Hid (∀f,Ϟ w f->∃u,To w F b o f S u):=λf s=>⟨o,p.d s⟩;have h:Hid ((o.c=none/\S.d=none)\/∃x B,o.c=some x/\S.d=some B):=p.lead.cases.imp id λ⟨x,B,Q,r,_⟩=>⟨x,B,Q,r⟩;have A:Hid (S.Me=if S.M4&&S.Nb&&decide (S.g<2147483640) then S.M5 else match S.d with|some b=>S.Mr b|none=>S):=rfl;clear p O U T;generalize S.Me=Z at A|-;go_enter func109,ntmps109;go_wp21;apply V.mono;rintro e N⟨rfl,H⟩;have t:=ah H;clear H V;cases C:S.M4
 .have g:Hid (Z=match S.d with|some b=>S.Mr b|none=>S):=by have:=A;rwa [C,Bool.false_and,Bool.false_and]at this
  clear A C P v;have c:=a N t;rcases h.out with ⟨j,k⟩|⟨x,B,j,k⟩
  .rw[j]at c;rw[Hid,k]at g;have d:=ah g;simp only[eb]at c;clear i h j k m a g;go_wp21;go_end0;exact⟨rfl,d▸D N t⟩
  rw[j]at c;rw[Hid,k]at g;have d:=ah g;simp only[eb]at c;have l:=i N x B t j k;have n:=ah l;clear i h j k m a g l;go_wp21;apply n.mono;rintro e z⟨rfl,r⟩;have E:Hid (∃u,To w F b o z Z u):=by rwa [d]
  clear r n d;go_wp21;go_end0;exact⟨rfl,E⟩
 go_wp21;apply (P N t).mono;rintro e z⟨rfl,L⟩;have q:=ah (t.trans (L.mono t.size));clear L P;cases G:S.Nb
 .have g:Hid (Z=match S.d with|some b=>S.Mr b|none=>S):=by have:=A;rwa [C,G,Bool.and_false,Bool.false_and]at this
  clear A v C G;have c:=a z q;rcases h.out with ⟨j,k⟩|⟨x,B,j,k⟩
  .rw[j]at c;rw[Hid,k]at g;have d:Hid (Z=S):=g;simp only[eb]at c;clear i h j k m a g;go_wp21;go_end0;exact⟨rfl,d▸D z q⟩
  rw[j]at c;rw[Hid,k]at g;have d:=ah g;simp only[eb]at c;have l:=i z x B q j k;have n:Hid (ϖ 163 _ _ _):=l;clear i h j k m a g l;go_wp21;apply n.mono;rintro e I⟨rfl,r⟩;have E:Hid (∃u,To w F b o I Z u):=by rwa [d]
  clear r n d;go_wp21;go_end0;exact⟨rfl,E⟩
 have X:=m z q;by_cases M:S.g<2147483640
 .have g:Hid (Z=S.M5):=by have:=A;rwa [C,G,show decide (S.g<2147483640)=true by simp[M]]at this
  have K:Hid (ϖ 162 _ _ _):=v z q M;clear A v i h a m C G;go_wp21;apply K.mono;rintro e I⟨rfl,r⟩;have E:Hid (∃u,To w F b o I Z u):=by rwa [g]
  clear r K g;go_wp21;go_end0;exact⟨rfl,E⟩
 have R:decide (S.g<2147483640)=false:=by simp[M]
 have g:Hid (Z=match S.d with|some b=>S.Mr b|none=>S):=by have:=A;rwa [C,G,R]at this
 clear A v C G R;have c:=a z q;rcases h.out with ⟨j,k⟩|⟨x,B,j,k⟩
 .rw[j]at c;rw[Hid,k]at g;have d:Hid (Z=S):=g;simp only[eb]at c;clear i h j k m a g;go_wp21;go_end0;exact⟨rfl,d▸D z q⟩
 rw[j]at c;rw[Hid,k]at g;have d:=ah g;simp only[eb]at c;have l:=i z x B q j k;have n:Hid (ϖ 163 _ _ _):=l;clear i h j k m a g l;go_wp21;apply n.mono;rintro e I⟨rfl,r⟩;have E:Hid (∃u,To w F b o I Z u):=by rwa [d]
 clear r n d;go_wp21;go_end0;exact⟨rfl,E⟩
open Md (FrW)
variable {f:Codec.Frame}{rv cv mv:Θ}
structure ud(w:Δ)(R:ϑ)(f:Codec.Frame)(rv cv mv:Θ):Prop where
 row:aE w R rv f.g
 cut:aE w R cv f.i
 msgs:bI w R mv f.d
def ud.a{R c:ϑ}(h:ud w R f rv cv mv)(a:jo R c w w'):ud w' c f rv cv mv:=⟨h.row.f a,h.cut.f a,h.msgs.c a⟩
def LV(f:Codec.Frame)(rv cv mv:Θ):ϡ:=#[J f.c,J f.f,J f.j,J f.b,J f.h,J f.a,J f.e,rv,cv,mv]
def PP.b2(p:PP w F b S o)(a:ϡ):Ϟ w (w.alloc (.cells a 165))/\PP (w.alloc (.cells a 165)) F b S o/\af (w.alloc (.cells a 165)) w.heap.size 165 a/\∀d T g,To (w.alloc (.cells a 165)) F b o d T g->af d w.heap.size 165 a:=
 have i:Below _ w (w.alloc (.cells a 165)):=Ϡ.alloc Ϫ _;have c:=af.d w _ rfl 165 a
 ⟨i,p.c i,c,λd T g h=>(h.e.block _ c.f λe=>ϕ (p.h e)).trans c⟩
def qo(p:PP w F b S o)(q:Wf S)(z:S.out=false)(i:FrW S.n f)(x:f.c=7)(j:ud w (o.R F b) f rv cv mv):Do 215 #[pT b 0,jq f rv cv mv] ϳ w F b o (S.M3 f):=by
 obtain⟨P,T,K,rfl⟩:=j.row.a;obtain⟨N,V,H,rfl⟩:=j.cut.a;obtain⟨G,Q,L,rfl⟩:=j.msgs.a;obtain⟨l,s,r,a⟩:=p.b2 (LV f _ _ _);unfold LV at l s r a;have c:=j.a (p.d l).d;have C:=ah (lB s q c.msgs i.msgs (ϕ i.d));have m:=Md.bf S f.d;have u:Hid (∀g E,To (w.alloc (.cells #[J f.c,J f.f,J f.j,J f.b,J f.h,J f.a,J f.e,.slice P T K,.slice N V H,.slice G Q L] 165)) F b o g _ E->(g.cell? _=some _/\g.cell? _=some _)/\Calls _ 258 _ g λe k=>ϱ e _/\∃d,To w F b o k _ d):=λg E h=>by have y:=a g _ _ h;refine⟨⟨y.a 3 _ rfl,y.a 8 _ rfl⟩,?_⟩;apply (qun h.c (q.f i.msgs) (m.out.trans z) i.members (c.cut.f h.d) (m.n▸i.install x)).mono;rintro e k⟨rfl,d,I⟩;exact⟨rfl,d,((p.d l).a h).a I⟩
 have t:=r.a 9 _ rfl;simp only[yf,yd,ye]at t;clear p s r a j c q z i x m l;unfold jq;go_enter func215,ntmps215;go_wp21;apply C.mono;rintro e U⟨rfl,M,D⟩;obtain⟨⟨X,Y⟩,B⟩:=u U M D;have v:=ah B;clear D B u C t;go_wp21;apply v.mono;rintro e W⟨rfl,A⟩;have O:=ah A;clear A v;go_wp21;go_end0;exact⟨rfl,O⟩
variable {wb:Δ}{X:Nat}{S':PS}{o1 o':Pl}{ro co mo:ϣ}{rn rk cn ck mn mk:Nat}
def PP.b4(p:PP w F b S o){i:ϡ}(h:af w X 165 i):¬o.M b X:=λg=>by
 have h:=h;rcases g with j|d
 .rcases p.r j with ⟨_,_,c⟩|⟨_,e,c,a⟩<;>rw[h]at c<;>cases c;simp at a
 let ⟨_,e,c,a⟩:=p.q d
 rw[h]at c;cases c;simp at a
structure Bx(w:Δ)(F:ϑ)(b:Nat)(o:Pl)(f:Codec.Frame)(ro co mo:ϣ)(rn rk cn ck mn mk:Nat)(X:Nat)(wb:Δ)(S:PS)(o1:Pl):Prop where
 a:To w F b o wb S o1
 c:af wb X 165 #[J f.c,J f.f,J f.j,J f.b,J f.h,J f.a,J f.e,.slice ro rn rk,.slice co cn ck,.slice mo mn mk]
 fr:ud wb (o1.R F b) f (.slice ro rn rk) (.slice co cn ck) (.slice mo mn mk)
def Bx.step(h:Bx w F b o f ro co mo rn rk cn ck mn mk X wb S o1)(k:To wb F b o1 w' S' o'):Bx w F b o f ro co mo rn rk cn ck mn mk X w' S' o':=
 ⟨h.a.a k,(k.e.block X h.c.f (h.a.c.b4 h.c)).trans h.c,h.fr.a k.d⟩
def Bx.e(h:Bx w F b o f ro co mo rn rk cn ck mn mk X wb S o1)(a:Ϟ wb w'):Bx w F b o f ro co mo rn rk cn ck mn mk X w' S o1:=h.step (h.a.c.d a)
def Bx.d(h:Bx w F b o f ro co mo rn rk cn ck mn mk X wb S o1)(n:Nat):Bx w F b o f ro co mo rn rk cn ck mn mk X (wb.drewN n) S o1:=h.e (below_drewN Ϡ n)
def PP.bx(p:PP w F b S o)(d:ud w (o.R F b) f (.slice ro rn rk) (.slice co cn ck) (.slice mo mn mk)):Bx w F b o f ro co mo rn rk cn ck mn mk w (w.alloc (.cells #[J f.c,J f.f,J f.j,J f.b,J f.h,J f.a,J f.e,.slice ro rn rk,.slice co cn ck,.slice mo mn mk] 165)) S o:=by obtain⟨a,-,c,-⟩:=p.b2 _;exact⟨p.d a,c,d.a (p.d a).d⟩
def EB(S:PS)(m:ϥ):(S.MX m).e=S.e:=by unfold PS.MX;split<;>rfl
def nO(S:PS)(l:List ϥ):(S.Mc l).e=S.e:=by
 unfold PS.Mc;induction l generalizing S with
 |nil=>rfl
 |cons m l a=>exact(a _).trans (EB S m)
def qW(p:PP w F b S o)(wf:Wf S)(hf:FrW S.n f)(hk:f.c=5){rv cv mv:Θ}(H:ud w (o.R F b) f rv cv mv)(hs:S.e.length<=900000):Do 213 #[pT b 0,jq f rv cv mv] ϳ w F b o (S.MK f):=by
 obtain⟨ro,rn,rk,rfl⟩:=H.row.a;obtain⟨t,v,x,rfl⟩:=H.cut.a;obtain⟨mo,W,mk,rfl⟩:=H.msgs.a;have r:=ah (p.bx H);have N:Hid (Wf S):=wf;have j:=ah hf;have HK:=ah hk;have D:Hid (S.MK f=if f.a<S.g then S else (({S.Mx f.a with a:=⟨f.a,f.b,f.i⟩}:PS).Mc f.d).MZ ⟨6,0,f.f,0,S.b,f.a,0,[],[],[]⟩):=rfl;clear p H wf hf hk;generalize S.MK f=Z at D|-;unfold jq;go_enter func213,ntmps213;refine wp_seq_k λK z=>?_;have L:=ah z;clear z;go_wp21;apply L;generalize w.alloc _=wb at r|-;generalize w.heap.size=X at r|-;have c9:=r.a.c.a.y 9;have G:=r.c.y 5;simp at c9 G;by_cases l:f.a<S.g
 .have Q:Hid (Z=S):=by rw[Hid,D,if_pos l]
  go_wp21;go_quiet (fail);go_wp21;(try simp);apply bodyPost_ret (results_none rfl _ _ _) rfl;exact⟨rfl,o,Q▸(r.d nq).a⟩
 have Q:Hid (Z=(({S.Mx f.a with a:=⟨f.a,f.b,f.i⟩}:PS).Mc f.d).MZ ⟨6,0,f.f,0,S.b,f.a,0,[],[],[]⟩):=by rw[Hid,D,if_neg l]
 go_wp21;go_quiet (fail);go_wp21;have m:=ah (r.d nq);have HJ:Hid (Do 193 #[pT b 0,J f.a] ϳ (wb.drewN nq) F b o (S.Mx f.a)):=tQ m.a.c _;apply HJ.m;rintro w2⟨o2,h2⟩;have a:=ah (m.step h2);have G:=a.c.y 5;have d3:=a.c.y 3;have d8:=a.c.y 8;have i:=a.a.c.a;have M:=i.y 10;have I:=i.y 11;have E:=i.y 12;have Y:=i.b 10;have U:=i.b 11;have V:=i.b 12;simp at d3 G d8 M I E;have c:Hid (Bx w F b o f ro t mo rn rk v x W mk X (((w2.setCell ⟨b,10,none⟩ (J f.a)).setCell ⟨b,11,none⟩ (J f.b)).setCell ⟨b,12,none⟩ (.slice t v x)) {S.Mx f.a with a:=⟨f.a,f.b,f.i⟩} {o2 with h:=.slice t v x}):=
  a.step (a.a.c.head (S':={S.Mx f.a with a:=⟨f.a,f.b,f.i⟩}) (vc':=.slice t v x) (lb':=o2.c) cW.g (((i.e 10 _).e 11 _).e 12 _) rfl rfl rfl rfl rfl rfl a.fr.cut (.inl ⟨rfl,rfl⟩))
 have d9:=c.c.y 9;simp at d9;go_wp21;generalize ((w2.setCell _ _).setCell _ _).setCell _ _=w3 at c|-;generalize ({o2 with h:=.slice t v x}:Pl)=o3 at c;have a0:Hid (Wf ({S.Mx f.a with a:=⟨f.a,f.b,f.i⟩}:PS)):=(N.s j.ballot).e (v:=⟨f.a,f.b,f.i⟩) (L:=(S.Mx f.a).d) ⟨j.ballot.1,λ_=>(j.a HK).2,j.members⟩ λB hB=>
  have k:=(N.s j.ballot).lead B hB
  {k with cut:=λ_=>(j.a HK).2}
 have C:Hid (Do 257 #[pT b 0,.slice mo W mk] ϳ w3 F b o3 (({S.Mx f.a with a:=⟨f.a,f.b,f.i⟩}:PS).Mc f.d)):=lB c.a.c a0 c.fr.msgs j.msgs (ϕ j.d);apply C.m;rintro w4⟨o4,h4⟩;have q:=ah (c.step h4);have kp:Hid (Md.dh ({S.Mx f.a with a:=⟨f.a,f.b,f.i⟩}:PS) (({S.Mx f.a with a:=⟨f.a,f.b,f.i⟩}:PS).Mc f.d)):=Md.bf _ _;have T:Hid ((({S.Mx f.a with a:=⟨f.a,f.b,f.i⟩}:PS).Mc f.d).e.length<=900000):=by have:(({S.Mx f.a with a:=⟨f.a,f.b,f.i⟩}:PS).Mc f.d).e=({S.Mx f.a with a:=⟨f.a,f.b,f.i⟩}:PS).e:=nO _ _;rwa [Hid,this]
 have s:Hid (∀d u T',Bx w F b o f ro t mo rn rk v x W mk X d T' u->T'.b=S.b->ε d X 1 (J f.f)/\ε d X 5 (J f.a)/\ε d b 6 (J S.b)):=λd u T' h hv=>by have h1:=h.a.c.a.y 6;simp only[yf,yd,ye,hv]at h1;exact⟨h.c.y 1,h.c.y 5,h1⟩
 have y:=ah kp.a;go_wp21;refine wp_region_held_drew (S:=λd=>ε d X 1 (J f.f)/\ε d X 5 (J f.a)/\ε d b 6 (J S.b)) rfl (s _ _ _ (q.e Ϡ.drew) y) λg=>?_;(iterate 10 refine ψ ?_);refine we 10 λK z=>?_;go_simp;have P:Hid (ϖ 165 #[pT b 0,.agg #[J 6,J 0,J f.f,J 0,J S.b,J f.a,J 0,sN,sN,sN]] w4.drew λe d=>ϱ e ϳ/\(∃u,To w F b o d Z u)/\ε d X 1 (J f.f)/\ε d X 5 (J f.a)/\ε d b 6 (J S.b)):=by have A:=q.e Ϡ.drew;apply (oH A.a.c ⟨6,0,f.f,0,S.b,f.a,0,[],[],[]⟩ (ϕ T.out) (rv:=sN) (cv:=sN) (mv:=sN) (.inl ⟨⟨_,_,rfl⟩,rfl⟩) (.inl ⟨⟨_,_,rfl⟩,rfl⟩) (.inl ⟨⟨_,_,rfl⟩,rfl⟩)).m;rintro d⟨u,h'⟩;have h6:=A.step h';exact⟨rfl,⟨u,Q▸h6.a⟩,s _ _ _ h6 ((Md.j8 _ _).a.trans y)⟩
 apply P.m;rintro w5⟨A,O⟩;refine z.out _ _ O λg=>?_;refine wpAnyH_done κ ?_ _;go_wp21;go_end0;exact⟨rfl,(ah A)⟩
def ot(p:PP w F b S o)(wf:Wf S)(ho:S.out=false)(hf:FrW S.n f){rv cv mv:Θ}(O:ud w (o.R F b) f rv cv mv)(hs:S.e.length<=900000):Do 214 #[pT b 0,jq f rv cv mv] ϳ w F b o (S.Mk f):=by
 obtain⟨ro,rn,rk,rfl⟩:=O.row.a;obtain⟨co,cn,ck,rfl⟩:=O.cut.a;obtain⟨mo,mn,mk,rfl⟩:=O.msgs.a;have r:=ah (p.bx O);obtain⟨q,V,hq⟩:=hf.src;have z:Hid (f.f=(q:Int)/\q<6):=⟨hq,yg V wf.c⟩;have a2:0<=q:=ω;have t:Hid (Wf S):=wf;have U:=ah ho;have E:Hid ((o.c=none/\S.d=none)\/∃x B,o.c=some x/\S.d=some B):=p.lead.cases.imp id λ⟨x,B,W,h2,_⟩=>⟨x,B,W,h2⟩;have M:Hid (S.Mk f=match S.d with|none=>S|some B=>if B.g=f.a&& !B.e&&Md.aV B.a f.f.toNat then ({S with d:=some {B with d:=Md.j9 B.d (Md.aO f.f.toNat)}}:PS).installIf {B with d:=Md.j9 B.d (Md.aO f.f.toNat)} else S):=rfl;clear p O wf hf ho hq V;generalize S.Mk f=Z at M|-;unfold jq;go_enter func214,ntmps214;refine wp_seq_k λK y=>?_;have Q:=ah y;clear y;go_wp21;apply Q;generalize w.alloc _=wb at r|-;generalize w.heap.size=X at r|-;have d5:=r.c.z 5;have d1:=r.c.z 1;rw[z.1]at d1;have i:=ah λn=>pW (r.d n).a.c f.a;cases a:S.MY f.a
 .have C:Hid (Z=S):=by
   have h:=M;unfold PS.MY at a;match hl:S.d with
   |none=>rwa [hl]at h
   |some B=>
    rw[hl]at h a;have:=a;have:decide (B.g=f.a)=false:=ϰ this;simp only[this,Bool.false_and,yH,if_false]at h;exact h
  rw[a]at i;go_wp21;go_quiet ((go_at_call 256;exact Calls.quiet_of_same (i _)));go_wp21;(try simp);apply bodyPost_ret (results_none rfl _ _ _) rfl;exact⟨rfl,o,C▸(r.d nq).a⟩
 rw[a]at i;obtain⟨x,B,v,I⟩:∃x B,o.c=some x/\S.d=some B:=E.elim (λh=>by unfold PS.MY at a;rw[h.2]at a;cases a) id;have d:=ah v;have G:=ah I;have l:Hid (Z=if !B.e&&Md.aV B.a f.f.toNat then ({S with d:=some {B with d:=Md.j9 B.d (Md.aO f.f.toNat)}}:PS).installIf {B with d:=Md.j9 B.d (Md.aO f.f.toNat)} else S):=by have h:=M;rw[I]at h;simp only[show decide (B.g=f.a)=true by simp[(by unfold PS.MY at a;rw[I]at a;simpa using a:B.g=f.a)],Bool.true_and]at h;exact h
 have s:=r.a.c.f v I;have D:=r.a.c.a.z 13;rw[v]at D;have g1:=s.c.z 1;have g3:=s.c.z 3;simp only[eb,bu,yf,yd,ye]at D g1 g3;have m:Hid (∀n,ϖ 173 #[J B.a,J q] (wb.drewN n) λe j=>ϱ e (.bool (Md.aV B.a q))/\j=wb.drewN n):=λn=>gE B.a q _ (ϕ z.2);cases u:B.e with
 |true=>
  have C:Hid (Z=S):=by have:=l;rwa [u]at this
  rw[u]at g1;go_wp21;go_quiet ((go_at_call 256;exact Calls.quiet_of_same (i _)));go_wp21;(try simp);apply bodyPost_ret (results_none rfl _ _ _) rfl;exact⟨rfl,o,C▸(r.d nq).a⟩
 |false=>
  rw[u]at g1;cases H:Md.aV B.a q
  .have C:Hid (Z=S):=by have:=l;rwa [u,z.1,CM,H]at this
   rw[H]at m;go_wp21;go_quiet (first|(go_at_call 256;exact Calls.quiet_of_same (i _))|(go_at_call 173;exact Calls.quiet_of_same (m _)));go_wp21;(try simp);apply bodyPost_ret (results_none rfl _ _ _) rfl;exact⟨rfl,o,C▸(r.d nq).a⟩
  have C:Hid (Z=({S with d:=some {B with d:=Md.j9 B.d (Md.aO q)}}:PS).installIf {B with d:=Md.j9 B.d (Md.aO q)}):=by have:=l;rwa [z.1,CM,if_pos (by rw[u,H];rfl)]at this
  rw[H]at m;have HG:=ah u;go_wp21;go_quiet (first|(go_at_call 256;exact Calls.quiet_of_same (i _))|(go_at_call 173;exact Calls.quiet_of_same (m _)));go_wp21;have g:=ah (r.d nq);generalize wb.drewN nq=P at g|-;have HF:Hid (∀j,Ϟ P j->ε j b 13 (pT x 0)/\ε j x 5 (J B.d)/\ε j X 1 (J q)):=λj hw=>by have h:=g.e hw;have N:=h.a.c.a.z 13;have W:=h.c.z 1;rw[d]at N;simp only[z.1]at W;exact⟨N,(h.a.c.f d G).c.a 5 _ rfl,W⟩
  have a0:P.drew.frozen? (aT x 5)=false:=((g.e Ϡ.drew).a.c.f d G).c.b 5;have L:Hid (bits .or .i64 B.d (IntKind.i64.wrap (2^min q 64))=Md.j9 B.d (Md.aO q)):=by rw[Hid,(oE z.2).1,(cK (t.lead B G).acc (oE z.2).2).2.2.1]
  have Y:Hid (Bx w F b o f ro co mo rn rk cn ck mn mk X ((P.setCell ⟨x,5,none⟩ (J (Md.j9 B.d (Md.aO q)))).drew) {S with d:=some {B with d:=Md.j9 B.d (Md.aO q)}} o):=(g.step (g.a.c.k d G (B':={B with d:=Md.j9 B.d (Md.aO q)}) rfl ((g.a.c.f d G).c.e 5 _))).e Ϡ.drew;refine gl.b (λj=>ε j b 13 (pT x 0)/\ε j x 5 (J B.d)/\ε j X 1 (J q)) 13 rfl (HF _ Ϡ.drew) λc=>?_;(iterate 11 refine χ ?_);refine te 11 λK y=>?_;go_simp;refine y.out _ _ (λ_=>HF _ Ϡ.drew) λc=>?_;have c:=c θ;apply tw 12;refine te 13 λK y=>?_;go_simp;refine y.out _ _ (λh=>absurd rfl h) λ_=>?_;refine gl.done κ ?_ _;rw[L];generalize (P.setCell ⟨x,5,none⟩ (J (Md.j9 B.d (Md.aO q)))).drew=w2 at Y|-;have T:Hid (ϖ 239 #[pT b 0] w2 λe j=>ϱ e ϳ/\∃o',To w F b o j Z o'):=by
   have k:=t.lead B G;have a1:Wf ({S with d:=some {B with d:=Md.j9 B.d (Md.aO q)}}:PS):=t.e (v:=S.a) t.vote λB' e=>by cases e;exact {k with acc:=k.acc.f (.c z.2)}
   apply (qtp Y.a.c a1 U d rfl (k.cut HG) hs).m;rintro j⟨o',h'⟩;exact⟨rfl,o',C▸Y.a.a h'⟩
  go_wp21;apply T.m;rintro w3 h3;go_wp21;go_end0;exact⟨rfl,(ah h3)⟩
def qX(p:PP w F b S o)(A:Wf S)(r:FrW S.n f)(D:f.c=2)(i:ud w (o.R F b) f rv cv mv):Do 210 #[pT b 0,jq f rv cv mv] ϳ w F b o (S.ML f):=by
 obtain⟨ro,V,P,rfl⟩:=i.row.a;obtain⟨Q,W,ck,rfl⟩:=i.cut.a;obtain⟨Y,U,mk,rfl⟩:=i.msgs.a;have c:=ah (p.bx i);obtain⟨q,m,y⟩:=r.src;have u:Hid (f.f=(q:Int)/\q<S.n):=⟨y,m⟩;have k:Hid (Wf S):=A;have M:=ah r;have t:=ah (r.gossip D);have d:Hid (S.ML f=if (S.My q f.g).g<f.a then (S.My q f.g).MH f.a else S.My q f.g):=by have e:f.f.toNat=q:=ω;show S.ML f=_;rw[<-e];rfl
 clear p i A r D y m;generalize S.ML f=Z at d|-;unfold jq;go_enter func210,ntmps210;refine wp_seq_k λK B=>?_;have j:=ah B;clear B;go_wp21;apply j;clear j K;generalize w.alloc _=wb at c|-;generalize w.heap.size=X at c|-;have z:=c.c.a 7 _ rfl;have v:=c.c.a 1 _ rfl;simp only[yf,yd,ye]at v z;rw[u.1]at v;have g:=ah (pX c.a.c k u.2 c.fr.row t);go_wp21;apply g.mono;rintro e w1⟨rfl,O,C⟩;have a:=ah (c.step C);have x:=ah (k.i u.2 M.row);clear C g c v z;generalize S.My q f.g=T at a x d;have I:=a.c.a 5 _ rfl;have H:=a.a.c.a.a 9 _ rfl;simp only[yf,yd,ye]at I H;by_cases h:T.g<f.a
 .have s:Hid (Z=T.MH f.a):=by rw[Hid,d,if_pos h]
  have l:Hid (∀n,Calls _ 236 _ _ λe L=>ϱ e _/\∃G,To w F b o L Z G):=λn=>s▸(a.d n).a.g (qg (a.d n).a.c _);clear d s;go_wp21;go_quiet (fail);go_wp21;apply (l _).mono;rintro e w2⟨rfl,E⟩;have N:=ah E;clear E l;go_wp21;go_end0;exact⟨rfl,N⟩
 have s:Hid (Z=T):=by rw[Hid,d,if_neg h]
 clear d;go_wp21;go_quiet (fail);go_wp21;go_end0;exact⟨rfl,O,s▸(a.d nq).a⟩
def xa(p:PP w F b S o)(wf:Wf S)(y:FrW S.n f)(U:f.c=1)(v:ud w (o.R F b) f rv cv mv):Do 209 #[pT b 0,jq f rv cv mv] ϳ w F b o (S.MQ f):=by
 obtain⟨ro,rn,rk,rfl⟩:=v.row.a;obtain⟨co,cn,ck,rfl⟩:=v.cut.a;obtain⟨mo,mn,mk,rfl⟩:=v.msgs.a;have i:=ah (p.bx v);obtain⟨q,A,hq⟩:=y.src;have O:Hid (f.f=(q:Int)/\q<S.n):=⟨hq,A⟩;have z:Hid (Wf S):=wf;have HF:=ah y;have L:=ah ((y.data U).1);obtain⟨m,N,hM⟩:=(y.data U).2;have H:Hid (f.d=[m]/\MsgW S.n m):=⟨N,hM⟩;have l:Hid (S.MQ f=if ((S.My q f.g).MX m).h then (S.My q f.g).MX m else ((S.My q f.g).MX m).MG):=by have e:f.f.toNat=q:=ω;show S.MQ f=_;rw[<-e];unfold PS.MQ;rw[N];rfl
 clear p v wf y U hq A N hM;generalize S.MQ f=Z at l|-;unfold jq;go_enter func209,ntmps209;refine wp_seq_k λK hK=>?_;have x:=ah hK;clear hK;go_wp21;apply x;clear x K;generalize w.alloc _=wb at i|-;generalize w.heap.size=X at i|-;have d7:=i.c.a 7 _ rfl;have Q:=i.c.a 1 _ rfl;simp only[yf,yd,ye]at Q d7;rw[O.1]at Q;have s:=ah (pX i.a.c z O.2 i.fr.row L);go_wp21;apply s.mono;rintro e r⟨rfl,o1,B⟩;have c:=ah (i.step B);have k:=ah (z.i O.2 HF.row);clear B s i Q d7;have j:=c.fr.msgs;rw[H.1]at j;obtain⟨g,rfl,V,hg,t,e0,e1,e2,e3,P⟩:∃g,mo=some ⟨g,0,none⟩/\mn=1/\g<r.heap.size/\∃t,ε r g 0 _/\ε r g 1 _/\ε r g 2 t/\ε r g 3 _/\aE r _ t m.c:=by rcases j with ⟨-,h⟩|⟨g,a1,hv,hg,-,hc⟩;cases h;injection hv with B D W;obtain⟨t,h0,I,Y,M,h4⟩:=hc 0 m rfl;exact⟨g,B,D,hg,t,h0,I,Y,M,h4⟩
 subst V;obtain⟨ta,tn,a0,rfl⟩:=P.a;have d9:=c.c.a 9 _ rfl;simp only[yf,yd,ye]at d9;have d:=ah (Ak c.a.c k H.2 P);have u:=ah (k.x H.2);generalize (S.My q f.g).MX m=T at d u l;clear P j;unfold aU at d;go_wp21;apply d.mono;rintro e w2⟨rfl,o2,D⟩;have C:=ah (c.a.a D);clear D d c k d9 e0 e1 e2 e3;have G:=C.c.a.a 5 _ rfl;simp only[yf,yd,ye]at G;cases a:T.h with
 |true=>
  have E:Hid (Z=T):=by have:=l;rwa [a]at this
  rw[a]at G;clear l a;go_wp21;go_end0;exact⟨rfl,o2,by rwa [E]⟩
 |false=>
  have E:Hid (Z=T.MG):=by have:=l;rwa [a]at this
  rw[a]at G;have HD:Hid (ϖ 255 #[pT b 0] w2 λe w'=>ϱ e ϳ/\∃o',To w F b o w' Z o'):=E▸C.g (qK C.c u);clear l a E;go_wp21;apply HD.mono;rintro e w3⟨rfl,W⟩;have H3:=ah W;clear W HD;go_wp21;go_end0;exact⟨rfl,H3⟩
def tY(p:PP w F b S o)(wf:Wf S)(hf:FrW S.n f){rv cv E:Θ}(O:ud w (o.R F b) f rv cv E)(hs:S.e.length<=900000):Do 211 #[pT b 0,jq f rv cv E] ϳ w F b o (S.MR f):=by
 obtain⟨ro,rn,rk,rfl⟩:=O.row.a;obtain⟨co,cn,ck,rfl⟩:=O.cut.a;obtain⟨mo,mn,mk,rfl⟩:=O.msgs.a;have A:=ah (p.bx O);have C:Hid (Wf S):=wf;have P:=ah hf;have N:Hid (S.MR f=if f.a<S.g then S else ((S.Mx f.a).suspect f.b).MZ ⟨4,0,f.f,((S.Mx f.a).suspect f.b).a.m,((S.Mx f.a).suspect f.b).b,f.a,((S.Mx f.a).suspect f.b).a.b,((S.Mx f.a).suspect f.b).Ml,((S.Mx f.a).suspect f.b).a.a,((S.Mx f.a).suspect f.b).Mp⟩):=rfl;clear p O wf hf;generalize S.MR f=Z at N|-;unfold jq;go_enter func211,ntmps211;refine wp_seq_k λK l=>?_;have Q:=ah l;clear l;go_wp21;apply Q;clear Q K;generalize w.alloc _=wb at A|-;generalize w.heap.size=X at A|-;have c9:=A.a.c.a.a 9 _ rfl;have d5:=A.c.a 5 _ rfl;simp only[yf,yd,ye]at c9 d5;by_cases y:f.a<S.g
 .have HZ:Hid (Z=S):=by rw[Hid,N,if_pos y]
  clear N;go_wp21;go_quiet (fail);go_wp21;(try simp only[Exit.inBlock,Exit.then]);apply bodyPost_ret (results_none rfl _ _ _) rfl;exact⟨rfl,o,HZ▸(A.d nq).a⟩
 have x:=N;rw[if_neg y]at x;have j:Hid (((S.Mx f.a).suspect f.b).e.length<=900000):=hs;have q:Hid (Wf ((S.Mx f.a).suspect f.b)):=(C.s P.ballot).suspect P.members;have L:Hid (Wf (S.Mx f.a)):=C.s P.ballot;have HZ:Hid _:=x;clear N x;go_wp21;go_quiet (fail);go_wp21;have z:Hid (Bx w F b o f ro co mo rn rk cn ck mn mk X (wb.drewN nq) S o):=A.d nq;clear A c9 d5 y;have HJ:Hid (Do 193 #[pT b 0,J f.a] ϳ (wb.drewN nq) F b o (S.Mx f.a)):=tQ z.a.c _;apply HJ.mono;rintro e w2⟨rfl,o2,h2⟩;have t:Hid (Bx w F b o f ro co mo rn rk cn ck mn mk X w2 (S.Mx f.a) o2):=z.step h2;clear h2 HJ z;have d3:=t.c.a 3 _ rfl;simp only[yf,yd,ye]at d3;have W:Hid (Do 106 #[pT b 0,J f.b] ϳ w2 F b o2 ((S.Mx f.a).suspect f.b)):=qm t.a.c L P.members;go_wp21;apply W.mono;rintro e i⟨rfl,o3,h3⟩;have g:Hid (Bx w F b o f ro co mo rn rk cn ck mn mk X i ((S.Mx f.a).suspect f.b) o3):=t.step h3;clear h3 W t L d3;generalize (S.Mx f.a).suspect f.b=T at g HZ j q;obtain⟨r,hr,-,-⟩:=g.a.c.i q;obtain⟨vo,vn,vk,B⟩:=g.a.c.vote.a;have U:Hid (∀a,Ϟ i a->ϖ 119 #[pT b 0] a λe d=>ϱ e (sT r T.n T.n)/\Ϟ a d/\d.heap=a.heap):=λa u=>np (g.a.c.c u) hr;have G:Hid (∀a,Ϟ i a->ϖ 166 #[pT b 0] a λe d=>Ϟ a d/\∃v,ϱ e v/\ba d d.heap.size v T.Mp):=λa u=>(pR (g.a.c.c u) q).mono λe d h=>⟨h.1,h.2.elim λv H=>⟨v,H.1,H.2.at⟩⟩;have s:Hid (∀a,Ϟ i a->ε a X 1 (J f.f)/\ε a X 5 (J f.a)/\ε a b 6 (J T.b)/\ε a b 10 (J T.a.b)/\ε a b 11 (J T.a.m)/\ε a b 12 (.slice vo vn vk)):=λa u=>by have h:=g.e u;have hc:=h.a.c.a;refine⟨h.c.a 1 _ rfl,h.c.a 5 _ rfl,hc.a 6 _ rfl,hc.a 10 _ rfl,hc.a 11 _ rfl,?_⟩;rw[<-B];exact hc.a 12 _ rfl
 have a0:Hid (∀a E,Ϟ i a->ba a a.heap.size E T.Mp->ϖ 165 #[pT b 0,.agg #[J 4,J 0,J f.f,J T.a.m,J T.b,J f.a,J T.a.b,sT r T.n T.n,.slice vo vn vk,E]] a λe d=>ϱ e ϳ/\∃I,To w F b o d Z I):=λa E u M=>by have h5:=g.e u;have H:=h5.a.c.vote;rw[B]at H;apply (oH h5.a.c ⟨4,0,f.f,T.a.m,T.b,f.a,T.a.b,T.Ml,T.a.a,T.Mp⟩ (ϕ j.out) (h5.a.c.e.a2 hr q.num) (aX H.d) M).mono;rintro e d⟨rfl,I,h'⟩;exact⟨rfl,I,HZ▸h5.a.a h'⟩
 clear hr B g HZ j q hs C P;go_wp21;refine gl.b (λa=>ε a X 1 (J f.f)/\ε a X 5 (J f.a)/\ε a b 6 (J T.b)/\ε a b 10 (J T.a.b)/\ε a b 11 (J T.a.m)/\ε a b 12 (.slice vo vn vk)) 29 rfl (s _ Ϡ.drew) λc=>?_;(iterate 25 refine χ ?_);apply tw 26;refine te 25 λK l=>?_;go_simp;apply (U _ Ϡ.drew).mono;rintro e w4⟨rfl,Y,-⟩;have k:Hid (Ϟ i w4):=Ϡ.drew.trans (Y.mono Ϫ);clear Y;refine l.out _ _ (λ_=>s _ k) λc=>?_;clear l K;try simp only[pU]
 refine te 27 λK l=>?_;go_simp;apply (G _ k).mono;rintro e w5⟨V,v,rfl,M⟩;obtain⟨ao,an,ac,rfl⟩:=M.b;have D:Hid (Ϟ i w5):=k.trans (V.mono k.size);have HM:Hid (ba w5 w5.heap.size (.slice ao an ac) T.Mp):=M;clear V M k;refine l.out _ _ (λ_=>s _ D) λc=>?_;clear l K;try simp only[pU]
 have c:=c θ;apply tw 28;refine te 29 λK l=>?_;go_simp;apply (a0 _ _ D HM).mono;rintro e w6⟨rfl,h6⟩;have H6:Hid (∃I,To w F b o w6 Z I):=h6;clear h6 HM D a0 s U G;refine l.out _ _ (λh=>absurd rfl h) λ_=>?_;clear l K c;try simp only[pU]
 refine gl.done κ ?_ _;go_wp21;go_end0;exact⟨rfl,H6⟩
def PP.b0(p:PP w F b S o){B:Bal}(a:S.d=some B):∃x,o.c=some x:=by rcases p.lead.cases with ⟨-,h⟩|⟨x,c,h,-⟩;rw[a]at h;cases h;exact⟨x,h⟩
def tZ(p:PP w F b S o)(wf:Wf S)(ho:S.out=false)(hf:FrW S.n f)(hk:f.c=4){rv cv mv:Θ}(fr:ud w (o.R F b) f rv cv mv)(hs:S.e.length<=800000):Do 212 #[pT b 0,jq f rv cv mv] ϳ w F b o (S.Mv f):=by
 obtain⟨ro,rn,rk,rfl⟩:=fr.row.a;obtain⟨co,cn,ck,rfl⟩:=fr.cut.a;obtain⟨mo,mn,mk,rfl⟩:=fr.msgs.a;have r:=ah (p.bx fr)
 let ⟨q,hqn,hq⟩:=hf.src
 have v:Hid (f.f=(q:Int)/\q<S.n/\q<6):=⟨hq,hqn,yg hqn wf.c⟩;have b3:0<=q:=ω;have m:Hid (Wf S):=wf;have a6:=ah ho;have HF:=ah hf;have C:=ah ((hf.b hk).2);have N:Hid ((o.c=none/\S.d=none)\/∃x B,o.c=some x/\S.d=some B):=p.lead.cases.imp id λ⟨x,B,h1,h2,_⟩=>⟨x,B,h1,h2⟩;have HI:Hid (S.Mv f=match S.d with|none=>S|some B=>if B.g=f.a&&B.e&&Md.aV (Md.cX B.a B.c) q then ({(S.My q f.g).Mc f.d with d:=some (B.f q (f.g,⟨f.e,f.b,f.i⟩))}:PS).MA (B.f q (f.g,⟨f.e,f.b,f.i⟩)) else S):=by have e:f.f.toNat=q:=ω;unfold Hid PS.Mv;rw[e];rfl
 clear p fr wf hf ho hq hqn hk;generalize S.Mv f=Z at HI|-;unfold jq;go_enter func212,ntmps212;refine wp_seq_k λK hK=>?_;have a5:=ah hK;clear hK;go_wp21;apply a5;generalize w.alloc _=wb at r|-;generalize w.heap.size=X at r|-;have d5:=r.c.y 5;have M:=r.c.y 1;simp at M d5;rw[v.1]at M;have g:=ah λn=>pW (r.d n).a.c f.a;cases a:S.MY f.a
 .have D:Hid (Z=S):=by
   have h:=HI;unfold PS.MY at a;match hl:S.d with
   |none=>rwa [hl]at h
   |some B=>
    rw[hl]at h a;have:=a;have:decide (B.g=f.a)=false:=ϰ this;simp only[this,Bool.false_and,yH,if_false]at h;exact h
  rw[a]at g;go_wp21;go_quiet ((go_at_call 256;exact Calls.quiet_of_same (g _)));go_wp21;(try simp);apply bodyPost_ret (results_none rfl _ _ _) rfl;exact⟨rfl,o,D▸(r.d nq).a⟩
 rw[a]at g;obtain⟨x,B,O,hL⟩:∃x B,o.c=some x/\S.d=some B:=N.elim (λh=>by unfold PS.MY at a;rw[h.2]at a;cases a) id;have HL:=ah hL;have l:Hid (Z=if B.e&&Md.aV (Md.cX B.a B.c) q then ({(S.My q f.g).Mc f.d with d:=some (B.f q (f.g,⟨f.e,f.b,f.i⟩))}:PS).MA (B.f q (f.g,⟨f.e,f.b,f.i⟩)) else S):=by have h:=HI;rw[hL]at h;simp only[show decide (B.g=f.a)=true by simp[(by unfold PS.MY at a;rw[hL]at a;simpa using a:B.g=f.a)],Bool.true_and]at h;exact h
 have z:=r.a.c.f O hL;have a1:=m.lead B hL;have L:=r.a.c.a.y 13;rw[O]at L;have g1:=z.c.y 1;have g3:=z.c.y 3;have g4:=z.c.y 4;simp only[eb,bu,yf,yd,ye]at L g1 g3 g4;have j:Hid (∀n,ϖ 173 #[J (bits .andNot .i64 B.a B.c),J q] (wb.drewN n) λe c=>ϱ e (.bool (Md.aV (Md.cX B.a B.c) q))/\c=wb.drewN n):=λn=>(cK a1.asked a1.answ).1▸gE _ q _ (ϕ v.2.2);cases E:B.e
 .have D:Hid (Z=S):=by have:=l;rwa [E]at this
  rw[E]at g1;go_wp21;go_quiet ((go_at_call 256;exact Calls.quiet_of_same (g _)));go_wp21;(try simp only[Exit.inBlock,Exit.then]);apply bodyPost_ret (results_none rfl _ _ _) rfl;exact⟨rfl,o,D▸(r.d nq).a⟩
 rw[E]at g1;cases Y:Md.aV (Md.cX B.a B.c) q
 .have D:Hid (Z=S):=by have:=l;rwa [E,Y]at this
  rw[Y]at j;go_wp21;go_quiet (first|(go_at_call 256;exact Calls.quiet_of_same (g _))|(go_at_call 173;exact Calls.quiet_of_same (j _)));go_wp21;(try simp only[Exit.inBlock,Exit.then]);apply bodyPost_ret (results_none rfl _ _ _) rfl;exact⟨rfl,o,D▸(r.d nq).a⟩
 have D:Hid (Z=({(S.My q f.g).Mc f.d with d:=some (B.f q (f.g,⟨f.e,f.b,f.i⟩))}:PS).MA (B.f q (f.g,⟨f.e,f.b,f.i⟩))):=by have:=l;rwa [if_pos (by rw[E,Y];rfl)]at this
 have a7:=ah (Md.mY (m.lead B HL).asked (m.lead B HL).answ Y);rw[Y]at j;go_wp21;go_quiet (first|(go_at_call 256;exact Calls.quiet_of_same (g _))|(go_at_call 173;exact Calls.quiet_of_same (j _)));have d:=ah (r.d nq);generalize wb.drewN nq=w1 at d|-;have d7:=d.c.y 7;have M:=d.c.y 1;simp only[yf,yd,ye]at M d7;rw[v.1]at M;go_wp21;apply (ah (pX d.a.c m v.2.1 d.fr.row C.1)).m;rintro w2⟨o2,h2⟩;have u:=ah (d.step h2);have W:=ah (m.i v.2.1 HF.row);have k:=ah ((Md.dq S q f.g).b (Md.bf _ f.d));have a0:Hid (((S.My q f.g).Mc f.d).e=S.e):=(nO _ _).trans rfl;have I:=ah ((Md.dq S q f.g).n);have d9:=u.c.y 9;simp only[yf,yd,ye]at d9;have a4:Hid (Do 257 #[pT b 0,.slice mo mn mk] ϳ w2 F b o2 ((S.My q f.g).Mc f.d)):=lB u.a.c W u.fr.msgs (I▸HF.msgs) (ϕ HF.d);go_wp21;apply a4.m;rintro w3⟨o3,h3⟩;have t:=ah (u.step h3);have s:Hid (Wf ((S.My q f.g).Mc f.d)):=W.f (I▸HF.msgs);generalize (S.My q f.g).Mc f.d=T at t s D k a0;have A:Hid (T.d=some B):=by have:=k;unfold Md.dh at this;rwa [Hid,this]
 let ⟨x3,G⟩:=t.a.c.b0 A
 have i:=ah G;have a8:Hid (∀c,Ϟ w3 c->ε c b 13 (pT x3 0)/\ε c X 1 (J q)/\ε c X 7 (.slice ro rn rk)/\ε c X 6 (J f.e)/\ε c X 3 (J f.b)/\ε c X 8 (.slice co cn ck)):=λc hw=>by have h:=t.e hw;have a9:=h.a.c.a.y 13;have h1:=h.c.y 1;simp only[yf,yd,ye,v.1]at h1;simp only[yf,yd,ye,i.out,eb]at a9;exact⟨a9,h1,h.c.y 7,h.c.y 6,h.c.y 3,h.c.y 8⟩
 have y:=ah (s.lead B A);have a3:Hid (ϖ 194 #[pT x3 0,J q,.agg #[.slice ro rn rk,J f.e,J f.b,.slice co cn ck]] w3.drew λe c=>ϱ e ϳ/\ϖ 196 #[pT b 0] c λe b2=>ϱ e ϳ/\∃o',To w F b o b2 Z o'):=by
  have V:=t.e Ϡ.drew;have b0:B.i.length<=1000:=by
   have h1:=y.e;have h2:Md.ir B.c<=6:=by rw[Md.pz];(repeat' split)<;>lia
   lia
  apply (AA V.a.c i A v.2.2 y.answ b0 (f.g,⟨f.e,f.b,f.i⟩) V.fr.row V.fr.cut).m;rintro c⟨b1,h'⟩;refine⟨rfl,?_⟩;have h2:Wf ({T with d:=some (B.f q (f.g,⟨f.e,f.b,f.i⟩))}:PS):=s.e (v:=T.a) s.vote λB' e=>by cases e;exact(y.g v.2.2 a7 ⟨k.n▸C.1,HF.voted,k.n▸C.2,HF.members⟩)
  rw[D];exact(V.a.a h').g (si h'.c h2 (k.out.out.trans a6) (o:={o3 with e:=b1,a:=o3.a++[(.slice ro rn rk,.slice co cn ck)]}) i rfl (by show T.e.length<=800000;rwa [a0]))
 go_wp21
 refine gl.b (λc=>ε c b 13 (pT x3 0)/\ε c X 1 (J q)/\ε c X 7 (.slice ro rn rk)/\ε c X 6 (J f.e)/\ε c X 3 (J f.b)/\ε c X 8 (.slice co cn ck)) 16 rfl (a8 _ Ϡ.drew) λU=>?_;(iterate 16 refine χ ?_);refine te 16 λK hK=>?_;go_simp;apply a3.m;rintro w4 h4;have H4:=ah h4;refine hK.out _ _ (λh=>absurd rfl h) λ_=>?_;refine gl.done κ ?_ _;go_wp21;apply H4.m;rintro w5 V;have H5:=ah V;go_wp21;go_end0;exact⟨rfl,H5⟩
def nQ:∀{L:List Lft}{vs:List (Θ×Θ)}{i:Nat}{a:Lft}{v:Θ×Θ},L[i]?=some a->vs[i]?=some v->(bV L vs)[i*3]?=some (J a.m)/\(bV L vs)[i*3+1]?=some v.1/\(bV L vs)[i*3+2]?=some v.2
 |x::L,u::vs,0,a,v,d,c=>by cases d;cases c;exact⟨rfl,rfl,rfl⟩
 |x::L,u::vs,i+1,a,v,d,c=>by have:=nQ (i:=i) d c;simp only[bV];rwa [show (i+1)*3=i*3+3 by lia]
 |[],_,_,_,_,d,_=>by cases d
 |_::_,[],_,_,_,_,c=>by cases c
def PP.t(p:PP w F b S o){v:Nat}(t:v<S.i.length):∃g A h l e d k c,o.i=sT g S.i.length A/\w.cell? ⟨g,v*3,none⟩=some (J (S.i.getD v ⟨0,[],[]⟩).m)/\w.cell? ⟨g,v*3+1,none⟩=some (.slice h l e)/\w.cell? ⟨g,v*3+2,none⟩=some (.slice d k c)/\aE w (o.R F b) (.slice h l e) (S.i.getD v ⟨0,[],[]⟩).a/\bI w (o.R F b) (.slice d k c) (S.i.getD v ⟨0,[],[]⟩).b:=by
 have z:S.i[v]?=some (S.i.getD v ⟨0,[],[]⟩):=by simp[t]
 have y:=yh (by rwa [p.left.f]:v<o.f.length)
 let ⟨m,r⟩:=p.left.e v _ _ z y
 let ⟨E,s,x⟩:=nQ z y
 let ⟨h,l,e,D⟩:=m.a
 let ⟨d,k,c,G⟩:=r.a
 rw[D]at m s;rw[G]at r x;rcases p.left.d.2 with ⟨-,I⟩|⟨g,q,H,a,-⟩
 .lia
 have i:=λj u B=>p.left.d.cells (by rw[a];rfl:o.i.ownBlock=some g) j u B;simp only[lu]at i;exact⟨g,q,h,l,e,d,k,c,a,i _ _ E,i _ _ s,i _ _ x,m,r⟩
def tN(p:PP w F b S o)(wf:Wf S)(ho:S.out=false)(P:FrW S.n f)(L:f.h<S.b)(B:ud w (o.R F b) f rv cv mv)(hs:S.e.length<=900000):Do 172 #[pT b 0,jq f rv cv mv] ϳ w F b o (S.MM f):=by
 obtain⟨ro,rn,rk,rfl⟩:=B.row.a;obtain⟨co,cn,ck,rfl⟩:=B.cut.a;obtain⟨mo,mn,mk,rfl⟩:=B.msgs.a;have c:=ah (p.bx B)
 let ⟨q,W,H⟩:=P.src
 obtain⟨v,M⟩:∃v:Nat,f.h=v:=⟨f.h.toNat,ϕ P.view.1⟩;have C:v<S.i.length:=ϕ (wf.left.2 ho);have x:=ah C;have k:Hid (f.f=(q:Int)/\f.h=(v:Int)):=⟨H,M⟩;have a1:0<=v:=ω;have a0:v<S.i.length:=ω;have z:Hid (S.MM f=if f.c=7 then S else S.ME q v (S.i.getD v ⟨0,[],[]⟩)):=by unfold Hid PS.MM;rw[H,M];rfl
 clear p B wf P ho H W L M C;generalize S.MM f=Z at z|-;unfold jq;go_enter func172,ntmps172;refine wp_seq_k λK y=>?_;have D:=ah y;clear y;go_wp21;apply D;generalize w.alloc _=d at c|-;generalize w.heap.size=X at c|-;have d0:=c.c.y 0;simp at d0;by_cases hk:f.c=7
 .have G:Hid (Z=S):=by rw[Hid,z,if_pos hk]
  go_wp21
  (try simp)
  apply bodyPost_ret (results_none rfl _ _ _) rfl;exact⟨rfl,o,G▸c.a⟩
 have G:Hid (Z=S.ME q v (S.i.getD v ⟨0,[],[]⟩)):=by rw[Hid,z,if_neg hk]
 let ⟨g,gk,V,U,N,I,T,O,E,Y,g1,g2,hc,hm⟩:=c.a.c.t x
 have l:Hid (∀a,Ϟ d a->ε a X 1 (J q)/\ε a X 4 (J v)/\ε a b 16 (sT g S.i.length gk)/\a.cell? ⟨g,v*3,none⟩=some (J (S.i.getD v ⟨0,[],[]⟩).m)/\a.cell? ⟨g,v*3+1,none⟩=some (.slice V U N)/\a.cell? ⟨g,v*3+2,none⟩=some (.slice I T O)):=λa r=>by have h:=c.e r;have t:=h.a.c.a.y 16;have h1:=h.c.y 1;have A:=h.c.y 4;simp only[yf,yd,ye,k.1]at h1;simp only[yf,yd,ye,k.2]at A;simp only[yf,yd,ye,E]at t;have Q:=λ{j:Nat}{u:Θ}(hx:ε d g j u)=>(r.cell (p:=(aT g j)) (World.block_lt_of_cell? d _ hx)).trans hx;exact⟨h1,A,t,Q Y,Q g1,Q g2⟩
 have m:Hid (ϖ 208 #[pT b 0,J q,J v,.agg #[J (S.i.getD v ⟨0,[],[]⟩).m,.slice V U N,.slice I T O]] d.drew λe s=>ϱ e ϳ/\∃o',To w F b o s Z o'):=by have r:Ϟ d d.drew:=Ϡ.drew;have h5:=c.e r;have st:=(c.a.c.d r).d;apply (kT h5.a.c q v (S.i.getD v ⟨0,[],[]⟩) ω (aX (hc.f st).d) (hm.c st).at).m;rintro s⟨a2,h'⟩;exact⟨rfl,_,G▸h5.a.a h'⟩
 generalize (S.i.getD v ⟨0,[],[]⟩).m=em at l m;go_wp21;refine gl.b (λa=>ε a X 1 (J q)/\ε a X 4 (J v)/\ε a b 16 (sT g S.i.length gk)/\a.cell? ⟨g,v*3,none⟩=some (J em)/\a.cell? ⟨g,v*3+1,none⟩=some (.slice V U N)/\a.cell? ⟨g,v*3+2,none⟩=some (.slice I T O)) 13 rfl (l _ Ϡ.drew) λi=>?_;(iterate 13 refine χ ?_);refine te 13 λK y=>?_;go_simp;apply m.m;rintro w4 A;refine y.out _ _ (λh=>absurd rfl h) λ_=>?_;refine gl.done κ ?_ _;go_wp21;go_end0;exact⟨rfl,(ah A)⟩
def nj(p:PP w F b S o)(m:Wf S)(t:S.out=false)(l:FrW S.n f)(s:ud w (o.R F b) f rv cv mv)(N:S.e.length<=800000):Do 174 #[pT b 0,jq f rv cv mv] ϳ w F b o (S.L9 f):=by
 obtain⟨K,D,z,rfl⟩:=s.row.a;obtain⟨B,E,H,rfl⟩:=s.cut.a;obtain⟨G,C,I,rfl⟩:=s.msgs.a;have j:=ah (p.bx s);have v:f.c=1\/f.c=2\/f.c=3\/f.c=4\/f.c=5\/f.c=6\/f.c=7:=by have:=l.c;unfold Md.cH at this;by_cases h1:f.c=1<;>by_cases h2:f.c=2<;>by_cases h3:f.c=3<;>by_cases h4:f.c=4<;>by_cases h5:f.c=5<;>by_cases h6:f.c=6<;>by_cases h7:f.c=7<;>simp_all
 have q:∀y,Bx w F b o f K B G D z E H C I w y S o->∀{T:PS}{k:FuncId},Do k #[pT b 0,jq f (.slice K D z) (.slice B E H) (.slice G C I)] ϳ y F b o T->ϖ k #[pT b 0,jq f (.slice K D z) (.slice B E H) (.slice G C I)] y λe A=>ϱ e ϳ/\∃P,To w F b o A T P:=λy h _ _ O=>h.a.g O;have d:=j;have u:=j.c.z 0;have W:=j.c.z 1;have d2:=j.c.z 2;have Y:=j.c.z 3;have Q:=j.c.z 4;have U:=j.c.z 5;have d6:=j.c.z 6;have L:=j.c.z 7;have M:=j.c.z 8;have V:=j.c.z 9;rcases v with c|c|c|c|c|c|c
 .have a:Hid (ϖ 209 _ _ _):=q _ d (xa d.a.c m l c d.fr);have i:Hid (S.L9 f=S.MQ f):=by unfold Hid PS.L9;rw[if_pos c]
  rw[i];rw[c]at u;unfold jq at a|-;rw[c]at a|-;generalize S.MQ f=Z at a|-;go_enter func174,ntmps174;go_wp21;apply a.m;rintro x g;go_wp21;go_end0;exact⟨rfl,(ah g)⟩
 .have a:Hid (ϖ 210 _ _ _):=q _ d (qX d.a.c m l c d.fr);have i:Hid (S.L9 f=S.ML f):=by unfold Hid PS.L9;simp[c]
  rw[i];rw[c]at u;unfold jq at a|-;rw[c]at a|-;generalize S.ML f=Z at a|-;go_enter func174,ntmps174;go_wp21;apply a.m;rintro x g;go_wp21;go_end0;exact⟨rfl,(ah g)⟩
 .have a:Hid (ϖ 211 _ _ _):=q _ d (tY d.a.c m l d.fr ω);have i:Hid (S.L9 f=S.MR f):=by unfold Hid PS.L9;simp[c]
  rw[i];rw[c]at u;unfold jq at a|-;rw[c]at a|-;generalize S.MR f=Z at a|-;go_enter func174,ntmps174;go_wp21;apply a.m;rintro x g;go_wp21;go_end0;exact⟨rfl,(ah g)⟩
 .have a:Hid (ϖ 212 _ _ _):=q _ d (tZ d.a.c m t l c d.fr N);have i:Hid (S.L9 f=S.Mv f):=by unfold Hid PS.L9;simp[c]
  rw[i];rw[c]at u;unfold jq at a|-;rw[c]at a|-;generalize S.Mv f=Z at a|-;go_enter func174,ntmps174;go_wp21;apply a.m;rintro x g;go_wp21;go_end0;exact⟨rfl,(ah g)⟩
 .have a:Hid (ϖ 213 _ _ _):=q _ d (qW d.a.c m l c d.fr ω);have i:Hid (S.L9 f=S.MK f):=by unfold Hid PS.L9;simp[c]
  rw[i];rw[c]at u;unfold jq at a|-;rw[c]at a|-;generalize S.MK f=Z at a|-;go_enter func174,ntmps174;go_wp21;apply a.m;rintro x g;go_wp21;go_end0;exact⟨rfl,(ah g)⟩
 .have a:Hid (ϖ 214 _ _ _):=q _ d (ot d.a.c m t l d.fr ω);have i:Hid (S.L9 f=S.Mk f):=by unfold Hid PS.L9;simp[c]
  rw[i];rw[c]at u;unfold jq at a|-;rw[c]at a|-;generalize S.Mk f=Z at a|-;go_enter func174,ntmps174;go_wp21;apply a.m;rintro x g;go_wp21;go_end0;exact⟨rfl,(ah g)⟩
 have a:Hid (ϖ 215 _ _ _):=q _ d (qo d.a.c m t l c d.fr);have i:Hid (S.L9 f=S.M3 f):=by unfold Hid PS.L9;simp[c]
 rw[i];rw[c]at u;unfold jq at a|-;rw[c]at a|-;generalize S.M3 f=Z at a|-;go_enter func174,ntmps174;go_wp21;apply a.m;rintro x g;go_wp21;go_end0;exact⟨rfl,(ah g)⟩
variable {v:Θ}{n:Nat}{l:List ϥ}
def B8(p:PP w F b S o)(B:Wf S)(P:S.out=false)(M:FrW S.n f){rv cv mv:Θ}(y:ud w (o.R F b) f rv cv mv)(Y:S.e.length<=800000):Do 117 #[pT b 0,jq f rv cv mv] ϳ w F b o (S.MW f):=by
 obtain⟨N,E,A,rfl⟩:=y.row.a;obtain⟨C,G,I,rfl⟩:=y.cut.a;obtain⟨H,D,L,rfl⟩:=y.msgs.a;have c:=ah (p.bx y)
 let ⟨q,V,W⟩:=M.src
 have HQ:=ah W;have a0:0<=q:=ω;have x:q<=63:=ϕ B.c;have r:Hid (S.MW f=if S.b<f.h then S else if f.h<S.b then S.MM f else if Md.aV S.m q then S.L9 f else S):=by have e:f.f.toNat=q:=ω;unfold Hid PS.MW;rw[e]
 have u:Hid (∀d,Bx w F b o f N C H E A G I D L w d S o->f.h<S.b->ϖ 172 #[pT b 0,jq f (.slice N E A) (.slice C G I) (.slice H D L)] d λe g=>ϱ e ϳ/\∃Q,To w F b o g (S.MM f) Q):=λd h O=>h.a.g (tN h.a.c B P M O h.fr ω);have m:Hid (∀d,Bx w F b o f N C H E A G I D L w d S o->ϖ 174 #[pT b 0,jq f (.slice N E A) (.slice C G I) (.slice H D L)] d λe g=>ϱ e ϳ/\∃Q,To w F b o g (S.L9 f) Q):=λd h=>h.a.g (nj h.a.c B P M h.fr Y);clear p y B M P W V Y;generalize S.MW f=Z at r|-;unfold jq at u m|-;go_enter func117,ntmps117;refine wp_seq_k λK k=>?_;have z:=ah k;clear k;go_wp21;apply z;generalize w.alloc _=wb at c|-;generalize w.heap.size=X at c u m|-;have c6:=c.a.c.a.z 6;have c7:=c.a.c.a.z 7;have d0:=c.c.z 0;have d1:=c.c.z 1;have d2:=c.c.z 2;have d3:=c.c.z 3;have d4:=c.c.z 4;have d5:=c.c.z 5;have d6:=c.c.z 6;have d7:=c.c.z 7;have d8:=c.c.z 8;have d9:=c.c.z 9;by_cases T:S.b<f.h
 .have s:Hid (Z=S):=by rw[Hid,r,if_pos T]
  go_wp21
  go_quiet (fail);go_wp21;(try simp);apply bodyPost_ret (results_none rfl _ _ _) rfl;exact⟨rfl,o,s▸(c.d nq).a⟩
 by_cases U:f.h<S.b
 .have s:Hid (Z=S.MM f):=by rw[Hid,r,if_neg T,if_pos U]
  go_wp21
  go_quiet (fail);go_wp21;go_quiet (fail);go_wp21;apply (u _ (c.d _) (ah U)).m;rintro w3 h3;go_wp21;go_end0;exact⟨rfl,s▸(ah h3)⟩
 have i:Hid (Z=if Md.aV S.m q then S.L9 f else S):=by rw[Hid,r,if_neg T,if_neg U]
 have j:Hid (∀d,ϖ 173 #[J S.m,J q] d λe g=>ϱ e (.bool (Md.aV S.m q))/\g=d):=λd=>gE S.m q d x;rw[HQ]at d1;cases t:Md.aV S.m q
 .have s:Hid (Z=S):=by have:=i;rwa [t]at this
  rw[t]at j;go_wp21;go_quiet (fail);go_wp21;go_quiet (fail);go_wp21;refine wp_region_held_drew (S:=λd=>ε d b 7 (J S.m)/\ε d X 1 (J q)) rfl (by constructor<;>simpa) λa=>?_;(iterate 6 refine ψ ?_);refine we 6 λK k=>?_;go_simp;apply (j _).m;rintro w2 rfl;refine k.out _ _ (by constructor<;>simpa) λa=>?_;apply wk 7;refine wpAnyH_done κ ?_ _;go_wp21;go_end0;exact⟨rfl,o,s▸(c.d _).a⟩
 have s:Hid (Z=S.L9 f):=by have:=i;rwa [t]at this
 rw[t]at j;rw[HQ]at m;go_wp21;go_quiet (fail);go_wp21;go_quiet (fail);go_wp21;refine wp_region_held_drew (S:=λd=>ε d b 7 (J S.m)/\ε d X 1 (J q)) rfl (by constructor<;>simpa) λa=>?_;(iterate 6 refine ψ ?_);refine we 6 λK k=>?_;go_simp;apply (j _).m;rintro w2 rfl;refine k.out _ _ (by constructor<;>simpa) λa=>?_;apply wk 7;refine wpAnyH_done κ ?_ _;go_wp21;apply (m _ (c.d _)).m;rintro w4 h4;go_wp21;go_end0;exact⟨rfl,s▸(ah h4)⟩
def qL{m:Nat}(d:ϣ)(c:Nat)(w:Δ)(h:((m:Int)==(n:Int))=false)(g:((m:Int)==0)=false):ϖ 169 #[.slice d m c,J n] w λe a=>ϱ e (.bool false)/\a=w:=by go_enter func169,ntmps169;go_wp2;go_ret;exact⟨rfl,rfl⟩
def kO(l:Υ)(n:Nat)(a:ϣ)(c:Nat)(w:Δ):ϖ 169 #[.slice a l.length c,J n] w λe h=>ϱ e (.bool (Md.dp l n))/\h=w:=by unfold Md.dp;by_cases g:l.length=n;rw[g];simp;exact oc n a c w;by_cases d:l.length=0;rw[d];simp;exact od n a c w;rw[(by simp only[beq_eq_false_iff_ne.2 g,beq_eq_false_iff_ne.2 d];rfl:(l.length==n||l.length==0)=false)];exact qL a c w (by rw[beq_eq_false_iff_ne];lia) (by rw[beq_eq_false_iff_ne];lia)
def eB.h{e:ϟ}{d:Nat}{a:Ϣ}(h:eB w R e d v n a):∃g c,v=.slice g n c:=bG h.d
def bI.d(h:bI w R v l):∃a c,v=.slice a l.length c:=by rcases h with ⟨⟨a,c,rfl⟩,rfl⟩|⟨g,d,rfl,-⟩;exact⟨a,c,rfl⟩;exact⟨_,_,rfl⟩
def bI.g(h:bI w R v l){k:Nat}{m:ϥ}(s:l[k]?=some m):∃g a j p,v=sT g l.length a/\g<w/\w.cell? ⟨g,k*4,none⟩=some (J m.a)/\w.cell? ⟨g,k*4+1,none⟩=some (J m.seq)/\w.cell? ⟨g,k*4+2,none⟩=some (.slice j m.c.length p)/\w.cell? ⟨g,k*4+3,none⟩=some (.string m.b)/\(∀q,q<m.c.length->∃i,j=some ⟨i,0,none⟩/\ε w i q (J (m.c.getD q 0))):=by
 rcases h with ⟨-,rfl⟩|⟨g,a,A,z,-,y⟩;cases s
 let ⟨D,x,C,B,u,r⟩:=y k m s
 obtain⟨j,p,rfl⟩:=r.h;refine⟨g,a,j,p,A,z,x,C,B,u,λq t=>?_⟩
 let ⟨i,c,e,_,_,d⟩:=mE r.d ω
 injection e with e1 e2 e3;exact⟨i,e1,d q t⟩
def zp(l:List ϥ)(n:Nat)(mv:Θ)(hm:bI w R mv l)(h0:∀m∈l,0<=m.a)(a4:l.length<=1000):ϖ 170 #[mv,J n] w λe w'=>ϱ e (.bool (l.all (Md.dr n)))/\Ϟ w w':=by
 obtain⟨ao,mc,rfl⟩:=hm.d;have HM:Hid (∀k m wr,l[k]?=some m->Ϟ w wr->∃g G C,ao=some ⟨g,0,none⟩/\wr.cell? ⟨g,k*4,none⟩=some (J m.a)/\wr.cell? ⟨g,k*4+1,none⟩=some (J m.seq)/\wr.cell? ⟨g,k*4+2,none⟩=some (.slice G m.c.length C)/\wr.cell? ⟨g,k*4+3,none⟩=some (.string m.b)/\(∀q,q<m.c.length->∃B,G=some ⟨B,0,none⟩/\B<wr/\ε wr B q (J (m.c.getD q 0)))):=λk m wr hk u=>by
  let ⟨g,a6,G,C,hv,T,Q,c1,c2,c3,P⟩:=hm.g hk
  injection hv with hv1;refine⟨g,G,C,hv1,(u.cell (p:=(aT g _)) T).trans Q,(u.cell (p:=(aT g _)) T).trans c1,(u.cell (p:=(aT g _)) T).trans c2,(u.cell (p:=(aT g _)) T).trans c3,λq hq=>?_⟩
  let ⟨B,e,hc⟩:=P q hq
  have:=World.block_lt_of_cell? w _ hc;exact⟨B,e,yg this u.size,(u.cell (p:=(aT B q)) this).trans hc⟩
 go_enter func170,ntmps170;go_wp21;go_loopw [9] (λi wr=>∃k:Nat,k<=l.length/\i=J k/\Below _ w wr/\Hid ((l.take k).all (Md.dr n)=true)) λi _=>l.length-(intOf i).toNat
 case atStart=>exact⟨0,ω,rfl,Below.refl _ _,rfl⟩
 case round=>
  obtain⟨k,hk,rfl,u,r⟩:=hrel;by_cases U:k<l.length
  .obtain⟨m,A⟩:∃m,l[k]?=some m:=⟨_,yh U⟩
   let ⟨g,G,C,W,Q,c1,c2,c3,P⟩:=HM k m wr A u
   have V:=(ah h0) m (yy A);obtain⟨s,Y⟩:∃s:Nat,m.a=s:=⟨m.a.toNat,ω⟩;have p:Hid (Md.dr n m=false->l.all (Md.dr n)=false):=λh=>by rw[List.all_eq_false];exact⟨m,yy A,by rw[h];exact Bool.false_ne_true⟩
   have j:Hid (Md.dr n m=true->(l.take (k+1)).all (Md.dr n)=true):=λh=>by rw[Lc,A,List.all_append,r];simp[h]
   have HMF:Hid (Md.dr n m=(decide ((s:Int)<n)&&m.c.length==n&&m.c.getD s 0==m.seq)):=by unfold Hid Md.dr;rw[Y];rfl
   rw[Y]at Q;have t:=ah P
   let ⟨ms,H,y,I⟩:=m
   simp only at Q c1 c2 c3 t HMF;have a1:k<l.length:=ω;have a7:0<=k:=ω;have a3:0<=s:=ω;subst W;have x:Hid (Ϟ wr (wr.alloc (.cells #[J s,J H,.slice G y.length C,.string I] 179))):=Ϡ.alloc Ϫ _;have d:=ah (u.trans (x.mono u.size));have O:=af.d wr _ rfl 179 #[J s,J H,.slice G y.length C,.string I];have L:=O.z 0;have M:=O.z 1;have N:=O.z 2;by_cases h1:(n:Int)<=(s:Int)
   .have D:Hid (l.all (Md.dr n)=false):=p (by rw[HMF];simp;lia);go_wp21;generalize wr.alloc (.cells #[J s,J H,.slice G y.length C,.string I] 179)=Z at x d L M N|-;go_quiet (fail);go_wp21;go_ret;exact⟨by rw[D];rfl,below_drewN d _⟩
   have hd:decide (n<=s)=false:=by rw[decide_eq_false_iff_not];lia
   by_cases h2:(y.length:Int)=(n:Int)
   .obtain⟨B,rfl,a0,ht⟩:=t s ω;have E:=(x.cell (p:=(aT B s)) a0).trans ht;have a5:(s:Int)<(y.length:Int):=ω;have g2:((y.length:Int) !=(n:Int))=false:=by rw[h2];simp
    by_cases K:y.getD s 0=H
    .have D:Hid ((l.take (k+1)).all (Md.dr n)=true):=j (by rw[HMF,K];simp;lia);rw[K]at E;go_wp21;generalize wr.alloc (.cells #[J s,J H,sT B y.length C,.string I] 179)=Z at x d L M N E|-;go_quiet (fail);go_wp21;exact⟨⟨k+1,ω,by go_num,below_drewN d _,D⟩,by simp[intOf];lia⟩
    have D:Hid (l.all (Md.dr n)=false):=p (by rw[HMF];simp only[beq_eq_false_iff_ne.2 K,Bool.and_false]);generalize y.getD s 0=z at K E;have g3:(z !=H)=true:=by rwa [bne_iff_ne]
    go_wp21
    generalize wr.alloc (.cells #[J s,J H,sT B y.length C,.string I] 179)=Z at x d L M N E|-;go_quiet (fail);go_wp21;go_ret;exact⟨by rw[D];rfl,below_drewN d _⟩
   have D:Hid (l.all (Md.dr n)=false):=p (by rw[HMF];simp;lia);have g2:((y.length:Int) !=(n:Int))=true:=by rwa [bne_iff_ne]
   go_wp21
   generalize wr.alloc (.cells #[J s,J H,.slice G y.length C,.string I] 179)=Z at x d L M N|-;go_quiet (fail);go_wp21;go_ret;exact⟨by rw[D];rfl,below_drewN d _⟩
  have a2:¬(k:Int)<(l.length:Int):=ω;have D:Hid (l.all (Md.dr n)=true):=by have:=r;rwa [yX ω]at this
  go_wp21
  go_ret;exact⟨by rw[D];rfl,(ah u)⟩
def vV(f:Codec.Frame)(n:Nat)(b:f.c=1\/f.c=2\/f.c=3\/f.c=4\/f.c=5\/f.c=6\/f.c=7)(L I D:ϣ)(H F G:Nat)(w:Δ):ϖ 171 #[jq f (.slice L f.g.length H) (.slice I f.i.length F) (.slice D f.d.length G),J n] w λe T=>ϱ e (.bool (Md.cH f n))/\Ϟ w T:=by
 obtain⟨Q,E,O,K,N,d,q,B,C,A⟩:=f;simp only at b;unfold jq;simp only;obtain⟨v,c⟩:∃v,Md.cH ⟨Q,E,O,K,N,d,q,B,C,A⟩ n=v:=⟨_,rfl⟩;rw[c];unfold Md.cH at c;simp only at c;have u:(B.length==n)=decide ((B.length:Int)=(n:Int)):=by rw[Bool.eq_iff_iff];simp;lia
 have s:(C.length==n)=decide ((C.length:Int)=(n:Int)):=by rw[Bool.eq_iff_iff];simp;lia
 have x:(A.length==1)=decide ((A.length:Int)=1):=by rw[Bool.eq_iff_iff];simp;lia
 have t:(d !=0)= !decide (d=0):=by rw[Bool.eq_iff_iff];simp
 have r:(q==0)=decide (q=0):=by rw[Bool.eq_iff_iff];simp
 rw[u,s,x,t,r]at c;clear u s x t r;generalize B.length=y at c|-;generalize C.length=z at c|-;generalize A.length=M at c|-;have m:=af.d w _ rfl 165 #[J Q,J E,J O,J K,J N,J d,J q,.slice L y H,.slice I z F,.slice D M G];have g:=m.a 0 _ rfl;have h:=m.a 5 _ rfl;have l:=m.a 6 _ rfl;have i:=m.a 7 _ rfl;have k:=m.a 8 _ rfl;have j:=m.a 9 _ rfl;simp only[yf,yd,ye]at g h l i k j;have a:Hid (Ϟ w (w.alloc (.cells #[J Q,J E,J O,J K,J N,J d,J q,.slice L y H,.slice I z F,.slice D M G] 165))):=Ϡ.alloc Ϫ _;have o:=ah c;clear m c;rcases b with rfl|rfl|rfl|rfl|rfl|rfl|rfl
 .by_cases R:y=(n:Int)<;>by_cases V:(M:Int)=1<;>
  (go_enter func171,ntmps171;go_wp21;generalize w.alloc _=p at a g h l i k j|-;go_quiet (fail);go_wp21;go_ret;refine⟨?_,below_drewN a _⟩;rw[<-o];simp[*])
 .by_cases R:(y:Int)=(n:Int)<;>
  (go_enter func171,ntmps171;go_wp21;generalize w.alloc _=p at a g h l i k j|-;go_quiet (fail);go_wp21;go_ret;refine⟨?_,below_drewN a _⟩;rw[<-o];simp[*])
 .rcases Decidable.em (d=0)with rfl|P<;>
  (go_enter func171,ntmps171;go_wp21;generalize w.alloc _=p at a g h l i k j|-;go_quiet (fail);go_wp21;go_ret;refine⟨?_,below_drewN a _⟩;rw[<-o];simp[*])
 .rcases Decidable.em (d=0)with rfl|P<;>by_cases R:(y:Int)=(n:Int)<;>by_cases S:(z:Int)=(n:Int)<;>rcases Decidable.em (q=0)with rfl|U<;>
  (go_enter func171,ntmps171;go_wp21;generalize w.alloc _=p at a g h l i k j|-;go_quiet (fail);go_wp21;go_ret;refine⟨?_,below_drewN a _⟩;rw[<-o];simp[*])
 .rcases Decidable.em (d=0)with rfl|P<;>by_cases S:(z:Int)=(n:Int)<;>
  (go_enter func171,ntmps171;go_wp21;generalize w.alloc _=p at a g h l i k j|-;go_quiet (fail);go_wp21;go_ret;refine⟨?_,below_drewN a _⟩;rw[<-o];simp[*])
 .rcases Decidable.em (d=0)with rfl|P<;>
  (go_enter func171,ntmps171;go_wp21;generalize w.alloc _=p at a g h l i k j|-;go_quiet (fail);go_wp21;go_ret;refine⟨?_,below_drewN a _⟩;rw[<-o];simp[*])
 by_cases S:(z:Int)=(n:Int)<;>
 (go_enter func171,ntmps171;go_wp21;generalize w.alloc _=p at a g h l i k j|-;go_quiet (fail);go_wp21;go_ret;refine⟨?_,below_drewN a _⟩;rw[<-o];simp[*])
def vN(n:Nat)(a:n<=6):Md.bj (gD n)/\gD n=(2:Int)^n-1:=by
 match n,a with
 |0,_|1,_|2,_|3,_|4,_|5,_|6,_=>exact⟨⟨θ,θ⟩,θ⟩
def F9{w:Δ}{R:ϑ}(f:Codec.Frame)(j n:Nat)(hn:n<=6)(s:f.c=1\/f.c=2\/f.c=3\/f.c=4\/f.c=5\/f.c=6\/f.c=7)(I:Md.bj f.b)(h0:∀m∈f.d,0<=m.a)(E:f.d.length<=1000){rv cv mv:Θ}(Q:ud w R f rv cv mv):ϖ 116 #[jq f rv cv mv,J j,J n] w λe b=>ϱ e (.bool (Md.na f j n))/\Ϟ w b:=by
 obtain⟨G,B,Y⟩:=Q.row.h;obtain⟨C,F,U⟩:=Q.cut.h;obtain⟨x,A,L⟩:=Q.msgs.d;have hF:=vN n hn;have D:=af.d w _ rfl 165 #[J f.c,J f.f,J f.j,J f.b,J f.h,J f.a,J f.e,.slice G f.g.length B,.slice C f.i.length F,.slice x f.d.length A];have u:Hid (Ϟ w (w.alloc (.cells #[J f.c,J f.f,J f.j,J f.b,J f.h,J f.a,J f.e,.slice G f.g.length B,.slice C f.i.length F,.slice x f.d.length A] 165))):=Ϡ.alloc Ϫ _;have HM:Hid (∀b,Ϟ w b->ϖ 170 #[.slice x f.d.length A,J n] b λe i=>ϱ e (.bool (f.d.all (Md.dr n)))/\Ϟ b i):=λb hb=>by have:=zp f.d n mv (Q.msgs.c (gI hb)) h0 E;rwa [L]at this
 have N:=ah λb=>vV f n s G C x B F A b;have HR:=ah (kO f.g n G B);have HC:=ah (kO f.i n C F);have HE:=ah λb=>ml n b hn;have hA:=(cK I hF.1).1;rw[Y,U,L];obtain⟨v,hv⟩:∃v,Md.na f j n=v:=⟨_,rfl⟩;have c:Hid (v=((f.j==(j:Int))&&(f.f !=(j:Int))&&decide (f.f<(n:Int))&&(Md.cX f.b (gD n)==0)&&Md.dp f.g n&&Md.dp f.i n&&f.d.all (Md.dr n)&&Md.cH f n)):=by rw[Hid,<-hv];unfold Md.na;rw[hF.2]
 rw[hv];clear hv hF;unfold jq;generalize f.g.length=rn at D u N HR|-;generalize f.i.length=cn at D u N HC|-;generalize f.d.length=V at D u N HM|-;generalize Md.dp f.g n=b5 at HR c;generalize Md.dp f.i n=b6 at HC c;generalize f.d.all _=b7 at HM c;generalize Md.cH f n=b8 at N c;generalize Md.cX _ (gD n)=z at hA c;obtain⟨fk,O,fd,fm,fv,fb,fo,Q,fc,fg⟩:=f;simp only at D u N hA c|-;go_enter func116,ntmps116;refine wp_seq_k λK d=>?_;have a0:=ah d;clear d;go_wp21;apply a0;have Z:Hid ((w.alloc (.cells #[J fk,J O,J fd,J fm,J fv,J fb,J fo,.slice G rn B,.slice C cn F,.slice x V A] 165))=w.heap.size+1):=by simp[Hid]
 generalize w.alloc _=l at D u Z|-;have o:Hid (∀b,Ϟ l b->ε b w 0 (J fk)/\ε b w 1 (J O)/\ε b w 2 (J fd)/\ε b w 3 (J fm)/\ε b w 4 (J fv)/\ε b w 5 (J fb)/\ε b w 6 (J fo)/\ε b w 7 (.slice G rn B)/\ε b w 8 (.slice C cn F)/\ε b w 9 (.slice x V A)):=λb t=>
  have:=D.c t D.f
  ⟨this.y 0,this.y 1,this.y 2,this.y 3,this.y 4,this.y 5,this.y 6,this.y 7,this.y 8,this.y 9⟩
 have T:Hid (∀b,Ϟ l b->ϖ 170 #[.slice x V A,J n] b λe i=>ϱ e (.bool b7)/\Ϟ l i):=λb t=>by apply (HM b (u.trans (t.mono u.size))).m;rintro i h;exact⟨rfl,t.trans (h.mono t.size)⟩
 have W:Hid (∀b,Ϟ l b->ϖ 171 #[.agg #[J fk,J O,J fd,J fm,J fv,J fb,J fo,.slice G rn B,.slice C cn F,.slice x V A],J n] b λe i=>ϱ e (.bool b8)/\Ϟ l i):=λb t=>by apply (N b).m;rintro i h;exact⟨rfl,t.trans (h.mono t.size)⟩
 have g:Hid (∀b,Ϟ l b->Ϟ w b):=λb t=>u.trans (t.mono u.size);generalize w.heap.size=X at o g|-;go_wp21;refine wp_region_held_drew (S:=λb=>ε b X 0 (J fk)/\ε b X 1 (J O)/\ε b X 2 (J fd)/\ε b X 3 (J fm)/\ε b X 4 (J fv)/\ε b X 5 (J fb)/\ε b X 6 (J fo)/\ε b X 7 (.slice G rn B)/\ε b X 8 (.slice C cn F)/\ε b X 9 (.slice x V A)) rfl (o _ Ϡ.drew) λa=>?_;(iterate 3 refine ψ ?_);cases y:(fd==j)
 ·(iterate 45 refine ψ ?_)
  refine wpAnyH_done κ ?_ _;go_wp21;go_ret;exact⟨by rw[c,y];rfl,g _ Ϡ.drew⟩
 apply wk 3;apply wk 4;apply wk 5;apply wk 6;apply wk 7;cases H:(O !=(j:Int))
 .apply wk 8;apply wk 9;apply wk 10;apply wk 11;apply wk 12;apply wk 13;apply wk 14;apply wk 15;apply wk 16;apply wk 17;apply wk 18;apply wk 19;apply wk 20;apply wk 21;apply wk 22;apply wk 23;apply wk 24;apply wk 25;apply wk 26;apply wk 27;apply wk 28;apply wk 29;apply wk 30;apply wk 31;apply wk 32;apply wk 33;apply wk 34;apply wk 35;apply wk 36;apply wk 37;apply wk 38;apply wk 39;apply wk 40;apply wk 41;apply wk 42;apply wk 43;apply wk 44;apply wk 45;apply wk 46;apply wk 47;refine wpAnyH_done κ ?_ _;go_wp21;go_ret;exact⟨by rw[c,y,H];rfl,g _ Ϡ.drew⟩
 apply wk 8;apply wk 9;apply wk 10;apply wk 11;apply wk 12;apply wk 13;cases M:decide (O<(n:Int))
 .apply wk 14;apply wk 15;apply wk 16;apply wk 17;apply wk 18;apply wk 19;apply wk 20;apply wk 21;apply wk 22;apply wk 23;apply wk 24;apply wk 25;apply wk 26;apply wk 27;apply wk 28;apply wk 29;apply wk 30;apply wk 31;apply wk 32;apply wk 33;apply wk 34;apply wk 35;apply wk 36;apply wk 37;apply wk 38;apply wk 39;apply wk 40;apply wk 41;apply wk 42;apply wk 43;apply wk 44;apply wk 45;apply wk 46;apply wk 47;refine wpAnyH_done κ ?_ _;go_wp21;go_ret;exact⟨by rw[c,y,H,M];rfl,g _ Ϡ.drew⟩
 apply wk 14;apply wk 15;apply wk 16;apply wk 17;apply wk 18;apply wk 19;refine we 20 λK d=>?_;go_simp;apply (HE _).m;rintro S rfl;refine d.out _ _ (o _ Ϡ.drew) λa=>?_;apply wk 21;cases P:(z==0)
 .apply wk 22;apply wk 23;apply wk 24;apply wk 25;apply wk 26;apply wk 27;apply wk 28;apply wk 29;apply wk 30;apply wk 31;apply wk 32;apply wk 33;apply wk 34;apply wk 35;apply wk 36;apply wk 37;apply wk 38;apply wk 39;apply wk 40;apply wk 41;apply wk 42;apply wk 43;apply wk 44;apply wk 45;apply wk 46;apply wk 47;refine wpAnyH_done κ ?_ _;go_wp21;go_ret;exact⟨by rw[c,y,H,M,P];rfl,g _ Ϡ.drew⟩
 apply wk 22;apply wk 23;apply wk 24;apply wk 25;apply wk 26;apply wk 27;cases b5
 .refine we 28 λK d=>?_;go_simp;apply (HR _).m;rintro S rfl;refine d.out _ _ (o _ Ϡ.drew) λa=>?_;apply wk 29;apply wk 30;apply wk 31;apply wk 32;apply wk 33;apply wk 34;apply wk 35;apply wk 36;apply wk 37;apply wk 38;apply wk 39;apply wk 40;apply wk 41;apply wk 42;apply wk 43;apply wk 44;apply wk 45;apply wk 46;apply wk 47;refine wpAnyH_done κ ?_ _;go_wp21;go_ret;exact⟨by rw[c,y,H,M,P];rfl,g _ Ϡ.drew⟩
 refine we 28 λK d=>?_;go_simp;apply (HR _).m;rintro S rfl;refine d.out _ _ (o _ Ϡ.drew) λa=>?_;apply wk 29;apply wk 30;apply wk 31;apply wk 32;apply wk 33;cases b6
 .refine we 34 λK d=>?_;go_simp;apply (HC _).m;rintro S rfl;refine d.out _ _ (o _ Ϡ.drew) λa=>?_;apply wk 35;apply wk 36;apply wk 37;apply wk 38;apply wk 39;apply wk 40;apply wk 41;apply wk 42;apply wk 43;apply wk 44;apply wk 45;apply wk 46;apply wk 47;refine wpAnyH_done κ ?_ _;go_wp21;go_ret;exact⟨by rw[c,y,H,M,P];rfl,g _ Ϡ.drew⟩
 refine we 34 λK d=>?_;go_simp;apply (HC _).m;rintro S rfl;refine d.out _ _ (o _ Ϡ.drew) λa=>?_;apply wk 35;apply wk 36;apply wk 37;apply wk 38;apply wk 39;cases b7
 .refine we 40 λK d=>?_;go_simp;apply (T _ Ϡ.drew).m;rintro S q;have k:=ah q;refine d.out _ _ (o _ k) λa=>?_;apply wk 41;apply wk 42;apply wk 43;apply wk 44;apply wk 45;apply wk 46;apply wk 47;refine wpAnyH_done κ ?_ _;go_wp21;go_ret;exact⟨by rw[c,y,H,M,P];rfl,g _ k⟩
 refine we 40 λK d=>?_;go_simp;apply (T _ Ϡ.drew).m;rintro S q;have k:=ah q;refine d.out _ _ (o _ k) λa=>?_;apply wk 41;apply wk 42;apply wk 43;apply wk 44;cases b8
 .refine we 45 λK d=>?_;go_simp;apply (W _ k).m;rintro w3 p;have r:=ah p;refine d.out _ _ (o _ r) λa=>?_;apply wk 46;apply wk 47;refine wpAnyH_done κ ?_ _;go_wp21;go_ret;exact⟨by rw[c,y,H,M,P];rfl,g _ r⟩
 refine we 45 λK d=>?_;go_simp;apply (W _ k).m;rintro w3 p;have r:=ah p;refine d.out _ _ (o _ r) λa=>?_;apply wk 46;apply wk 47;refine wpAnyH_done κ ?_ _;go_wp21;go_ret;exact⟨by rw[c,y,H,M,P];rfl,g _ r⟩
variable {base:Nat}
def wG{n j:Nat}{e:ϟ}{v:Θ}{i:Ϣ}(l:∀x,base<=x->R x)(h:w.ownsRow base e j v n i):eB w R e j v n i:=by refine⟨⟨h.1,?_⟩,λg k=>l g (h.lt g k).1⟩;rcases h.2 with c|⟨g,a,d,c,-,m⟩;exact .inl c;exact .inr ⟨g,a,d,c,oI _,m⟩
def mC:∀{l:List ϥ}{vs:Ϣ}{i:Nat}{m:ϥ}{v:Θ},l[i]?=some m->vs[i]?=some v->(aI l vs)[i*4]?=some (J m.a)/\(aI l vs)[i*4+1]?=some (J m.seq)/\(aI l vs)[i*4+2]?=some v/\(aI l vs)[i*4+3]?=some (.string m.b)
 |x::L,u::vs,0,a,v,d,c=>by cases d;cases c;exact⟨rfl,rfl,rfl,rfl⟩
 |x::L,u::vs,i+1,a,v,d,c=>by have:=mC (i:=i) d c;simp only[aI];rwa [show (i+1)*4=i*4+4 by lia]
 |[],_,_,_,_,d,_=>by cases d
 |_::_,[],_,_,_,_,c=>by cases c
def dn.r{s y n:Θ}{a:Ϣ}(k:∀x,base<=x->R x)(h:dn w base f s y n a):ud w R f s y n:=by
 refine⟨wG k h.row,wG k h.cut,?_⟩
 let ⟨C,p,A⟩:=h.msgs
 rcases p.2 with ⟨e,v⟩|⟨g,q,I,e,H,v⟩;exact .inl ⟨⟨_,_,e⟩,List.length_eq_zero_iff.1 v⟩;have c:n.ownBlock=some g:=by rw[e];rfl
 refine .inr ⟨g,q,e,(p.lt g c).2,k g H,λj m l=>?_⟩;have r:j<a.length:=C▸(ym.1 l).1;have t:=yh r
 let ⟨D,z,E,G⟩:=mC l t
 have d:=λi u B=>p.cells c i u B;simp only[lu]at d;exact⟨a[j],d _ _ D,d _ _ z,d _ _ E,d _ _ G,wG k (A j m _ l t)⟩
def xY{f:Codec.Frame}(h:Codec.dg f=true):(f.c=1\/f.c=2\/f.c=3\/f.c=4\/f.c=5\/f.c=6\/f.c=7)/\Md.bj f.b/\(∀m∈f.d,0<=m.a)/\f.d.length<=1000:=by
 simp only[Codec.dg,Codec.dk,Codec.bS,Codec.aA,Codec.cd,Codec.aK,yB,Codec.de,y5,decide_eq_true_eq]at h
 let ⟨⟨⟨⟨⟨⟨⟨e,i⟩,_⟩,g⟩,_⟩,_⟩,_⟩,j,a⟩:=h
 refine⟨ω,⟨ω,ω⟩,λm c=>?_,ω⟩
 let ⟨⟨⟨d,_⟩,_⟩,_⟩:=a m c
 lia
def vp{S:PS}(h:S.MC=0):S.out=false:=by unfold PS.MC at h;cases a:S.f<;>cases c:S.out<;>simp[a,c]at h|-
def rI(p:PP w F b S o)(wf:Wf S)(s:Ϭ)(hl:s.length<=140737488351232)(hs:S.e.length<=800000):Do 74 #[pT b 0,.string ⟨s.toArray⟩] ϳ w F b o (S.Mn s):=by
 have HA:=ah (oD p);have HW:Hid (S.Mn s=if S.MC=0&&Codec.bM s&&Md.na (Codec.bO s).1 S.c S.n then S.MW (Codec.bO s).1 else S):=rfl;have P:=ah p;have WF:Hid (Wf S):=wf;generalize S.Mn s=Z at HW|-;by_cases W:S.MC=0
 .rw[W]at HA;cases hf:Codec.bM s
  .have HD:=ah (BS s w hl hf);have HZ:Hid (Z=S):=by rw[Hid,HW,hf];simp
   go_enter func74,ntmps74;go_wp21;apply HA.m;rintro w2 rfl;go_wp21;apply HD.m;rintro c l;have k:=ah l;go_wp21;have j:Hid (Ϟ w2 (c.alloc (.cells #[J 0,J 0,J 0,J 0,J 0,J 0,J 0,sN,sN,sN] 165))):=k.trans (Ϡ.alloc k.size _);generalize c.alloc _=w4 at j|-;refine wp_region_held_drew (S:=λ_=>True) rfl trivial λg=>?_;(iterate 15 refine ψ ?_);refine wpAnyH_done κ ?_ _;go_wp21;(try simp);apply bodyPost_ret (results_none rfl _ _ _) rfl;exact⟨rfl,o,HZ▸P.d j.drew⟩
  obtain⟨m,a0⟩:Codec.dg (Codec.bO s).1=true/\Codec.im (Codec.bO s).1=s:=by unfold Codec.bM at hf;simpa using hf
  have HD:Hid (ϖ 115 _ _ _):=xV s (Codec.bO s).1 (Codec.bO s).2 w hl rfl m a0;have v:Hid (Z=if Md.na (Codec.bO s).1 S.c S.n then S.MW (Codec.bO s).1 else S):=by rw[Hid,HW,hf,W];simp
  have t:=xY m;have O:Hid (∀a Q T U z,Ϟ w a->dn a w (Codec.bO s).1 Q T U z->∀d,Ϟ a d->ud d (o.R F b) (Codec.bO s).1 Q T U/\PP d F b S o):=λa Q T U z G B d Y=>
   ⟨(B.r λx u=>P.g u).a (gI Y),(P.c G).c Y⟩
  have N:Hid (Md.na (Codec.bO s).1 S.c S.n=true->FrW S.n (Codec.bO s).1):=Md.LB m;generalize (Codec.bO s).1=f at HD v t O N;have i:Hid (∀a Q T U,ud a (o.R F b) f Q T U->ϖ 116 #[jq f Q T U,J S.c,J S.n] a λe d=>ϱ e (.bool (Md.na f S.c S.n))/\Ϟ a d):=λa Q T U a4=>F9 f S.c S.n WF.c t.1 t.2.1 t.2.2.1 t.2.2.2 a4;have a1:Hid (∀a,Ϟ w a->ε a b 0 (J S.c)/\ε a b 1 (J S.n)):=λa hw=>⟨(P.c hw).a.a 0 _ rfl,(P.c hw).a.a 1 _ rfl⟩;go_enter func74,ntmps74;go_wp21;apply HA.m;rintro w2 rfl;go_wp21;apply HD.mono;rintro e c⟨Q,T,U,z,rfl,B,l⟩
  let ⟨q,p3⟩:=O c Q T U z l B c Ϡ
  obtain⟨ro,rn,rk,rfl⟩:=q.row.a;obtain⟨co,cn,ck,rfl⟩:=q.cut.a;obtain⟨mo,mn,mk,rfl⟩:=q.msgs.a;have HG:=ah (O c _ _ _ z l B);have k:=ah l
  let ⟨H,I,M,C,E,L,D,fr,fc,fg⟩:=f
  unfold jq at i;simp only at i|-;go_wp21;have HX:=af.d c c rfl 165 #[J H,J I,J M,J C,J E,J L,J D,.slice ro rn rk,.slice co cn ck,.slice mo mn mk];have j:Hid (Ϟ c (c.alloc (.cells #[J H,J I,J M,J C,J E,J L,J D,.slice ro rn rk,.slice co cn ck,.slice mo mn mk] 165))):=Ϡ.alloc Ϫ _;generalize c.alloc (.cells #[J H,J I,J M,J C,J E,J L,J D,.slice ro rn rk,.slice co cn ck,.slice mo mn mk] 165)=w4 at HX j|-;have HS:Hid (∀a,Ϟ w4 a->(ε a c 0 (J H)/\ε a c 1 (J I)/\ε a c 2 (J M)/\ε a c 3 (J C)/\ε a c 4 (J E)/\ε a c 5 (J L)/\ε a c 6 (J D)/\ε a c 7 (.slice ro rn rk)/\ε a c 8 (.slice co cn ck)/\ε a c 9 (.slice mo mn mk)/\ε a b 0 (J S.c)/\ε a b 1 (J S.n))/\Ϟ c a):=λa hw=>
   have u:=HX.c hw HX.f;have G:=j.trans (hw.mono j.size);have hc:=a1 a (k.trans (G.mono k.size))
   ⟨⟨u.y 0,u.y 1,u.y 2,u.y 3,u.y 4,u.y 5,u.y 6,u.y 7,u.y 8,u.y 9,hc.1,hc.2⟩,G⟩
  have y:Hid (∀a,Ϟ c a->Ϟ w2 a):=λa G=>k.trans (G.mono k.size);have HT:Hid (ϖ 116 #[.agg #[J H,J I,J M,J C,J E,J L,J D,.slice ro rn rk,.slice co cn ck,.slice mo mn mk],J S.c,J S.n] w4.drew λe d=>ϱ e (.bool (Md.na ⟨H,I,M,C,E,L,D,fr,fc,fg⟩ S.c S.n))/\Ϟ w4 d):=by apply (i w4.drew _ _ _ (HG _ j.drew).1).m;rintro d h;exact⟨rfl,Ϡ.drew.trans (h.mono Ϫ)⟩
  refine wp_region_held_drew (S:=λa=>ε a c 0 (J H)/\ε a c 1 (J I)/\ε a c 2 (J M)/\ε a c 3 (J C)/\ε a c 4 (J E)/\ε a c 5 (J L)/\ε a c 6 (J D)/\ε a c 7 (.slice ro rn rk)/\ε a c 8 (.slice co cn ck)/\ε a c 9 (.slice mo mn mk)/\ε a b 0 (J S.c)/\ε a b 1 (J S.n)) rfl (HS _ Ϡ.drew).1 λg=>?_;(iterate 12 refine ψ ?_);refine we 12 λK hK=>?_;go_simp;apply HT.m;rintro w5 a3;have V:=ah a3;refine hK.out _ _ (HS _ V).1 λg=>?_;cases A:Md.na ⟨H,I,M,C,E,L,D,fr,fc,fg⟩ S.c S.n
  .have HZ:Hid (Z=S):=by rw[Hid,v,A];rfl
   (iterate 2 refine ψ ?_)
   refine wpAnyH_done κ ?_ _;go_wp21;(try simp);apply bodyPost_ret (results_none rfl _ _ _) rfl;exact⟨rfl,o,HZ▸P.d (y _ (HS _ V).2)⟩
  have HZ:Hid (Z=S.MW ⟨H,I,M,C,E,L,D,fr,fc,fg⟩):=by rw[Hid,v,A];rfl
  have HH:Hid (ϖ 117 #[pT b 0,.agg #[J H,J I,J M,J C,J E,J L,J D,.slice ro rn rk,.slice co cn ck,.slice mo mn mk]] w5 λe d=>ϱ e ϳ/\∃o',To w2 F b o d Z o'):=by have G:=(HS _ V).2;rw[HZ];exact(P.d (y _ G)).g (B8 (HG _ G).2 WF (ah (vp W)) (N A) (HG _ G).1 (ah hs))
  apply wk 13;apply wk 14;refine wpAnyH_done κ ?_ _
  let ⟨d0,d1,d2,d3,d4,d5,d6,d7,d8,d9,_,_⟩:=(HS _ V).1
  go_wp21
  apply HH.m;rintro w6 h6;go_wp21;go_end0;exact⟨rfl,(ah h6)⟩
 have HZ:Hid (Z=S):=by rw[Hid,HW];simp[W]
 have a5:=W;go_enter func74,ntmps74;go_wp21;apply HA.m;rintro w2 rfl;go_wp21;(try simp);apply bodyPost_ret (results_none rfl _ _ _) rfl;exact⟨rfl,o,HZ▸To.f P⟩
end
section
open Go.RowKit
open Md (PS Vote Bal Lft Wf MsgW Sends FrW tickF)
variable {w w' wb:Δ}{F:ϑ}{b X:Nat}{S S':PS}{o o1 o':Pl}{f:Codec.Frame}{l:List (Ϭ)}
def xd(U:PS)(L:Ϙ)(k:Nat):Sends U (aG tickF L U k) (k*(1+U.o.length)):=(Md.gW U _).c (Nat.mul_le_mul (by rw[xk];lia) Ϫ)
def GF{a:Int}{n q:Nat}(h:q∈Md.iX a n):q<n:=by have:=(yM.1 h).1;simpa using this
def AB(p:PP w F b S o)(N:Wf S)(hT:CH w)(hs:S.e.length<=600000):Do 71 #[pT b 0] (J S.MC) w F b o S.tick:=by
 have HA:=ah (oD p);by_cases Q:S.MC=0
 .have I:Hid (S.tick=S.Me.L8.foldl tickF S.Me):=by rw[Hid,Md.oB,if_pos Q]
  have E:=ah (qF p N hT (vp Q) ω);have j:=ah N.l;have G:Hid (S.Me.e.length<=600018):=by have:=Md.ft N.c;unfold Md.cS at this;unfold Hid;lia
  rw[Q]at HA|-;generalize S.Me=U at I E j G;generalize S.tick=Z at I|-;go_enter func71,ntmps71;go_wp21;apply HA.m;rintro w2 rfl;go_wp21;apply E.m;rintro w1⟨o1,h1⟩;have O:=ah h1;have Y:U.L8.length<=6:=yr (gG _ U.n) j.c;go_wp21;apply (ah (nm O.c j)).mono;rintro e W⟨v,rfl,x,M⟩;obtain⟨ao,c,rfl,-⟩:=fN x λ_ _ _=>rfl;have H3:=ah (O.a (O.c.d M));have HEND:Hid (∀wr d,To W F b o1 wr (aG tickF U.L8 U U.L8.length) d->∃d,To w2 F b o wr Z d):=λwr d h=>⟨d,by rw[I,<-iH];exact H3.a h⟩;have H0:=ah (To.f H3.c);have a:Hid (∀(k:Nat)wr d,k<U.L8.length->To W F b o1 wr (aG tickF U.L8 U k) d->∃q g:Nat,ao=some ⟨g,0,none⟩/\ε wr g k (J q)/\ϖ 111 #[pT b 0,J q] wr λe K=>ϱ e ϳ/\ε K b 5 (.bool U.h)/\(U.h=true->∃C,To W F b o1 K (aG tickF U.L8 U (k+1)) C)/\(U.h=false->ϖ 112 #[pT b 0,J q] K λe w5=>ϱ e ϳ/\∃C,To W F b o1 w5 (aG tickF U.L8 U (k+1)) C)):=λk wr d hk h=>by
   have R:=yh hk
   let ⟨a8,c',a1,H⟩:=fN (w':=wr) x λg hg A=>h.e.block g A λe=>ϕ (O.c.h e)
   injection a1 with e1 _ _;subst e1
   let ⟨g,hg,hc⟩:=H k _ R
   have t:=xd U U.L8 k;have a6:=H3.c.u j;have T:k*(1+U.o.length)<=6*127:=Nat.mul_le_mul ω ω;have D:(aG tickF U.L8 U k).h=U.h:=by rw[t.e]
   have a0:(aG tickF U.L8 U k).n=U.n:=by rw[t.e]
   have b0:=t.b;have a9:=G.out;refine⟨_,g,hg,hc,(BY h.c (t.d j) ω _).mono ?_⟩;rintro e K⟨rfl,o4,h4⟩;have z:Sends (aG tickF U.L8 U k) ((aG tickF U.L8 U k).gossip U.L8[k]) 1:=Md.ak _ _;have a3:((aG tickF U.L8 U k).gossip U.L8[k]).h=U.h:=by rwa [z.e]
   have u:aG tickF U.L8 U (k+1)=tickF (aG tickF U.L8 U k) U.L8[k]:=jb R;refine⟨rfl,?_,λhb=>⟨o4,?_⟩,λhb=>?_⟩;have:=h4.c.a.z 5;simp only[a3]at this;exact this;rw[u,tickF,D,hb];exact h.a h4;rw[u,tickF,D,hb];exact(h.a h4).g (qj h4.c (z.d (t.d j)) (ϕ z.b) _ (show ((aG tickF U.L8 U k).gossip U.L8[k]).n=U.n by rwa [z.e]▸(GF (AF hk))))
  generalize U.L8=L at Y HEND H0 a;generalize a2:U.h=bl at a;go_wp21;go_loopw [16] (λi wr=>∃k:Nat,k<=L.length/\i=J k/\∃d,To W F b o1 wr (aG tickF L U k) d) λi _=>L.length-(intOf i).toNat
  case atStart=>exact⟨0,ω,rfl,_,H0⟩
  case round=>
   obtain⟨k,hk,rfl,d,ht⟩:=hrel;by_cases A:k<L.length
   .have a5:k<(L.length:Int):=ω;have b1:(0:Int)<=(k:Int):=ω;obtain⟨q,g,rfl,cg,s⟩:=a k wr d A ht;have HC:Hid (ϖ 111 _ _ _):=s;go_wp21;apply HC.m;rintro K⟨c5,y,B⟩;cases bl with
    |true=>
     have HY:=ah (y rfl);go_wp21;exact⟨⟨k+1,ω,by go_num,HY⟩,by simp[intOf];lia⟩
    |false=>
     have HN:Hid (ϖ 112 _ _ _):=B rfl;go_wp21;apply HN.m;rintro w5 h5;go_wp21;exact⟨⟨k+1,ω,by go_num,(ah h5)⟩,by simp[intOf];lia⟩
   have a7:¬(k:Int)<(L.length:Int):=ω;have T:k=L.length:=ω;have HT:Hid (∃d,To w2 F b o wr Z d):=HEND wr d (by rwa [<-T]);go_wp21;go_ret;exact⟨rfl,HT⟩
 have I:Hid (S.tick=S):=by rw[Hid,Md.oB,if_neg Q]
 rw[I];go_enter func71,ntmps71;go_wp21;apply HA.m;rintro w2 rfl;go_wp21;go_ret;exact⟨rfl,o,To.f (ah p)⟩
def To.i{g:PS}(h:To w F b o w' g o')(p:PP w F b S o)(a:CH w)(d:¬F 1):CH w':=λi c=>
 (World.cell?_of_block (h.e.block 1 (World.block_lt_of_cell? w _ (a i c)) λe=>d (p.mf e))).trans (a i c)
def Wf.Ac(l:List (Ϭ))(c:Wf S):Wf (l.foldl PS.Mn S):=Wf.q (λ_ s a=>Wf.o a s) l S c
def tD(S:PS)(l:List (Ϭ))(k:Nat):PS:=(l.take k).foldl PS.Mn S
def BH{k:Nat}{s:Ϭ}(h:l[k]?=some s):tD S l (k+1)=(tD S l k).Mn s:=by obtain⟨a,rfl⟩:=ym.1 h;unfold tD;rw[<-List.take_append_getElem a,List.foldl_append];rfl
def GM(p:PP w F b S o)(y:Wf S)(P:CH w)(M:¬F 1)(Z:S.e.length<=100000)(a2:l.length<=40000)(t:∀s∈l,s.length<=140737488351232){v:Θ}(H:eB w (o.R F b) 9 1 v l.length (l.map λs=>Value.string ⟨s.toArray⟩)):Do 101 #[pT b 0,v] ϳ w F b o (S.Nc l):=by
 obtain⟨N,Y,rfl⟩:=bG H.d;have HSTEP:Hid (∀(k:Nat)wr j,k<l.length->To w F b o wr (tD S l k) j->∃(s:Ϭ)(g:Nat),N=some ⟨g,0,none⟩/\ε wr g k (.string ⟨s.toArray⟩)/\Calls _ 74 #[pT b 0,.string ⟨s.toArray⟩] wr λe r=>ϱ e _/\∃n,To w F b o r (tD S l (k+1)) n):=λk wr j G h=>by
  have A:=yh G;have u:=H.f h.d;rcases u.d.2 with ⟨-,z⟩|⟨g,W,a1,z,-⟩
  .lia
  have Q:=u.d.cells (by rw[z];rfl:(Value.slice N l.length Y).ownBlock=some g) k (.string ⟨l[k].toArray⟩) (by simp[A]);rw[lu]at Q;injection z with z;refine⟨l[k],g,z,Q,?_⟩;have K:=Md.fH (l.take k) S y.c;unfold Md.cS at K;rw[BH A];exact h.g (rI h.c (Wf.Ac (l.take k) y) l[k] (t _ (AF G)) (by
   show ((l.take k).foldl PS.Mn S).e.length<=800000;have:(l.take k).length<=40000:=by rw[xk];lia
   lia))
 have m:Hid (∀wr j,To w F b o wr (tD S l l.length) j->ϖ 71 #[pT b 0] wr λe r=>(∃x,ϱ e (J x))/\∃n,To w F b o r (S.Nc l) n):=λwr j h=>by rw[(by unfold tD;rw[AE]:tD S l l.length=l.foldl PS.Mn S)]at h;have K:=Md.fH l S y.c;unfold Md.cS at K;apply (h.g (AB h.c (Wf.Ac l y) (h.i p P M) ω)).m;rintro r q;exact⟨⟨_,rfl⟩,q⟩
 go_enter func101,ntmps101;go_wp21;go_loopw [8] (λi wr=>∃k:Nat,k<=l.length/\i=J k/\∃j,To w F b o wr (tD S l k) j) λi _=>l.length-(intOf i).toNat
 case atStart=>exact⟨0,ω,rfl,_,(ah (To.f p))⟩
 case round=>
  obtain⟨k,G,rfl,j,B⟩:=hrel;by_cases D:k<l.length
  .have O:k<l.length:=ω;have a0:0<=k:=ω;obtain⟨s,g,rfl,cg,d⟩:=HSTEP k wr j D B;go_wp21;apply (ah d).m;rintro r q;go_wp21;exact⟨⟨k+1,ω,by go_num,(ah q)⟩,by simp[intOf];lia⟩
  have V:¬k<l.length:=ω;have C:k=l.length:=ω;go_wp21;apply (ah (m wr j (by rwa [<-C]))).mono;rintro e r⟨⟨x,rfl⟩,q⟩;go_wp21;go_end0;exact⟨rfl,(ah q)⟩
open Go.ChangeMaps (setBlock)
def mF(num:Nat)(ks:List (Int×Int)):Nat:=(ks.filter λk=>k.1==(num:Int)).length
def EW(a:Nat)(c:List (Int×Int)):mF a c<=c.length:=G3 _ _
def oe(p:PP w F b S o)(wf:Wf S):ϖ 182 #[pT b 0] w λe w'=>ϱ e (J ((S.o.filter λm=>m.a==(S.c:Int)).length:Nat))/\Ϟ w w':=by
 have a1:=p.a.a 15 _ rfl;simp only[yf,yd,ye]at a1;have a5:Hid (∀w',Ϟ w w'->ε w' b 0 (J S.c)):=λw' hw=>(p.c hw).a.a 0 _ rfl;have C:=p.e.o.b;have d:=p.e.o.born;have a7:=ah d;have N:Hid (∀e∈o.n.toList,∃s q:Int,∃v,oh e.key=(s,q)/\e.key=.agg #[J s,J q]/\e.val=v):=λe M=>by
  obtain⟨i,hi,rfl⟩:=y4 M
  let ⟨x,_,hk,_⟩:=p.e.o.at (yh hi)
  exact⟨_,_,_,by rw[hk];rfl,hk,rfl⟩
 have z:=p.e.map;have b0:o.n.toList.length<=126:=by have h1:=p.u wf;have h2:=p.e.o.a;rw[<-p.ms,yL]at h1;rw[AG];lia
 have A:Hid (∀h:List MapEntry,h.Perm o.n.toList->mF S.c (aH h)=(S.o.filter λm=>m.a==(S.c:Int)).length):=λh hv=>by have h1:(aH h).Perm (aH o.n.toList):=hv.map _;rw[vU p.e.o]at h1;have h2:=(h1.filter λk=>k.1==(S.c:Int)).length_eq;unfold mF;rw[h2,<-p.ms,List.filter_map,List.filter_map,yL,yL];rfl
 clear p wf;generalize (S.o.filter λm=>m.a==(S.c:Int)).length=Z at A|-;generalize o.n=V at*;generalize o.m=t at*;generalize o.j=D at*;go_enter func182,ntmps182;go_wp2_with (at_range;apply eO _ rfl _ 156 186 179 rfl underlying156 rfl z C d;intro W);go_frame;go_loopw [3] (λc wr=>∃k:Nat,c=J k/\k<=126/\∃a h B,cm wr t _ V D a/\Below _ w wr/\gY V a h B/\Hid (k=mF S.c (aH h))) λ_ wr=>eN wr t w.heap.size
 case atStart=>exact⟨0,rfl,ω,#[],[],_,W,Ϡ.alloc Ϫ _,⟨List.Perm.refl _,λe _=>ς,λe M=>by cases M⟩,rfl⟩
 case round=>
  obtain⟨k,rfl,E,a,h,B,hR,hB,hV,P⟩:=hrel;have a0:=hR.b;have HB:=ah hB;have HV:=ah hV;clear W z C d hB hV;go_wp2_with (at_next;refine fB _ rfl _ rfl t w.heap.size rfl hR ?_ ?_)
  .intro h0;have HK:Hid (k=Z):=by rw[Hid,P];exact A h (HV.d (ϰ h0))
   clear h0;go_wp21;go_ret;exact⟨by rw[HK];rfl,HB⟩
  intro e L M T Y a2 a4 R;have r:e∈V.toList:=ϰ M;have j:a.contains e.born=false:=ϰ T;clear M T
  let ⟨s,q,v,O,hk,hv⟩:=N e r
  let ⟨a8,G⟩:=HV.c a7 r j
  have Q:=ah G;have a3:(h++[e]).length<=126:=by have:=G.a.length_eq;rw[yC]at this;lia
  have u:Hid (mF S.c (aH (h++[e]))=k+if s=(S.c:Int) then 1 else 0):=by unfold Hid;rw[P];unfold mF aH;rw[y8,La,yC];congr 1;simp only[yN,Cx,O,List.filter_cons,List.filter_nil];by_cases g:s=(S.c:Int);simp[g];simp[g]
  have a6:Hid (mF S.c (aH (h++[e]))<=126):=yr (EW _ _) (by unfold aH;rwa [yL]);clear G a3;rw[hk,hv]at R|-;go_wp21;have I:Ϟ w L:=ia HB Ϫ a2;have y:Hid (Ϟ w (L.alloc (.cells #[J s,J q] 186))):=I.alloc I.size _;have H:Hid (cm (L.alloc (.cells #[J s,J q] 186)) t w.heap.size V D (a.push e.born)):=Y.c (Ϡ.alloc Ϫ _);have d0:=(af.d L wr.heap.size a4 186 #[J s,J q]).a 0 _ rfl;have c0:=a5 _ y;have HM:Hid (eN (L.alloc (.cells #[J s,J q] 186)) t w.heap.size<eN wr t w.heap.size):=by rw[Hid,H.b,a0];exact iI r j
  simp only[yf,yd]at d0;clear Y a2 a4 R I hR a0 r j hk hv a1 N a5 O;generalize L.alloc (.cells #[J s,J q] 186)=w2 at y H d0 c0 HM|-;have HT:Hid (∀n,eN (w2.drewN n) t w.heap.size=eN w2 t w.heap.size):=λn=>by have e:(w2.drewN n).heap=w2.heap:=ς;unfold eN;rw[e]
  have U:Hid (∀n,cm (w2.drewN n) t w.heap.size V D (a.push e.born)):=λn=>H.c (below_drewN Ϡ n);by_cases g:s=(S.c:Int)
  .have l:Hid (k+1=mF S.c (aH (h++[e]))):=by rw[Hid,u,if_pos g]
   subst g;clear u;go_quiet (fail);go_wp21;exact⟨⟨k+1,by go_num,by rwa [l],_,_,_,U _,below_drewN y _,Q,l⟩,by rwa [HT]⟩
  have l:Hid (k=mF S.c (aH (h++[e]))):=by rw[Hid,u,if_neg g];rfl
  have a9:(s==(S.c:Int))=false:=by rwa [beq_eq_false_iff_ne]
  clear u;go_quiet (fail);go_wp21;exact⟨⟨k,rfl,E,_,_,_,U _,below_drewN y _,Q,l⟩,by rwa [HT]⟩
def qa(p:PP w F b S o)(A:Wf S)(t:ϝ)(ht:t.size<=16):ϖ 136 #[pT b 0,.string t] w λe a=>ϱ e (J (S.Mf t))/\Ϟ w a:=by
 let ⟨r,T,_,x⟩:=p.i A
 have I:=ah (oD p);have H:Hid (∀a,Ϟ w a->ϖ 119 #[pT b 0] a λe l=>ϱ e (sT r S.n S.n)/\Ϟ a l/\l.heap=a.heap):=λa k=>np (p.c k) T;have j:Hid (∀a,Ϟ w a->ϖ 182 #[pT b 0] a λe l=>ϱ e (J ((S.o.filter λm=>m.a==(S.c:Int)).length:Nat))/\Ϟ a l):=λa k=>oe (p.c k) A;have i:Hid (∀a,Ϟ w a->ε a b 0 (J S.c)/\ε a b 2 (J S.r)/\ε a b 5 (.bool S.h)/\a.cell? (aT r S.c)=some (J (S.Ml.getD S.c 0))):=λa k=>
  have P:=(p.c k).a
  ⟨P.a 0 _ rfl,P.a 2 _ rfl,P.a 5 _ rfl,(x.c k x.f).a S.c _ (ie (A.g.1▸A.num))⟩
 have O:0<=S.c:=ω;have B:S.c<S.n:=ϕ A.num;have D:Hid (S.Mf t=if S.MC≠0 then S.MC else if S.h then 8 else if 20<=S.Ml.getD S.c 0 then 9 else if S.r<=(S.o.filter λm=>m.a==(S.c:Int)).length then 10 else 0):=by unfold Hid PS.Mf;rw[if_neg (show ¬16<t.size by lia)]
 have V:¬16<t.size:=ω;have Q:=(i w Ϡ).2.2.1;clear p A T x;generalize S.Mf t=v at D|-;by_cases L:S.MC=0
 .have d:Hid (v=if S.h then 8 else if 20<=S.Ml.getD S.c 0 then 9 else if S.r<=(S.o.filter λm=>m.a==(S.c:Int)).length then 10 else 0):=by rw[Hid,D,if_neg (by simp[L])]
  rw[L]at I;clear D L;generalize S.Ml.getD S.c 0=z at i d;generalize (S.o.filter λm=>m.a==(S.c:Int)).length=Z at j d;generalize S.r=W at i d;generalize S.c=N at i H j O B;generalize S.n=nn at H B;cases h:S.h with
  |true=>
   have u:Hid (v=8):=by rw[Hid,d,h];rfl
   rw[h]at Q;clear d i j H h;go_enter func136,ntmps136;go_wp21;apply I.mono;rintro e U⟨rfl,rfl⟩;go_wp21;go_ret;exact⟨by rw[u];rfl,Below.refl _ _⟩
  |false=>
   have s:Hid (v=if 20<=z then 9 else if W<=Z then 10 else 0):=by rw[Hid,d,h];rfl
   rw[h]at Q i;clear d h;go_enter func136,ntmps136;go_wp21;apply I.mono;rintro e U⟨rfl,rfl⟩;go_wp21;refine wp_region_held_drew (S:=λa=>ε a b 0 (J N)/\ε a r N (J z)) rfl (have:=i _ Ϡ.drew;⟨this.1,this.2.2.2⟩) λc=>?_;apply wk 0;apply wk 2;apply wk 3;apply wk 4;apply wk 5;refine we 1 λK E=>?_;go_simp;apply (H _ Ϡ.drew).mono;rintro e w3⟨rfl,C,-⟩;have g:=ah (Ϡ.drew.trans (C.mono Ϫ));clear C;refine E.out _ _ (have:=i _ g;⟨this.1,this.2.2.2⟩) λc=>?_;clear E K;try simp only[pU]
   (iterate 4 refine ψ ?_)
   refine wpAnyH_done κ ?_ _;clear c;by_cases R:20<=z
   .have u:Hid (v=9):=by rw[Hid,s,if_pos R]
    clear s;go_wp21;go_ret;exact⟨by rw[u];rfl,g⟩
   have q:Hid (v=if W<=Z then 10 else 0):=by rw[Hid,s,if_neg R]
   clear s;go_wp21;refine wp_region_held_drew (S:=λa=>ε a b 2 (J W)) rfl (i _ g.drew).2.1 λc=>?_;apply wk 0;apply wk 2;apply wk 3;apply wk 4;apply wk 5;refine we 1 λK E=>?_;go_simp;apply (j _ g.drew).mono;rintro e Y⟨rfl,G⟩;have y:=ah (g.trans (Ϡ.drew.trans (G.mono Ϫ) |>.mono g.size));clear G;refine E.out _ _ (i _ y).2.1 λc=>?_;clear E K;try simp only[pU]
   (iterate 2 refine ψ ?_)
   refine wpAnyH_done κ ?_ _;clear c;by_cases k:W<=Z
   .have u:Hid (v=10):=by rw[Hid,q,if_pos k]
    have M:(W:Int)<=(Z:Int):=ω;clear q;go_wp21;go_ret;exact⟨by rw[u];rfl,y⟩
   have u:Hid (v=0):=by rw[Hid,q,if_neg k]
   have M:¬(W:Int)<=(Z:Int):=ω;clear q;go_wp21;go_ret;exact⟨by rw[u];rfl,y⟩
 have u:Hid (v=S.MC):=by rw[Hid,D,if_pos L]
 clear D i j H;go_enter func136,ntmps136;go_wp21;apply I.mono;rintro e U⟨rfl,rfl⟩;go_wp21;go_ret;exact⟨by rw[u];rfl,Below.refl _ _⟩

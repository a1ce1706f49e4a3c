import Derived.Test.YtoklolfaemhfnaaGreatDoorZbx
set_option maxRecDepth 100000
set_option maxHeartbeats 8000000
open Go.Proofs.Tryz (prog)
namespace Go.Proofs.YtoklolfaemhfnaaGreatDoor
section
open Go.RowKit
open Go.ChangeMaps (setBlock)
variable {w w':World}{gb n win:Nat}{st st':Nat->Pst}{pl:List Par}{FG:Nat->Prop}
structure Jok (n:Nat) (J:(Nat->Pst)->List Par->Prop):Prop where
 len:∀{st pl},J st pl->pl.length<=4000
 par:∀{st pl x},J st pl->x∈pl->ParOk n x
 size:∀{st pl x},J st pl->x∈pl->1<=x.2.size/\x.2.size<=1000000
 come:∀{st pl x st'}{k:Nat},J st pl->pl[k]?=some x->Goes n st x st'->J st' (pl.eraseIdx k)
 drop:∀{st pl} (k:Nat),J st pl->J st (pl.eraseIdx k)
 copy:∀{st pl x}{k:Nat},J st pl->pl[k]?=some x->J st (sentTo 4000 pl x)
 spoil:∀{st pl x}{k i m:Nat},J st pl->pl[k]?=some x->i<x.2.size->1<=m->m<=255->ParOk n (x.1,turned x.2 i m)/\∀st',Goes n st (x.1,turned x.2 i m) st'->st'=st
theorem qix{α:Type}(x:α):∀(l:List α) (k:Nat),(l.set k x).eraseIdx k=l.eraseIdx k
 |[],k=>by simp
 |_::l,0=>rfl
 |y::l,k+1=>by simp[qix x l k]
theorem qlx(s:ByteArray):∀(n i:Nat) (r:List UInt8),s.size - i=n->(ByteArray.toList.loop s i r).length=n+r.length:=by
 intro n;induction n with
 | zero =>
   intro i r h;unfold ByteArray.toList.loop;rw[if_neg (by omega)];simp
 | succ n ih =>
   intro i r h;unfold ByteArray.toList.loop;rw[if_pos (by omega),ih _ _ (by omega)];simp;omega
theorem toList_some{s:ByteArray}(h:1<=s.size):s.toList.isEmpty=false:=by
 have h1:s.toList.length=s.size+0:=qlx s s.size 0 [] (by omega);cases hs:s.toList with
 | nil =>
   rw[hs] at h1;simp at h1;omega
 |cons a l=>rfl
theorem qbt{J:(Nat->Pst)->List Par->Prop}(hJ:Jok n J)(hn:n<=6)(pp:Nat)(hpl:PlAt w pp gb n win)(hpf:¬FG pp)(gx:GX w FG gb n win 4000 st pl)(hj:J st pl)(kd a b c:Int)(t:ByteArray)(ha:I64 a)(hb:I64 b)(hc:I64 c) :
 Calls prog 57 #[pT pp 0,.agg #[.int .i64 kd,.int .i64 a,.int .i64 b,.int .i64 c,.string t]] w fun e w'=>e=.returned (.bool true)/\∃st' pl',GS w w' FG gb n win 4000 st' pl'/\J st' pl':=by
 obtain⟨Fc,hFc,hFlt,gc⟩:∃Fc:Nat->Prop,(∀x,Fc x->FG x)/\(∀x,Fc x->x<w.heap.size)/\GX w Fc gb n win 4000 st pl:=⟨_,fun x h=>h.1,fun x h=>h.2,gx.clip⟩;have hX:BlkAt (w.alloc (.cells #[.int .i64 kd,.int .i64 a,.int .i64 b,.int .i64 c,.string t] 51)) w.heap.size 51 #[.int .i64 kd,.int .i64 a,.int .i64 b,.int .i64 c,.string t]:=BlkAt.new w w.heap.size rfl 51 _;have hB0:Below w.heap.size w (w.alloc (.cells #[.int .i64 kd,.int .i64 a,.int .i64 b,.int .i64 c,.string t] 51)):=(yi _ _).alloc (yb _) _;have hs0:(w.alloc (.cells #[.int .i64 kd,.int .i64 a,.int .i64 b,.int .i64 c,.string t] 51)).heap.size=w.heap.size+1:=by simp
 have hpp:pp<w.heap.size:=BlkAt.lt hpl;have hpl1:PlAt (w.alloc (.cells #[.int .i64 kd,.int .i64 a,.int .i64 b,.int .i64 c,.string t] 51)) pp gb n win:=BlkAt.below hpl hB0 hpp;have gx1:=gc.below hB0;generalize hw1:w.alloc (.cells #[.int .i64 kd,.int .i64 a,.int .i64 b,.int .i64 c,.string t] 51)=w1 at hX hB0 hs0 hpl1 gx1;have HG0:Hid (GS w1 w1 Fc gb n win 4000 st pl/\J st pl):=⟨⟨Chg.refl _ _,gx1.wide Plus.sub⟩,hj⟩;have HCE:Hid (∀w',Chg Fc w1 w'->w'.cell? (aT w.heap.size 0)=some (.int .i64 kd)/\w'.cell? (aT w.heap.size 1)=some (.int .i64 a)/\w'.cell? (aT w.heap.size 2)=some (.int .i64 b)/\w'.cell? (aT w.heap.size 3)=some (.int .i64 c)/\w'.cell? (aT pp 0)=some (pT gb 0)):=fun w' h=>by
  have e1:BlkAt w' w.heap.size 51 _:=(h.block _ (by omega) fun e=>by have:=hFlt _ e;omega).trans hX;have e2:PlAt w' pp gb n win:=(h.block pp (by omega) fun e=>hpf (hFc _ e)).trans hpl1;exact⟨e1.cell 0 _ rfl,e1.cell 1 _ rfl,e1.cell 2 _ rfl,e1.cell 3 _ rfl,BlkAt.cell e2 0 _ rfl⟩
 have HFL:Hid (∀w' st' pl',GS w1 w' Fc gb n win 4000 st' pl'->Calls prog 41 #[pT gb 0] w' fun e w''=>e=.returned (.int .i64 pl'.length)/\w''=w'):=fun w' st' pl' h=>qiv h.2;have HDE:Hid (∀w' st' pl' (k:Nat) x,GS w1 w' Fc gb n win 4000 st' pl'->J st' pl'->pl'[k]?=some x->Calls prog 42 #[pT gb 0,.int .i64 k] w' fun e w''=>e=.returned (.int .i64 0)/\∃st'' pl'',GS w1 w'' Fc gb n win 4000 st'' pl''/\J st'' pl''):=fun w' st' pl' k x h hj hk=>by
  refine(qfk hn h.2 (yr (hJ.len hj) (by omega)) k x hk (hJ.par hj (yy hk))).mono ?_;rintro e w'' ⟨rfl,st'',hgs,hgo⟩;exact⟨rfl,st'',_,h.trans hgs,hJ.come hj hk hgo⟩
 have HDR:Hid (∀w' st' pl' (k:Nat) x,GS w1 w' Fc gb n win 4000 st' pl'->J st' pl'->pl'[k]?=some x->Calls prog 80 #[pT gb 0,.int .i64 k] w' fun e w''=>e=.returned (.int .i64 0)/\∃st'' pl'',GS w1 w'' Fc gb n win 4000 st'' pl''/\J st'' pl''):=fun w' st' pl' k x h hj hk=>by
  refine(qpa h.2 (yr (hJ.len hj) (by omega)) k x hk).mono ?_;rintro e w'' ⟨rfl,hgs⟩;exact⟨rfl,st',_,h.trans hgs,hJ.drop k hj⟩
 have HCO:Hid (∀w' st' pl' (k:Nat) x,GS w1 w' Fc gb n win 4000 st' pl'->J st' pl'->pl'[k]?=some x->Calls prog 82 #[pT gb 0,.int .i64 k] w' fun e w''=>e=.returned (.int .i64 0)/\∃st'' pl'',GS w1 w'' Fc gb n win 4000 st'' pl''/\J st'' pl''):=fun w' st' pl' k x h hj hk=>by
  refine(qpb h.2 (yr (hJ.len hj) (by omega)) k x hk).mono ?_;rintro e w'' ⟨rfl,hgs⟩;exact⟨rfl,st',_,h.trans hgs,hJ.copy hj hk⟩
 have HFR:Hid (∀w' st' pl' (k:Nat) x,GS w1 w' Fc gb n win 4000 st' pl'->pl'[k]?=some x->Calls prog 96 #[pT gb 0,.int .i64 k] w' fun e w''=>e=.returned (.tuple #[.string x.2,.int .i64 0])/\w''=w'):=fun w' st' pl' k x h hk=>qnq h.2 k x hk;have HSP:Hid (∀w' st' pl' (k i m:Nat) x,GS w1 w' Fc gb n win 4000 st' pl'->J st' pl'->pl'[k]?=some x->i<x.2.size->1<=m->m<=255->Calls prog 85 #[pT gb 0,.int .i64 k,.int .i64 i,.int .i64 m] w' fun e w''=>e=.returned (.int .i64 0)/\Chg Fc w1 w''/\Calls prog 42 #[pT gb 0,.int .i64 k] w'' fun e w3=>e=.returned (.int .i64 0)/\∃st'' pl'',GS w1 w3 Fc gb n win 4000 st'' pl''/\J st'' pl''):=fun w' st' pl' k i m x h hj hk hi hm1 hm2=>by
  refine(qj7 h.2 k x hk i m hi hm1 hm2 (hJ.size hj (yy hk)).2).mono ?_;rintro e w'' ⟨rfl,hgs⟩;have h2:=h.trans hgs;obtain⟨hp,hst⟩:=hJ.spoil hj hk hi hm1 hm2;refine⟨rfl,h2.1,?_⟩;refine(qfk hn h2.2 (by rw[yaO];exact yr (hJ.len hj) (by omega)) k (x.1,turned x.2 i m) (by rw[yaf (ym.1 hk).1]) hp).mono ?_;rintro e w3 ⟨rfl,st'',hgs2,hgo⟩;rw[hst st'' hgo] at hgs2;have h3:=h2.trans hgs2;rw[qix] at h3;exact⟨rfl,st',_,h3,hJ.drop k hj⟩
 have HJS:Hid (∀st' pl' x,J st' pl'->x∈pl'->1<=x.2.size/\x.2.size<=1000000):=fun st' pl' x hj hx=>hJ.size hj hx;have HEND:Hid (∀w',(∃st'' pl'',GS w1 w' Fc gb n win 4000 st'' pl''/\J st'' pl'')->∃st' pl',GS w w' FG gb n win 4000 st' pl'/\J st' pl'):=fun w' ⟨st'',pl'',h,hj⟩=>by
  refine⟨st'',pl'',⟨(Chg.of_below hB0).trans (h.1.mono fun x _ hx=>.inl (hFc x hx)),h.2.wide fun x hx=>?_⟩,hj⟩;rcases hx with hx|hx
  ·exact .inl (hFc x hx)
  ·exact .inr (by omega)
 have HPL:Hid (pl.length<=4000):=hJ.len hj;have hpa:=qb4 a;have hpb:=qb4 b;have hpc:=qb4 c;clear hpl hpf gx hj gc hX hB0 hs0 hpp hpl1 gx1 hFc hFlt hJ;subst hw1;obtain⟨e0,e1,e2,e3,e4⟩:=HCE.out _ (Chg.refl _ _);go_enter Tryz.func57,Tryz.ntmps57
 go_wp2_with fail
 clear e0 e1 e2 e3 e4;generalize hwb:w.heap.size=X at HCE ⊢;generalize w.alloc (.cells #[.int .i64 kd,.int .i64 a,.int .i64 b,.int .i64 c,.string t] 51)=w1 at HG0 HCE HFL HDE HDR HCO HFR HSP HEND ⊢;refine(HFL.out w1 st pl HG0.out.1).mono ?_;rintro _ w2 ⟨rfl,rfl⟩;obtain⟨e0,e1,e2,e3,e4⟩:=HCE.out _ (Chg.refl _ _);generalize hm:pl.length=m at HPL ⊢;have HM:Hid (pl.length=m):=hm;clear hm;by_cases hm0:m=0
 ·subst hm0;go_wp2_with fail
  go_ret;exact⟨rfl,HEND.out _ ⟨_,_,HG0.out⟩⟩
 ·have hm1:¬(m:Int)=0:=by omega
  have HPA:Hid (Calls prog 34 _ _ _):=hpa m w2 ha (by omega) (by have:=HPL.out;omega);go_wp2_with fail
  refine HPA.out.mono ?_;rintro _ w3 ⟨rfl,rfl⟩;clear HPA;have hkm:pickN a m<m:=qam a (by omega);obtain⟨x,hx⟩:∃x,pl[pickN a m]?=some x:=⟨_,yh (by rw[HM.out];exact hkm)⟩;generalize pickN a m=k at hkm hx ⊢;have HX:Hid (pl[k]?=some x):=hx;clear hx;by_cases h5:kd=5
  ·subst h5;have HD:Hid (Calls prog 42 _ _ _):=HDE.out w3 st pl k x HG0.out.1 HG0.out.2 HX.out;go_wp2_with fail
   refine HD.out.mono ?_;rintro _ w4 ⟨rfl,hr⟩;have HR:Hid _:=HEND.out _ hr;clear hr HD;go_wp2_with fail
   go_ret;exact⟨rfl,HR.out⟩
  by_cases h6:kd=6
  ·subst h6;have HD:Hid (Calls prog 80 _ _ _):=HDR.out w3 st pl k x HG0.out.1 HG0.out.2 HX.out;go_wp2_with fail
   refine HD.out.mono ?_;rintro _ w4 ⟨rfl,hr⟩;have HR:Hid _:=HEND.out _ hr;clear hr HD;go_wp2_with fail
   go_ret;exact⟨rfl,HR.out⟩
  by_cases h7:kd=7
  ·subst h7;have HD:Hid (Calls prog 82 _ _ _):=HCO.out w3 st pl k x HG0.out.1 HG0.out.2 HX.out;go_wp2_with fail
   refine HD.out.mono ?_;rintro _ w4 ⟨rfl,hr⟩;have HR:Hid _:=HEND.out _ hr;clear hr HD;go_wp2_with fail
   go_ret;exact⟨rfl,HR.out⟩
  by_cases h8:kd=8
  ·subst h8;obtain⟨x1,x2⟩:=x;have HS2:Hid (1<=x2.size/\x2.size<=1000000):=HJS.out st pl _ HG0.out.2 (yy HX.out);have HD:Hid (Calls prog 96 _ _ _):=HFR.out w3 st pl k (x1,x2) HG0.out.1 HX.out;go_wp2_with fail
   refine HD.out.mono ?_;rintro _ w4 ⟨rfl,rfl⟩;clear HD;have hne:x2.toList.isEmpty=false:=toList_some HS2.out.1;go_upto_region 17 with fail
   have hpi:pickN b x2.size<x2.size:=qam b HS2.out.1;have hpm:pickN c 255<255:=qam c (by omega);have HP1:Hid (∀w',Calls prog 34 #[.int .i64 b,.int .i64 x2.size] w' fun e w''=>e=.returned (.int .i64 (pickN b x2.size))/\w''=w'):=fun w'=>hpb x2.size w' hb HS2.out.1 HS2.out.2;have HP2:Hid (∀w',Calls prog 34 #[.int .i64 c,.int .i64 255] w' fun e w''=>e=.returned (.int .i64 (pickN c 255))/\w''=w'):=fun w'=>hpc 255 w' hc (by omega) (by omega);generalize pickN b x2.size=pi at hpi HP1;generalize pickN c 255=pm at hpm HP2;have hadd:IntKind.i64.wrap (1+(pm:Int))=1+(pm:Int):=by rw[yat];omega
   have HSP1:Hid (∀w',w'=w4.drew->Calls prog 85 #[pT gb 0,.int .i64 k,.int .i64 pi,.int .i64 (1+pm)] w' fun e w''=>e=.returned (.int .i64 0)/\Chg Fc w4 w''/\Calls prog 42 #[pT gb 0,.int .i64 k] w'' fun e w3=>e=.returned (.int .i64 0)/\∃st'' pl'',GS w4 w3 Fc gb n win 4000 st'' pl''/\J st'' pl''):=fun w' e=>by
    subst e;have h1:GS w4 w4.drew Fc gb n win 4000 st pl:=⟨⟨rfl,rfl,rfl,yb _,fun _ _ _=>rfl⟩,HG0.out.1.2.below (yi _ _).drew⟩;have:=HSP.out w4.drew st pl k pi (1+pm) (x1,x2) h1 HG0.out.2 HX.out hpi (by omega) (by omega);rw[show ((1+pm:Nat):Int)=1+(pm:Int) by omega] at this;exact this
   have HSD:Hid (∀w',Chg Fc w4 w'->w'.cell? (aT X 2)=some (.int .i64 b)/\w'.cell? (aT X 3)=some (.int .i64 c)/\w'.cell? (aT pp 0)=some (pT gb 0)):=fun w' h=>(HCE.out w' h).2.2;clear hpi;refine wp_region_held_drew (S:=fun w'=>w'.cell? (aT X 2)=some (.int .i64 b)/\w'.cell? (aT X 3)=some (.int .i64 c)/\w'.cell? (aT pp 0)=some (pT gb 0)) rfl (HSD.out _ ⟨rfl,rfl,rfl,yb _,fun _ _ _=>rfl⟩) (fun hHeld=>?_);refine wk 0 ?_;refine wk 1 ?_;refine wk 2 ?_;refine wk 3 ?_;refine wk 4 ?_;refine wk 5 ?_;refine wk 6 ?_;refine wk 7 ?_;refine wk 8 ?_;refine wk 10 ?_;refine wk 11 ?_;refine we 9 fun K hK=>?_;go_simp;refine(HP1.out _).mono ?_;rintro e w2 ⟨rfl,rfl⟩;go_wp2_with fail
   refine hK.out _ _ hHeld (fun hHeld=>?_);clear hK K;try simp only[pU]
   refine we 12 fun K hK=>?_;go_simp;refine(HP2.out _).mono ?_;rintro e w2 ⟨rfl,rfl⟩;go_wp2_with fail
   refine hK.out _ _ hHeld (fun hHeld=>?_);clear hK K;try simp only[pU]
   refine wk 13 ?_;refine we 14 fun K hK=>?_;go_simp;refine(HSP1.out _ rfl).mono ?_;rintro e w5 ⟨rfl,hch5,hcall⟩;have HCALL:Hid (Calls prog 42 _ _ _):=hcall;have hS5:=HSD.out _ hch5;have HS5:Hid _:=hS5;clear hcall hch5 hHeld e2 e3 e4 e0 e1;go_wp2_with fail
   refine hK.out _ _ HS5.out (fun hHeld=>?_);clear hK K;try simp only[pU]
   refine wk 15 ?_;refine wpAnyH_done (by kernel_rfl) ?_ _;have e4:=HS5.out.2.2;go_wp2_with fail
   refine HCALL.out.mono ?_;rintro _ w6 ⟨rfl,hr⟩;have HR:Hid _:=HEND.out _ hr;clear hr HCALL;go_wp2_with fail
   go_ret;exact⟨rfl,HR.out⟩
  by_cases h9:kd=9
  ·subst h9;have HPA:Hid (∀w',Calls prog 34 #[.int .i64 a,.int .i64 60] w' fun e w''=>e=.returned (.int .i64 (pickN a 60))/\w''=w'):=fun w'=>hpa 60 w' ha (by omega) (by omega);have hp60:pickN a 60<60:=qam a (by omega);generalize pickN a 60=q at HPA hp60;go_wp2_with fail
   go_loopw [5,7,10] (fun nv ev i wr=>∃(j:Nat) (st':Nat->Pst) (pl':List Par) (m':Nat),j<=60/\i=.int .i64 j/\nv=.int .i64 m'/\pl'.length=m'/\ev=.int .i64 0/\GS w3 wr Fc gb n win 4000 st' pl'/\J st' pl') (fun _ _ i _=>100 - (intOf i).toNat)
   case atStart=>exact⟨0,st,pl,m,by omega,rfl,rfl,HM.out,rfl,HG0.out⟩
   case round=>
    obtain⟨j,st',pl',m',hj,rfl,rfl,hm',rfl,hgs,hjj⟩:=hrel;have HM':Hid (pl'.length=m'):=hm';have HGJ:Hid (GS w3 wr Fc gb n win 4000 st' pl'/\J st' pl'):=⟨hgs,hjj⟩;clear e0 e1 e2 e3 e4;obtain⟨e0,e1,e2,e3,e4⟩:=HCE.out _ hgs.1;clear hm' hgs hjj;go_wp2_with fail
    refine(HPA.out wr).mono ?_;rintro _ w5 ⟨rfl,rfl⟩;by_cases hjq:j<=q
    ·have hjq1:(j:Int)<=(q:Int):=by omega
     by_cases hm2:0<m'
     ·have hm3:(0:Int)<(m':Int):=by omega
      obtain⟨y,hy⟩:∃y,pl'[0]?=some y:=⟨_,yh (by rw[HM'.out];exact hm2)⟩;have HD:Hid (Calls prog 42 _ _ _):=HDE.out w5 st' pl' 0 y HGJ.out.1 HGJ.out.2 hy;clear hy;go_wp2_with fail
      refine HD.out.mono ?_;rintro _ w6 ⟨rfl,st6,pl6,hgs6,hj6⟩;have HG6:Hid (GS w3 w6 Fc gb n win 4000 st6 pl6/\J st6 pl6):=⟨hgs6,hj6⟩;have HF6:Hid (Calls prog 41 _ _ _):=HFL.out w6 st6 pl6 hgs6;clear HD e0 e1 e2 e3 e4;obtain⟨e0,e1,e2,e3,e4⟩:=HCE.out _ hgs6.1;clear hgs6 hj6;go_wp2_with fail
      refine HF6.out.mono ?_;rintro _ w7 ⟨rfl,rfl⟩;clear HF6;generalize hm6:pl6.length=m6;have HM6:Hid (pl6.length=m6):=hm6;clear hm6;go_wp2_with fail
      go_roundw
      case rel=>exact⟨j+1,st6,pl6,m6,by omega,by go_num,rfl,HM6.out,rfl,HG6.out⟩
      case measure=>simp[intOf];omega
     ·have hm3:¬(0:Int)<(m':Int):=by omega
      go_wp2_with fail
      go_ret;exact⟨rfl,HEND.out _ ⟨_,_,HGJ.out⟩⟩
    ·have hjq1:¬(j:Int)<=(q:Int):=by omega
     go_wp2_with fail
     go_ret;exact⟨rfl,HEND.out _ ⟨_,_,HGJ.out⟩⟩
  ·go_wp2_with fail
   go_ret;exact⟨rfl,HEND.out _ ⟨_,_,HG0.out⟩⟩
end
section
open Go.RowKit
def mps(st:Nat->Pst):Nat->Mo.MP:=fun i=>(st i).mp
theorem qfo(st:Nat->Pst)(j:Nat)(s:Pst):mps (setSt st j s)=Mo.upd (mps st) j s.mp:=by
 funext i;unfold mps setSt Mo.upd;split <;> rfl
def Jn(n:Nat)(st:Nat->Pst)(pl:List Par):Prop:=∃(G:List Codec.Msg) (fl:List Codec.Frame),Mo.MI n G (mps st)/\pl=fl.map par/\(∀f∈fl,Mo.Gen n G (mps st) f)/\pl.length<=4000
theorem qp0{n:Nat}(hn:n<=6){G:List Codec.Msg}{P:Nat->Mo.MP}(hi:Mo.MI n G P){f:Codec.Frame}(hf:Mo.Gen n G P f):FrOk n f:=by
 refine⟨hf.fits hi hn,?_⟩;rcases hf.kind with h|⟨h,m,hm,e⟩
 ·exact .inl h
 ·obtain⟨A,B, -,im⟩:=hi.good.mem hm;obtain⟨h1, -,h3, -⟩:=hi.good.le hm;exact .inr ⟨h,m,e,⟨im.lt,im.sender,im.len,im.own,by omega,h3⟩⟩
theorem qn1{f f':Codec.Frame}(h:par f=par f'):Codec.encB f=Codec.encB f':=by
 have:=congrArg (fun x:Par=>x.2.data.toList) h;simpa[par] using this
theorem qn2{f f':Codec.Frame}(hf:Codec.fits f=true)(hf':Codec.fits f'=true)(h:par f=par f'):f=f':=by
 rw[<-Codec.read_back f hf,qn1 h,Codec.read_back f' hf']
theorem qky{f:Codec.Frame}(hf:Codec.fits f=true):1<=(par f).2.size/\(par f).2.size<=1000000:=by
 have h1:=qcr hf;have h2:(par f).2.size=(Codec.bodyB f).length+4:=by
  show (Codec.encB f).toArray.size=_;simp only[yJ,Codec.encB,yC,Codec.word4_length]
 omega
theorem qrc(b c:UInt8)(hc:c≠0):b ^^^ c≠b:=fun h=>by
 have h1:=congrArg (fun x=>b ^^^ x) h;simp only[<-UInt8.xor_assoc,UInt8.xor_self,UInt8.zero_xor] at h1;exact hc h1
theorem qn3{f:Codec.Frame}{i m:Nat}(hi:i<(par f).2.size)(hm1:1<=m)(hm2:m<=255):Codec.isFrame (turned (par f).2 i m).data.toList=false:=by
 have hlt:i<(Codec.encB f).length:=by
  have:(par f).2.size=(Codec.encB f).length:=by
   show (Codec.encB f).toArray.size=_;simp
  omega
 have e1:(turned (par f).2 i m).data.toList=(Codec.encB f).set i ((Codec.encB f).getD i 0 ^^^ UInt8.ofNat m):=by simp[turned,par]
 rw[e1,List.set_eq_take_append_cons_drop,if_pos hlt];refine Codec.spoilt f _ _ ((Codec.encB f).getD i 0) _ ?_ (qrc _ _ fun h=>?_)
 ·rw[yj,yh hlt];simp
 ·have:=congrArg UInt8.toNat h;simp at this;omega
theorem Jn.jok{n:Nat}(hn:n<=6):Jok n (Jn n) where
 len:=fun h=>by
  obtain⟨G,fl, -, -, -,h⟩:=h;exact h
 par:=fun h hx=>by
  obtain⟨G,fl,hi,rfl,hg, -⟩:=h;obtain⟨f,hf,rfl⟩:=yW.1 hx;obtain⟨j,q,hc, -⟩:=(hg f hf).calm;exact .frame f q j rfl hc.dst hc.qn (qp0 hn hi (hg f hf)) hc
 size:=fun h hx=>by
  obtain⟨G,fl,hi,rfl,hg, -⟩:=h;obtain⟨f,hf,rfl⟩:=yW.1 hx;exact qky ((hg f hf).fits hi hn)
 come:=fun {st pl x st' k} h hk hgo=>by
  obtain⟨G,fl,hi,rfl,hg,hl⟩:=h;rw[yZ] at hk;obtain⟨f,hf,rfl⟩:=yE.1 hk;have hfm:=yy hf;have hfit:=(hg f hfm).fits hi hn;have hle:((fl.map par).eraseIdx k).length<=4000:=yr (List.length_eraseIdx_le _ _) hl;have her:(fl.map par).eraseIdx k=(fl.eraseIdx k).map par:=(qa9 par fl k).symm;cases hgo with
  | frame f' j q s hx hfit' hcalm hj hcome =>
    obtain rfl:=qn2 hfit hfit' hx;refine⟨G,fl.eraseIdx k,?_,her,fun f' hf'=>?_,hle⟩
    ·rw[qfo];exact hi.come (hg f hfm) hcalm hcome
    ·rw[qfo];exact(hg f' (List.mem_of_mem_eraseIdx hf')).grows (fun _ h=>h) (Mo.grows_upd hcome.grows)
  | spoilt hno =>
    have h1:=Codec.isFrame_enc f hfit;have e:(YtoklolfaemhfnaaGreatDoor.par f).2.data.toList=Codec.encB f:=by simp[YtoklolfaemhfnaaGreatDoor.par]
    rw[e,h1] at hno;cases hno
 drop:=fun {st pl} k h=>by
  obtain⟨G,fl,hi,rfl,hg,hl⟩:=h;exact⟨G,fl.eraseIdx k,hi,(qa9 par fl k).symm,fun f hf=>hg f (List.mem_of_mem_eraseIdx hf),yr (List.length_eraseIdx_le _ _) hl⟩
 copy:=fun {st pl x k} h hk=>by
  obtain⟨G,fl,hi,rfl,hg,hl⟩:=h;rw[yZ] at hk;obtain⟨f,hf,rfl⟩:=yE.1 hk;unfold sentTo;split
  ·rename_i hlt
   refine⟨G,fl++[f],hi,by simp,fun f' hf'=>?_,by simp at hlt ⊢;omega⟩;rcases yz.1 hf' with h1|h1
   ·exact hg f' h1
   ·rw[yu] at h1;rw[h1];exact hg f (yy hf)
  ·exact⟨G,fl,hi,rfl,hg,hl⟩
 spoil:=fun {st pl x k i m} h hk hi1 hm1 hm2=>by
  obtain⟨G,fl,hi,rfl,hg,hl⟩:=h;rw[yZ] at hk;obtain⟨f,hf,rfl⟩:=yE.1 hk;have hfm:=yy hf;obtain⟨j,q,hc, -⟩:=(hg f hfm).calm;have hno:=qn3 hi1 hm1 hm2;refine⟨.spoilt q hc.dst hc.qn ?_ hno,fun st' hgo=>?_⟩
  ·have h1:=(qky ((hg f hfm).fits hi hn)).2;have h2:(turned (YtoklolfaemhfnaaGreatDoor.par f).2 i m).size=(YtoklolfaemhfnaaGreatDoor.par f).2.size:=by
    show (turned (YtoklolfaemhfnaaGreatDoor.par f).2 i m).data.size=(YtoklolfaemhfnaaGreatDoor.par f).2.data.size;simp[turned]
   show (turned (YtoklolfaemhfnaaGreatDoor.par f).2 i m).size<=_;omega
  ·cases hgo with
   | frame f' j' k' s hx hfit' _ _ _ =>
     have e:(turned (YtoklolfaemhfnaaGreatDoor.par f).2 i m).data.toList=Codec.encB f':=by
      have:=congrArg (fun x:Par=>x.2.data.toList) hx;simpa[YtoklolfaemhfnaaGreatDoor.par] using this
     rw[e,Codec.isFrame_enc f' hfit'] at hno;cases hno
   |spoilt _=>rfl
theorem qdf(lim:Nat):∀(l fl:List Codec.Frame),fl.length<=lim->∃l',sentAll lim (fl.map par) (l.map par)=(fl++l').map par/\(∀x∈l',x∈l)/\(fl++l').length<=lim
 |[],fl,h=>⟨[],by simp[sentAll],by simp,by simpa using h⟩
 | f :: l, fl, h => by
   by_cases hlt:fl.length<lim
   ·obtain⟨l',h1,h2,h3⟩:=qdf lim l (fl++[f]) (by simp;omega);refine⟨f::l',?_,fun x hx=>?_,?_⟩
    ·rw[yav] at h1;rw[show fl++f::l'=fl++([f]++l') by simp,<-h1];simp[sentAll,sentTo,hlt]
    ·rcases yF.1 hx with rfl|hx
     ·simp
     ·simp[h2 x hx]
    ·simpa using h3
   ·obtain⟨l',h1,h2,h3⟩:=qdf lim l fl h;refine⟨l',?_,fun x hx=>by simp[h2 x hx],h3⟩;rw[<-h1];simp[sentAll,sentTo,hlt]
variable {n win:Nat}{st:Nat->Pst}{pl:List Par}
theorem Jn.tick(h:Jn n st pl){i:Nat}(hi:i<n){out:List Codec.Frame}(ho:Mo.Outs n i (st i).mp out):Jn n st (sentAll 4000 pl (out.map par)):=by
 obtain⟨G,fl,hm,rfl,hg,hl⟩:=h;obtain⟨l',h1,h2,h3⟩:=qdf 4000 out fl (by simpa using hl);refine⟨G,fl++l',hm,h1,fun f hf=>?_,by rw[h1,yL];exact h3⟩;rcases yz.1 hf with h|h
 ·exact hg f h
 ·obtain⟨q,hq,hne,rfl|⟨m,hmm,rfl⟩⟩:=ho.only f (h2 f h)
  ·exact Mo.gen_gossip hm hi hq (fun e=>hne e.symm)
  ·exact Mo.gen_data hm hi hq (fun e=>hne e.symm) ((hm.one i hi).sub m hmm)
theorem Jn.cast(h:Jn n st pl)(hn:n<=6){i:Nat}(hi:i<n){m:Codec.Msg}{s:Pst}(hc:Mo.Cast n i m (st i).mp s.mp){out:List Codec.Frame}(ho:∀f∈out,∃q,q<n/\q≠i/\f=Mo.dataF n i q s.mp m):Jn n (setSt st i s) (sentAll 4000 pl (out.map par)):=by
 obtain⟨G,fl,hm,rfl,hg,hl⟩:=h;obtain⟨l',h1,h2,h3⟩:=qdf 4000 out fl (by simpa using hl);have hm':Mo.MI n (G++[m]) (Mo.upd (mps st) i s.mp):=hm.cast hn hi hc;rw[<-qfo] at hm';refine⟨G++[m],fl++l',hm',h1,fun f hf=>?_,by rw[h1,yL];exact h3⟩;rcases yz.1 hf with h|h
 ·rw[qfo];exact(hg f h).grows (fun x hx=>by simp[hx]) (Mo.grows_upd hc.grows)
 ·obtain⟨q,hq,hne,rfl⟩:=ho f (h2 f h);have:=Mo.gen_data hm' hi hq (fun e=>hne e.symm) (m:=m) (by simp);rw[show mps (setSt st i s) i=s.mp by rw[qfo,Mo.upd_same]] at this;exact this
theorem Jn.hno(h:Jn n st pl){i:Nat}(hi:i<n)(win:Nat)(t:ByteArray):∀m∈(st i).ms,isK (ownMsg (qre i n win) (st i).kn t).sender (ownMsg (qre i n win) (st i).kn t).seq m=false:=by
 obtain⟨G,fl,hm, -⟩:=h;intro m hmm;have ho:=hm.one i hi;have hG:=ho.sub m hmm;obtain⟨-,h2, -, -,h5⟩:=hm.good.le hG;cases hk:isK (ownMsg (qre i n win) (st i).kn t).sender (ownMsg (qre i n win) (st i).kn t).seq m with
 |false=>rfl
 | true =>
   exfalso
   obtain⟨e1,e2⟩:=qag.1 hk;have e1':m.sender=(i:Int):=e1;have e2':m.seq=Kn (st i).kn i i+1:=e2;have hown:Kn (st i).kn i i=Mo.cnt G i:=ho.own;have hs:Mo.sn m=i:=by
    rw[e1'] at h5;omega
   rw[hs] at h2;omega
theorem Jn.hlow(h:Jn n st pl){i:Nat}(hi:i<n):∀q,q<n->Kn (st i).kn q i<=Kn (st i).kn i i:=by
 obtain⟨G,fl,hm, -⟩:=h;intro q hq;have h1:Kn (st i).kn q i<=Kn (st q).kn q i:=hm.low i q i hi hq hi;have h2:Kn (st q).kn q i<=Mo.cnt G i:=(hm.one q hq).row i hi;have h3:Kn (st i).kn i i=Mo.cnt G i:=(hm.one i hi).own;omega
theorem qd5(i n win:Nat)(t:ByteArray)(s:Pst):∀f∈castOut i n win t s,∃q,q<n/\q≠i/\f=Mo.dataF n i q (qrr i n win t s).mp (ownMsg (qre i n win) s.kn t):=by
 intro f hf;obtain⟨q,hq,rfl⟩:=yW.1 hf;obtain⟨h1,h2⟩:=yM.1 hq;exact⟨q,yaa.1 h1,by simpa using h2,rfl⟩
theorem Jn.new(n:Nat):Jn n (fun _=>newSt n) []:=by
 have hz:∀q s,Kn (newSt n).kn q s=0:=fun q s=>qcn
 refine⟨[],[],⟨fun A m B e=>?_,fun j hj=>⟨fun q s _ _=>?_,fun s _=>?_,?_,fun m hm=>?_,fun m hm=>?_,fun m hm=>?_,fun e he=>?_,fun m hm=>?_,?_⟩,fun j q s _ _ _=>?_⟩,rfl,by simp,by simp⟩
 ·cases A <;> cases e
 ·show 0<=Kn (newSt n).kn q s;rw[hz];exact yaY _
 ·show Kn (newSt n).kn j s<=0;rw[hz];exact yaY _
 ·show Kn (newSt n).kn j j=0;rw[hz]
 ·cases hm
 ·cases hm
 ·cases hm
 ·cases he
 ·cases hm
 ·exact List.Pairwise.nil
 ·show Kn (newSt n).kn q s<=Kn (newSt n).kn q s;exact yaY _
theorem Jn.start(hn:1<=n/\n<=6):Jn n (st0 n win) (pl0 n win):=by
 have hc:=qbb (i:=0) (win:=win) (show 0<n by omega) hn.2;refine(Jn.new n).cast hn.2 (i:=0) (by omega) (m:=ownMsg (qre 0 n win) (newSt n).kn firstB) (s:=qrr 0 n win firstB (newSt n)) ?_ (qd5 0 n win firstB (newSt n));refine qj1 (evs:=(newSt n).evs) (ms:=(newSt n).ms) hc (by simp[newSt,qre]) ?_ ?_ firstB (by decide)
 ·show ((newSt n).kn.getD 0 []).length=n;rw[qde (by omega)];simp
 ·show ((newSt n).kn.getD 0 []).getD 0 0<20;rw[qcn];decide
end
section
open Go.RowKit
open Go.ChangeMaps (setBlock)
variable {w w':World}{gb n win lim:Nat}{st:Nat->Pst}{pl:List Par}{FG:Nat->Prop}
abbrev qrk(n g cap:Nat):Array Value:=#[.bool true,.bool false,.bool false,J 0,J (full n),J 0,J 0,sT g n cap]
abbrev noCells:Array Value:=#[.bool false,.bool false,.bool false,J 0,J 0,J 0,J 0,sN]
theorem qht{base m cap g:Nat}{R:List Int}(h:w.ownsRow base 3 1 (sT g m cap) m (ints R))(hR:R.length=m)(k:Nat)(hk:k<m):w.cell? (aT g k)=some (J (R.getD k 0)):=by
 have:=h.cells (g:=g) rfl k (J (R.getD k 0)) (by
  rw[ints,yZ,yj,yh (by omega)];rfl)
 rwa [add0] at this
theorem qqy{base m cap g b:Nat}{t:TypeId}{cs:Array Value}{xs:List Value}(h:w.ownsRow base 3 1 (sT g m cap) m xs)(hb:BlkAt w b t cs)(ht:t≠3):g≠b:=by
 rintro rfl;rcases h.2 with ⟨h0, -⟩|⟨g1,cap1,cur,h0, -,hcur, -⟩
 ·cases h0
 ·injection h0 with h1;injection h1 with h1;injection h1 with h1;subst h1;have hb':w.heap[g]?=some (.cells cs t (0,0)):=hb;rw[hb'] at hcur;injection hcur with hcur;injection hcur with _ h2;exact ht h2
theorem PlAt.crashed{pp:Nat}(h:PlAt w pp gb n win){k:Nat}(hk:k<6):w.cell? ⟨pp,4+k,none⟩=some (.bool false):=by
 refine BlkAt.cell h (4+k) _ ?_;match k,hk with
 |0,_=>rfl
 |1,_=>rfl
 |2,_=>rfl
 |3,_=>rfl
 |4,_=>rfl
 |5,_=>rfl
inductive Want (w:World) (base wb n:Nat) (R:List Int) (k:Nat):Value->Prop
 |none:BlkAt w wb 71 noCells->k=0->Want w base wb n R k (J (-1))
 |some (g cap:Nat):BlkAt w wb 71 (qrk n g cap)->w.ownsRow base 3 1 (sT g n cap) n (ints R)->Want w base wb n R k (J 0)
theorem qpl(pp:Nat)(hpl:PlAt w pp gb n win)(g:GX w FG gb n win lim st pl)(hn:1<=n/\n<=6)(R:List Int)(hR:R.length=n)(hall:∀i,i<n->(st i).ms=[]/\(st i).kn.getD i []=R) :
 Calls prog 29 #[pT pp 0] w fun e w'=>Below w.heap.size w w'/\e=.returned (.bool true):=by
 have HC:Hid (∀w',Below w.heap.size w w'->w'.cell? (aT pp 0)=some (pT gb 0)/\w'.cell? (aT pp 1)=some (J n)/\∀k,k<6->w'.cell? ⟨pp,4+k,none⟩=some (.bool false)):=fun w' hb=>by
  have h1:PlAt w' pp gb n win:=BlkAt.below hpl hb (BlkAt.lt hpl);exact⟨BlkAt.cell h1 0 _ rfl,BlkAt.cell h1 1 _ rfl,fun k hk=>h1.crashed hk⟩
 have HP:Hid (∀(k:Nat) w',k<n->Below w.heap.size w w'->Calls prog 43 #[pT gb 0,J k] w' fun e w''=>∃gr cap,e=.returned (.tuple #[.agg #[.bool true,.bool false,.bool false,J 0,J (full n),J 0,J 0,sT gr n cap],J 0])/\w''.ownsRow w'.heap.size 3 1 (sT gr n cap) n (ints R)/\Below w'.heap.size w' w''):=fun k w' hk hb=>by
  have:=qpe hn.2 (g.below hb) hk;rw[(hall k hk).1,(hall k hk).2] at this;exact this
 have H0:Hid (Want (w.alloc (.cells noCells 71)) w.heap.size w.heap.size n R 0 (J (-1))):=.none (BlkAt.new w w.heap.size rfl 71 _) rfl;have HB0:Hid (Below w.heap.size w (w.alloc (.cells noCells 71))):=(yi _ _).alloc (yb _) _;have HRL:Hid (R.length=n):=hR;have hn6:n<=6:=hn.2;have hn1:1<=n:=hn.1;clear hpl g hall hR hn;go_enter Tryz.func29,Tryz.ntmps29
 go_wp2_with fail
 generalize w.alloc (.cells noCells 71)=w0 at H0 HB0 ⊢;go_loopw [3,5] (fun f i wr=>∃k:Nat,k<=n/\i=J k/\Below w.heap.size w wr/\Want wr w.heap.size w.heap.size n R k f) (fun _ i _=>n - (intOf i).toNat)
 case atStart=>exact⟨0,by omega,rfl,HB0.out,H0.out⟩
 case round=>
  obtain⟨k,hk,rfl,hbel,hwant⟩:=hrel;obtain⟨c0,c1,c4⟩:=HC.out wr hbel;have HBL:Hid (Below w.heap.size w wr):=hbel;have HW:Hid (Want wr w.heap.size w.heap.size n R k _):=hwant;by_cases hlt:k<n
  ·have hlt1:(k:Int)<(n:Int):=by omega
   have hk0:(0:Int)<=(k:Int):=by omega
   have hk6:(k:Int)<6:=by omega
   have ck:=c4 k (by omega);have HP1:Hid (Calls prog 43 _ _ _):=HP.out k wr hlt hbel;clear hbel hwant c4;go_wp2_with fail
   refine HP1.out.mono ?_;rintro _ w1 ⟨gr,cap,rfl,hrow,hb1⟩;have HR1:Hid (w1.ownsRow wr.heap.size 3 1 (sT gr n cap) n (ints R)):=hrow;have HB1:Hid (Below wr.heap.size wr w1):=hb1;have hX:=BlkAt.new w1 w1.heap.size rfl 71 (qrk n gr cap);have hbA:Below w1.heap.size w1 (w1.alloc (.cells (qrk n gr cap) 71)):=(yi _ _).alloc (yb _) _;have HXD:Hid (BlkAt (w1.alloc (.cells (qrk n gr cap) 71)) w1.heap.size 71 (qrk n gr cap)):=hX;have HB2:Hid (Below wr.heap.size wr (w1.alloc (.cells (qrk n gr cap) 71))):=hb1.trans (hbA.mono hb1.size);have HR2:Hid ((w1.alloc (.cells (qrk n gr cap) 71)).ownsRow wr.heap.size 3 1 (sT gr n cap) n (ints R)):=qd hrow fun x hx=>hbA.block x (hrow.lt x hx).2;have HSZ:Hid (w.heap.size<=wr.heap.size/\wr.heap.size<=w1.heap.size):=⟨HBL.out.size,hb1.size⟩;clear hrow hb1 HP1 hX hbA c0 c1 ck;obtain⟨p0,p1,p2,p3,p4,p5,p6,p7, -⟩:=HXD.out.facts8;obtain⟨c0,c1, -⟩:=HC.out _ (HBL.out.trans (HB2.out.mono HSZ.out.1));go_wp2_with fail
   generalize hXn:w1.heap.size=X at HXD HSZ p0 p1 p2 p3 p4 p5 p6 p7 ⊢;generalize w1.alloc (.cells (qrk n gr cap) 71)=w2 at HXD HB2 HR2 c0 c1 p0 p1 p2 p3 p4 p5 p6 p7 ⊢;clear hXn;go_quiet (fail)
   clear c0 c1 p0 p1 p2 p3 p4 p5 p6 p7;have HX3:Hid (BlkAt (w2.drewN nq) X 71 (qrk n gr cap)):=HXD.out;have HB3:Hid (Below wr.heap.size wr (w2.drewN nq)):=below_drewN HB2.out nq;have HR3:Hid ((w2.drewN nq).ownsRow wr.heap.size 3 1 (sT gr n cap) n (ints R)):=HR2.out;clear HXD HB2 HR2;generalize w2.drewN nq=w3 at HX3 HB3 HR3 ⊢;obtain⟨p0,p1,p2,p3,p4,p5,p6,p7, -⟩:=HX3.out.facts8;have HBW:Hid (Below w.heap.size w w3):=HBL.out.trans (HB3.out.mono HSZ.out.1);have HXlt:Hid (X<w3.heap.size):=HX3.out.lt;cases HW.out with
   | some g0 cap0 hb0 hr0 =>
     have HB0':Hid (BlkAt w3 w.heap.size 71 (qrk n g0 cap0)):=hb0.below HB3.out hb0.lt;have HR0:Hid (w3.ownsRow w.heap.size 3 1 (sT g0 n cap0) n (ints R)):=qd hr0 fun x hx=>HB3.out.block x (hr0.lt x hx).2;clear hb0 hr0;obtain⟨q0,q1,q2,q3,q4,q5,q6,q7, -⟩:=HB0'.out.facts8;have HSI:Hid (Calls prog 63 #[sT gr n cap,sT g0 n cap0] w3 _):=qfn (some ⟨gr,0,none⟩) (some ⟨g0,0,none⟩) n cap cap0 w3 hn6 (fun j hj=>⟨gr,g0,R.getD j 0,rfl,rfl,qht HR3.out HRL.out j hj,qht HR0.out HRL.out j hj⟩);go_wp2_with fail
     refine HSI.out.mono ?_;rintro _ w4 ⟨rfl,m,rfl⟩;clear HSI;have HB4:Hid (Below w.heap.size w (w3.drewN m)):=below_drewN HBW.out m;have HW4:Hid (Want (w3.drewN m) w.heap.size w.heap.size n R (k+1) (J 0)):=.some g0 cap0 HB0'.out HR0.out;go_wp2_with fail
     go_roundw
     case rel=>exact⟨k+1,by omega,by go_num,HB4.out,HW4.out⟩
     case measure=>simp[intOf];omega
   | none hb0 hk0' =>
     subst hk0';have hw3:BlkAt w3 w.heap.size 71 noCells:=hb0.below HB3.out hb0.lt;have hXw:X≠w.heap.size:=by
      have:=hb0.lt;have:=HSZ.out;omega
     obtain⟨q0,q1,q2,q3,q4,q5,q6,q7,r0,r1,r2,r3,r4,r5,r6,r7⟩:=hw3.facts8;have HS8:Hid (BlkAt w3 w.heap.size 71 noCells):=hw3;have HNE:Hid (X≠w.heap.size/\gr≠w.heap.size):=⟨hXw,qqy HR3.out hw3 (by decide)⟩;clear hb0 hw3 hXw;go_upto_region 13 with fail
     obtain⟨hPf,hOn⟩:=store8 HS8.out (.bool true) (.bool false) (.bool false) (J 0) (J (full n)) (J 0) (J 0) (sT gr n cap);clear q0 q1 q2 q3 q4 q5 q6 q7 r0 r1 r2 r3 r4 r5 r6 r7 p0 p1 p2 p3 p4 p5 p6 p7;generalize hwf:World.setCell _ ⟨w.heap.size,7,none⟩ (sT gr n cap)=w4 at hPf hOn ⊢;clear hwf;have HX4:Hid (BlkAt w4 X 71 (qrk n gr cap)):=(hOn.block X HNE.out.1).trans HX3.out;have HP4:Hid (BlkAt w4 w.heap.size 71 (qrk n gr cap)):=hPf;have HR4:Hid (w4.ownsRow w.heap.size 3 1 (sT gr n cap) n (ints R)):=qd (qf HR3.out HSZ.out.1) fun x hx=>hOn.block x (by
      have:gr=x:=by simpa[Value.ownBlock] using hx
      rw[<-this];exact HNE.out.2)
     have HB4:Hid (Below w.heap.size w w4):=HBW.out.trans (hOn.below (yb _));clear hPf hOn HX3 HR3 HBW HS8;obtain⟨p0,p1,p2,p3,p4,p5,p6,p7, -⟩:=HX4.out.facts8;obtain⟨q0,q1,q2,q3,q4,q5,q6,q7, -⟩:=HP4.out.facts8;have HSI:Hid (Calls prog 63 #[sT gr n cap,sT gr n cap] w4 _):=qfn (some ⟨gr,0,none⟩) (some ⟨gr,0,none⟩) n cap cap w4 hn6 (fun j hj=>⟨gr,gr,R.getD j 0,rfl,rfl,qht HR4.out HRL.out j hj,qht HR4.out HRL.out j hj⟩);go_wp2_with fail
     refine HSI.out.mono ?_;rintro _ w5 ⟨rfl,m,rfl⟩;clear HSI;have HB5:Hid (Below w.heap.size w (w4.drewN m)):=below_drewN HB4.out m;have HW5:Hid (Want (w4.drewN m) w.heap.size w.heap.size n R 1 (J 0)):=.some gr cap HP4.out HR4.out;go_wp2_with fail
     go_roundw
     case rel=>exact⟨1,by omega,by go_num,HB5.out,HW5.out⟩
     case measure=>simp[intOf];omega
  ·have hkn:k=n:=by omega
   have hlt1:¬(k:Int)<(n:Int):=by omega
   clear c4;cases HW.out with
   |none hb0 hk0'=>omega
   | some g0 cap0 hb0 hr0 =>
     have HP4:Hid (BlkAt wr w.heap.size 71 (qrk n g0 cap0)):=hb0;clear hb0 hr0 hwant HW hbel;go_wp2_with fail
     obtain⟨wz,ewz⟩:∃wz,wz=wr:=⟨_,rfl⟩;subst ewz;go_loopw [9] (fun i wq=>∃j:Nat,j<=n/\i=J j/\Below wz.heap.size wz wq) (fun i _=>n - (intOf i).toNat)
     case atStart=>exact⟨0,by omega,rfl,yi _ _⟩
     case round=>
      obtain⟨j,hj,rfl,hbq⟩:=hrel;have HBQ:Hid (Below wz.heap.size wz wr):=hbq;clear c0 c1;obtain⟨c0,c1,c4⟩:=HC.out wr (HBL.out.trans (hbq.mono HBL.out.size));have HS:Hid (∀w',Below wz.heap.size wz w'->w'.cell? (aT w.heap.size 4)=some (J (full n))/\(j<n->w'.cell? ⟨pp,4+j,none⟩=some (.bool false))):=fun w' hw=>⟨(HP4.out.below hw HP4.out.lt).cell 4 _ rfl,fun hjn=>(HC.out w' (HBL.out.trans (hw.mono HBL.out.size))).2.2 j (by omega)⟩;clear hbq c4;by_cases hjn:j<n
      ·have hj1:(j:Int)<(n:Int):=by omega
       have hj0:(0:Int)<=(j:Int):=by omega
       have hj6:(j:Int)<6:=by omega
       go_upto_region 19 with fail
       refine wp_region_held_drew (S:=fun w'=>w'.cell? (aT w.heap.size 4)=some (J (full n))/\w'.cell? ⟨pp,4+j,none⟩=some (.bool false)) rfl ⟨(HS.out _ HBQ.out.drew).1,(HS.out _ HBQ.out.drew).2 hjn⟩ (fun hHeld=>?_);refine wk 0 ?_;refine wk 1 ?_;refine wk 2 ?_;refine wk 3 ?_;refine wk 4 ?_;refine wk 5 ?_;refine wk 7 ?_;refine wk 8 ?_;refine wk 9 ?_;refine wk 10 ?_;refine wk 11 ?_;refine wk 12 ?_;refine we 6 fun K hK=>?_;go_simp;refine(in_fn n j _ hjn hn6).mono ?_;rintro e w2 ⟨rfl,rfl⟩;go_wp2_with fail
       refine hK.out _ _ ⟨(HS.out _ HBQ.out.drew).1,(HS.out _ HBQ.out.drew).2 hjn⟩ (fun hHeld=>?_);clear hK K;try simp only[pU]
       refine wk 13 ?_;refine wk 14 ?_;refine wpAnyH_done (by kernel_rfl) ?_ _;go_wp2_with fail
       go_roundw
       case rel=>exact⟨j+1,by omega,by go_num,HBQ.out.drew⟩
       case measure=>simp[intOf];omega
      ·have hj1:¬(j:Int)<(n:Int):=by omega
       go_wp2_with fail
       go_ret;exact⟨HBL.out.trans (HBQ.out.mono HBL.out.size),rfl⟩
end
section
open Go.RowKit
open Go.Cr Go.Conc
open Go.Pm (Rely Perm Sup Ext)
section
variable {w w':World}{gb n win lim:Nat}{st:Nat->Pst}{pl:List Par}{FG:Nat->Prop}
theorem GX.same(g:GX w FG gb n win lim st pl)(h:w'.heap=w.heap):GX w' FG gb n win lim st pl:=by
 obtain⟨pb,bl,Fp,Fn,nv,g,hW⟩:=g;have hb:∀x:Nat,w'.heap[x]?=w.heap[x]?:=fun x=>by rw[h]
 refine⟨pb,bl,Fp,Fn,nv,⟨⟨(hb gb).trans g.net.blk,g.net.row.kept fun x _=>hb x⟩,(hb pb).trans g.ptr,fun i hi=>(g.proc i hi).kept fun x _ _=>hb x,g.ok,g.dis,g.disn,g.disg,g.ng,g.gp,fun i x hi hx=>by rw[h];exact g.bp i x hi hx,fun x hx=>by rw[h];exact g.bn x hx,fun i hi=>(g.cl i hi).kept (fun x _=>hb x) (fun x _=>hb x) (by rw[h];exact yb _),g.lg,g.ln⟩,hW⟩
theorem GX.at10(g:GX w FG gb n win lim st pl):7<=gb/\gb<w.heap.size:=by
 obtain⟨pb,bl,Fp,Fn,nv,g,hW⟩:=g;exact⟨g.lg.1,g.net.blk.lt⟩
theorem qfp{w:World}{b:Nat}(h10:7<=b)(hb:b<w.heap.size):Sup fam w.heap.size (pT b 0):=fun σ hσ=>by
 have:σ.f b=b:=hσ.1 b h10 hb;simp[Addr.pm,this]
theorem qco{n:Nat}{v:Value}(h:∀ρ:Perm,v.pm ρ=v):Sup fam n v:=fun σ _=>h σ
end
def Ms(n win P0 G0:Nat)(J:(Nat->Pst)->List Par->Prop)(L:List (Nat × Obj))(O:Nat->Prop)(wa:World):Prop:=
 ∃(π:Perm) (w:World) (pp gb:Nat) (FG:Nat->Prop) (st:Nat->Pst) (pl:List Par),Gh π w wa O/\Sides L O π w.heap.size wa/\π.f pp=P0/\π.f gb=G0/\7<=pp/\PlAt w pp gb n win/\¬FG pp/\GX w FG gb n win 4000 st pl/\J st pl
section
variable {n win P0 G0:Nat}{J J':(Nat->Pst)->List Par->Prop}{L:List (Nat × Obj)}{O K:Nat->Prop}{A:World->Prop}{X:Event->Prop}{Stop:(Nat->Prop)->Goroutine->World->Prop}{wa waB:World}
theorem Ms.rely(h:Ms n win P0 G0 J L O wa)(hK:∀b,b<2->K b)(hr:Rely O K A wa waB):Ms n win P0 G0 J L O waB:=by
 obtain⟨π,w,pp,gb,FG,st,pl,h1,h2,h3⟩:=h;exact⟨π,w,pp,gb,FG,st,pl,h1.rely hK hr,h2.rely hr,h3⟩
theorem Ms.imp(h:Ms n win P0 G0 J L O wa)(hJ:∀st pl,J st pl->J' st pl):Ms n win P0 G0 J' L O wa:=by
 obtain⟨π,w,pp,gb,FG,st,pl,h1,h2,h3,h4,h5,h6,h7,h8,h9⟩:=h;exact⟨π,w,pp,gb,FG,st,pl,h1,h2,h3,h4,h5,h6,h7,h8,hJ _ _ h9⟩
theorem Ms.cells(h:Ms n win P0 G0 J L O wa):O P0/\wa.cell? (aT P0 0)=some (pT G0 0)/\wa.cell? (aT P0 1)=some (.int .i64 n)/\(∀k,k<6->wa.cell? ⟨P0,4+k,none⟩=some (.bool false))/\wa.cell? (aT P0 10)=some (.bool true):=by
 obtain⟨π,w,pp,gb,FG,st,pl,h1,h2,rfl,rfl,h5,h6, -⟩:=h;have c0:=h1.cell h5 (BlkAt.cell h6 0 _ rfl);have c1:=h1.cell h5 (BlkAt.cell h6 1 _ rfl);have c10:=h1.cell h5 (BlkAt.cell h6 10 _ rfl);refine⟨c0.2,by simpa[Addr.pm] using c0.1,by simpa using c1.1,fun k hk=>?_,by simpa using c10.1⟩;have:=h1.cell h5 (h6.crashed hk);simpa using this.1
theorem Ms.call(h:Ms n win P0 G0 J L O wa)(hK:∀b,b<2->K b){f:FuncId}(hF:fam f=true)(hlf:fam.leaf f=false)(onG:Bool){args:List Value}(ha:∀v∈args,∀ρ:Perm,v.pm ρ=v){Q:Value->((Nat->Pst)->List Par->Prop)}{c:Frame}{rest:List Frame}
 (hc:∀w pp gb FG st pl,PlAt w pp gb n win->¬FG pp->GX w FG gb n win 4000 st pl->J st pl->Calls prog f (Value.pointer (some ⟨if onG then gb else pp,0,none⟩)::args).toArray w fun e w'=>∃v,e=.returned v/\(∀ρ:Perm,v.pm ρ=v)/\∃st' pl',GS w w' FG gb n win 4000 st' pl'/\Q v st' pl')
 (hk:∀v O' wa',Ms n win P0 G0 (Q v) L O' wa'->Go.Pm.Way prog true K A X Stop O' (G (c.finish v) rest) wa') :
 Go.Pm.Way prog true K A X Stop O (G (Frame.enter prog f (Value.pointer (some ⟨if onG then G0 else P0,0,none⟩)::args).toArray .normal) (c::rest)) wa:=by
 obtain⟨π,w,pp,gb,FG,st,pl,h1,h2,rfl,rfl,h5,h6,h7,h8,h9⟩:=h;have hgb:=h8.at10;have hpp:pp<w.heap.size:=BlkAt.lt h6;refine qb2 hK h1 h2 hF hlf (args:=(Value.pointer (some ⟨if onG then gb else pp,0,none⟩)::args).toArray) (fun v hv=>?_) ?_ (R:=fun e w'=>∃v,e=.returned v/\(∀ρ:Perm,v.pm ρ=v)/\∃st' pl',(∀k,k<w.heap.size->¬FG k->w'.heap[k]?=w.heap[k]?)/\GX w' (Plus FG w) gb n win 4000 st' pl'/\Q v st' pl') (fun τ _=>?_) (fun e w' h=>?_) fun v w' π' wa' O' hR hg hL hsz hsame _=>?_
 ·rw[yag] at hv;rcases yF.1 hv with rfl|hv
  ·cases onG
   ·exact qfp h5 hpp
   ·exact qfp hgb.1 hgb.2
  ·exact qco (ha v hv)
 ·rw[yas,yN,qcm fun v hv=>ha v hv π];cases onG <;> simp[Addr.pm]
 ·refine(hc (w.tp τ) pp gb FG st pl h6 h7 (h8.same rfl) h9).mono ?_;rintro e w' ⟨v,rfl,hv,st',pl',hgs,hq⟩;exact⟨v,rfl,hv,st',pl',fun k hk hn=>hgs.1.block k hk hn,hgs.2,hq⟩
 ·obtain⟨v,h, -⟩:=h;exact⟨v,h⟩
 ·obtain⟨v',e,hv,st',pl',hbl,hgx,hq⟩:=hR;injection e with e;subst e;rw[hv];refine hk v O' wa' ⟨π',w',pp,gb,Plus FG w,st',pl',hg,hL,hsame pp hpp,hsame gb hgb.2,h5,(hbl pp hpp h7).trans h6,fun e=>?_,hgx,hq⟩;rcases e with e|e
  ·exact h7 e
  ·omega
theorem Ms.plain(h:Ms n win P0 G0 J L O wa)(hK:∀b,b<2->K b){f:FuncId}(hF:fam f=true)(hlf:fam.leaf f=false){args:List Value}(ha:∀v∈args,∀ρ:Perm,v.pm ρ=v){v:Value}(hv:∀ρ:Perm,v.pm ρ=v){c:Frame}{rest:List Frame}
 (hc:∀w,Calls prog f args.toArray w fun e w'=>e=.returned v/\w'=w)
 (hk:∀O' wa',Ms n win P0 G0 J L O' wa'->Go.Pm.Way prog true K A X Stop O' (G (c.finish v) rest) wa') :
 Go.Pm.Way prog true K A X Stop O (G (Frame.enter prog f args.toArray .normal) (c::rest)) wa:=by
 obtain⟨π,w,pp,gb,FG,st,pl,h1,h2,rfl,rfl,h5,h6,h7,h8,h9⟩:=h;refine qb2 hK h1 h2 hF hlf (args:=args.toArray) (fun v hv=>qco (ha v (by simpa using hv))) (by rw[yas,qcm fun v hv=>ha v hv π]) (R:=fun e w'=>e=.returned v/\w'.heap=w.heap) (fun τ _=>(hc (w.tp τ)).mono fun e w' h=>⟨h.1,by rw[h.2];rfl⟩) (fun e w' h=>⟨v,h.1⟩) fun v' w' π' wa' O' hR hg hL hsz hsame _=>?_;obtain⟨e,hh⟩:=hR;injection e with e;subst e;rw[hv];have hgb:=h8.at10;exact hk O' wa' ⟨π',w',pp,gb,FG,st,pl,hg,hL,hsame pp (BlkAt.lt h6),hsame gb hgb.2,h5,(by show w'.heap[pp]?=_;rw[hh];exact h6),h7,h8.same hh,h9⟩
end
end
section
open Go.RowKit
open Go.Cr Go.Conc
open Go.Pm (Rely Perm Sup Ext Ev)
section
variable {n win P0 G0:Nat}{J:(Nat->Pst)->List Par->Prop}{L:List (Nat × Obj)}{O:Nat->Prop}{wa:World}
theorem Ms.make(h:Ms n win P0 G0 J L O wa)(ob:Obj):Ms n win P0 G0 J ((wa.heap.size,ob)::L) (fun b=>O b\/b=wa.heap.size) (wa.alloc ob):=by
 obtain⟨π,w,pp,gb,FG,st,pl,h1,h2,h3⟩:=h;have hold:∀b,b<wa.heap.size->(wa.alloc ob).heap[b]?=wa.heap[b]?:=fun b hb=>yQ _ _ _ hb;have hlt:∀r,r<w.heap.size->π.f r<wa.heap.size:=fun r hr=>h1.loose.sim.lt hr;have h10:7<=wa.heap.size:=h1.loose.lowa;refine⟨π,w,pp,gb,FG,st,pl,⟨⟨fun r o hl hr=>?_,h1.loose.ids,h1.loose.low,by have:=h1.loose.lowa;simp at this ⊢;omega,h1.loose.os,h1.loose.g,h1.loose.b⟩,h1.shut,h1.tab,qae h1.taba fun x hx=>hold x (by omega),fun r h8 hr=>.inl (h1.among r h8 hr)⟩,fun x hx=>?_,h3⟩
 ·rw[hold _ (hlt r (yk.1 hr).1)];exact h1.loose.obj r o hl hr
 ·rcases yF.1 hx with rfl|hx
  ·exact⟨.inr rfl,heap_alloc_new wa ob,fun r _ hr e=>by have:=hlt r hr;simp only at e;omega⟩
  ·obtain⟨z1,z2,z3⟩:=h2 x hx;exact⟨.inl z1,(hold _ (yk.1 z2).1).trans z2,z3⟩
theorem Ms.side(h:Ms n win P0 G0 J L O wa){bx:Nat}{cs:Array Value}{ty:TypeId}(hx:(bx,Obj.cells cs ty (0,0))∈L):O bx/\∀(j:Nat) (u:Value),cs[j]?=some u->wa.cell? (aT bx j)=some u:=by
 obtain⟨π,w,pp,gb,FG,st,pl,h1,h2,h3⟩:=h;obtain⟨z1,z2, -⟩:=h2 _ hx;exact⟨z1,fun j u hu=>BlkAt.cell (T:=ty) (cs:=cs) z2 j u hu⟩
theorem Ms.less(h:Ms n win P0 G0 J L O wa){L':List (Nat × Obj)}(hL:∀x∈L',x∈L):Ms n win P0 G0 J L' O wa:=by
 obtain⟨π,w,pp,gb,FG,st,pl,h1,h2,h3⟩:=h;exact⟨π,w,pp,gb,FG,st,pl,h1,fun x hx=>h2 x (hL x hx),h3⟩
end
theorem qdg{α:Type}{l:α}{L L':List α}(h:l∈L)(e:L=L'):l∈L':=e▸h
def vals21(bx P0 n:Nat)(b:Int):Nat->Value
 |0=>pT bx 2
 |1=>.int .i64 b
 |2=>pT P0 0
 |3=>pT P0 0
 |4=>pT P0 1
 |5=>pT P0 1
 |_=>.int .i64 n
def vals10(bx P0 G0 q:Nat)(t:ByteArray):Nat->Value
 |0=>pT P0 0
 |1=>pT P0 0
 |2=>pT P0 0
 |3=>pT G0 0
 |4=>.int .i64 q
 |5=>pT bx 4
 |6=>.string t
 |_=>.string (cutB t 16)
theorem qq{P:Program}{main:Bool}{K:Nat->Prop}{A:World->Prop}{X:Event->Prop}{Stop:(Nat->Prop)->Goroutine->World->Prop}{O:Nat->Prop}{w:World}{b:Frame}{a:Act}{todo:List Item}{c:Frame}{cs:List Frame}{fn:Func}{t:Nat}{v:Value}(hn:b.kind=.normal)(hd:a.defers=[])(hf:P.funcs[b.fn]?=some fn)(hr:fn.results=#[.tmp t])(hv:a.tmps.getD t undef=v)
 (h:Go.Pm.Way P main K A X Stop O (G (c.finish v) cs) w):Go.Pm.Way P main K A X Stop O (G { b.at a todo with mode:=.returning } (c::cs)) w:=
 qc rfl (fun w=>by rw[stepG_leave hn hd hf ((results_tmp hr _ P w).trans (by rw[hv])) (events_results_tmp hr _ _)]) h
abbrev qrg(kd a b c:Int)(t:ByteArray):Array Value:=#[.int .i64 kd,.int .i64 a,.int .i64 b,.int .i64 c,.string t]
section
variable {n win P0 G0:Nat}{J:(Nat->Pst)->List Par->Prop}{L:List (Nat × Obj)}{O K:Nat->Prop}{A:World->Prop}{X:Event->Prop}{Stop:(Nat->Prop)->Goroutine->World->Prop}{w wa:World}{main:Bool}{b:Frame}{a:Act}{k:List Item}{cs:List Frame}{ops:Array Oper}{i:Nat}{rest:List Nat}{o:Oper}
theorem wX(v:Value)(h:Go.Pm.Way prog main K A X Stop O (G (b.at (a.put o.dst v) (.inRegion ops rest::k)) cs) w)(ho:ops[i]?=some o:=by exact rfl)(hw:Region.wanted o (yielded ops a.tmps)=true:=by exact rfl)(hk:b.kind≠.early:=by decide)
 (hr:∀wB,Rely O K A w wB->(execOp a.eval o).run prog wB=.ok (.value v) wB/\∀e∈(execOp a.eval o).events prog wB #[],Go.Pm.Ev O K e:=by exact fun wB h₁=>by (obtain⟨sO,sc⟩:=Ms.side (Ms.rely ‹Ms _ _ _ _ _ _ _ _› ‹∀b,b<2->_› h₁) (yY ..);have d0:=sc 0 _ rfl;have d1:=sc 1 _ rfl;have d2:=sc 2 _ rfl;have d3:=sc 3 _ rfl;have d4:=sc 4 _ rfl;simp only[yf,yd,ye] at d0 d1 d2 d3 d4;exact⟨by go_simp,by (simp[go_sem, *];first|exact .inl sO|exact⟨.inl sO,.inl sO,.inl sO,.inl sO,.inl sO⟩)⟩)):Go.Pm.Way prog main K A X Stop O (G (b.at a (.inRegion ops (i::rest)::k)) cs) w:=qb ho hw hk hr h
theorem wP(v:Value)(h:Go.Pm.Way prog main K A X Stop O (G (b.at (a.put o.dst v) (.inRegion ops rest::k)) cs) w)(ho:ops[i]?=some o:=by exact rfl)(hw:Region.wanted o (yielded ops a.tmps)=true:=by exact rfl)(hk:b.kind≠.early:=by decide)
 (hr:∀wB,Rely O K A w wB->(execOp a.eval o).run prog wB=.ok (.value v) wB/\∀e∈(execOp a.eval o).events prog wB #[],Go.Pm.Ev O K e:=by exact fun wB h₁=>by (obtain⟨sP,c0,c1,c4,c10⟩:=Ms.cells (Ms.rely ‹Ms _ _ _ _ _ _ _ _› ‹∀b,b<2->_› h₁);exact⟨by go_simp,by (simp[go_sem, *];exact .inl sP)⟩)):Go.Pm.Way prog main K A X Stop O (G (b.at a (.inRegion ops (i::rest)::k)) cs) w:=qb ho hw hk hr h
theorem Ms.net(hn:1<=n/\n<=6)(h:Ms n win P0 G0 (Jn n) L O wa)(hK:∀b,b<2->K b)(kd a b c:Int)(t:ByteArray)(ha:I64 a)(hb:I64 b)(hc:I64 c){cf:Frame}{rest:List Frame}
 (hk:∀O' wa',Ms n win P0 G0 (Jn n) L O' wa'->Go.Pm.Way prog true K A X Stop O' (G (cf.finish (.bool true)) rest) wa') :
 Go.Pm.Way prog true K A X Stop O (G (Frame.enter prog 57 #[pT P0 0,.agg (qrg kd a b c t)] .normal) (cf::rest)) wa:=by
 refine Ms.call h hK (f:=57) rfl rfl false (args:=[.agg (qrg kd a b c t)]) (by simp) (Q:=fun v st pl=>v=.bool true/\Jn n st pl) (fun w pp gb FG st pl h1 h2 h3 h4=>(qbt (Jn.jok hn.2) hn.2 pp h1 h2 h3 h4 kd a b c t ha hb hc).mono fun e w' h=>⟨_,h.1,by simp,h.2.imp fun st' h=>h.imp fun pl' h=>⟨h.1,rfl,h.2⟩⟩) fun v O5 w5 hI5=>?_;obtain rfl:v=.bool true:=by
  obtain⟨_,_,_,_,_,_,_,_,_,_,_,_,_,_,_,h,_⟩:=hI5;exact h
 exact hk O5 w5 (hI5.imp fun _ _ h=>h.2)
end
def vals1(bx P0 n:Nat)(a:Int):Nat->Value
 |0=>pT bx 1
 |1=>.int .i64 a
 |2=>pT P0 0
 |3=>pT P0 0
 |4=>pT P0 1
 |5=>pT P0 1
 |_=>.int .i64 n
variable {n win P0 G0:Nat}{L:List (Nat × Obj)}{O K:Nat->Prop}{A:World->Prop}{X:Event->Prop}{Stop:(Nat->Prop)->Goroutine->World->Prop}{wa:World}
theorem qqz(hn:1<=n/\n<=6)(hA:∀w d,A w->A (w.at d))(hK:∀b,b<2->K b)(h:Ms n win P0 G0 (Jn n) L O wa)(kd a b c:Int)(t:ByteArray)(ha:I64 a)(hb:I64 b)(hc:I64 c)(hk4:kd≠4)(hk10:kd≠10){cf:Frame}{rest:List Frame}
 (hk:∀O' wa',Ms n win P0 G0 (Jn n) L O' wa'->Go.Pm.Way prog true K A X Stop O' (G (cf.finish (.bool true)) rest) wa') :
 Go.Pm.Way prog true K A X Stop O (G (Frame.enter prog 27 #[pT P0 0,.agg #[.int .i64 kd,.int .i64 a,.int .i64 b,.int .i64 c,.string t]] .normal) (cf::rest)) wa:=by
 rw[enter_at _ Tryz.func27 rfl];simp only[Tryz.f27];walk_nrm;refine wN ?_;refine wR ?_;refine qbz (f:=fun _=>.cells (qrg kd a b c t) 51) rfl rfl (by decide) (fun wC h₂=>⟨by go_simp,by simp[go_sem, *]⟩) fun wC h₂=>?_;walk_nrm;have hM:=(h.rely hK h₂).make (.cells (qrg kd a b c t) 51);obtain⟨bx,hbx⟩:∃bx,bx=wC.heap.size:=⟨_,rfl⟩;rw[<-hbx] at hM ⊢;generalize wC.alloc (.cells (qrg kd a b c t) 51)=w3 at hM ⊢;generalize (fun b=>O b\/b=bx)=O3 at hM ⊢;clear h h₂ hbx;refine wV (.bool false) ?_;walk_nrm;refine wN ?_;refine wN ?_;refine qcj mixed rfl hA ?_;refine qew (m:=7) (vals:=vals1 bx P0 n a) (I:=fun O w=>Ms n win P0 G0 (Jn n) ((bx,Obj.cells (qrg kd a b c t) 51)::L) O w) (by kernel_rfl) ?_ ?_ O3 w3 hM
 ·intro i hi a' rest' O' w' hd ho hI hgo;obtain⟨sO,sc⟩:=hI.side (yY ..);obtain⟨sP, -⟩:=hI.cells;match i,hi with
  | 0, _ =>
    have e3:a'.tmps[3]?=some (pT bx 0):=(ho 3 (by decide)).trans (by simp);exact qb (v:=pT bx 1) rfl rfl (by decide) (fun wB h₁=>⟨by simp[go_sem,Array.getD_eq_getD_getElem?,e3],by simp[go_sem,Array.getD_eq_getD_getElem?,e3]⟩) (hgo O' w' hI)
  | 1, _ =>
    have e14:a'.tmps[14]?=some (pT bx 1):=hd 0 (by decide) 14 rfl;refine qb (v:=.int .i64 a) rfl rfl (by decide) (fun wB h₁=>?_) (hgo O' w' hI);have c1:wB.cell? (aT bx 1)=some (.int .i64 a):=((hI.rely hK h₁).side (yY ..)).2 1 _ rfl;exact⟨by simp[go_sem,Array.getD_eq_getD_getElem?,e14,c1],by simp[go_sem,Array.getD_eq_getD_getElem?,e14,c1];exact .inl sO⟩
  | 2, _ =>
    have e0:a'.tmps[0]?=some (pT P0 0):=(ho 0 (by decide)).trans (by simp);exact qb (v:=pT P0 0) rfl rfl (by decide) (fun wB h₁=>⟨by simp[go_sem,Array.getD_eq_getD_getElem?,e0],by simp[go_sem,Array.getD_eq_getD_getElem?,e0]⟩) (hgo O' w' hI)
  | 3, _ =>
    have e16:a'.tmps[16]?=some (pT P0 0):=hd 2 (by decide) 16 rfl;exact qb (v:=pT P0 0) rfl rfl (by decide) (fun wB h₁=>⟨by simp[go_sem,Array.getD_eq_getD_getElem?,e16],by simp[go_sem,Array.getD_eq_getD_getElem?,e16]⟩) (hgo O' w' hI)
  | 4, _ =>
    have e17:a'.tmps[17]?=some (pT P0 0):=hd 3 (by decide) 17 rfl;exact qb (v:=pT P0 1) rfl rfl (by decide) (fun wB h₁=>⟨by simp[go_sem,Array.getD_eq_getD_getElem?,e17],by simp[go_sem,Array.getD_eq_getD_getElem?,e17]⟩) (hgo O' w' hI)
  | 5, _ =>
    have e18:a'.tmps[18]?=some (pT P0 1):=hd 4 (by decide) 18 rfl;exact qb (v:=pT P0 1) rfl rfl (by decide) (fun wB h₁=>⟨by simp[go_sem,Array.getD_eq_getD_getElem?,e18],by simp[go_sem,Array.getD_eq_getD_getElem?,e18]⟩) (hgo O' w' hI)
  | 6, _ =>
    have e19:a'.tmps[19]?=some (pT P0 1):=hd 5 (by decide) 19 rfl;refine qb (v:=.int .i64 n) rfl rfl (by decide) (fun wB h₁=>?_) (hgo O' w' hI);obtain⟨-, -,c1, -⟩:=(hI.rely hK h₁).cells;exact⟨by simp[go_sem,Array.getD_eq_getD_getElem?,e19,c1],by simp[go_sem,Array.getD_eq_getD_getElem?,e19,c1];exact .inl sP⟩
 ·intro O' w' hI l hl;have hl':=qdg (L':=[[7,8]]) hl (by kernel_rfl);rw[yu] at hl';subst hl';simp only[finA,List.range,List.range.loop,List.foldl,dstOf,vals1];walk_nrm;have hp:=qb4 a n;refine wA Tryz.f34 ?_;walk_nrm;refine Ms.plain hI hK (f:=34) (args:=[.int .i64 a,.int .i64 n]) (v:=.int .i64 (pickN a n)) rfl rfl (by simp) (by simp) (fun w=>hp w ha hn.1 (by omega)) fun O4 w4 hI4=>?_;have hq:=qam a hn.1;generalize pickN a n=q at hq ⊢;clear hI hp hM;rw[yG];walk_nrm;generalize hl2:(bx,Obj.cells (qrg kd a b c t) 51)::L=L2 at hI4;have hI:=hI4;clear hI4;subst hl2;refine wV (.int .i64 q) ?_;walk_nrm;repeat refine wN ?_
  refine wR ?_;refine wV (pT bx 0) ?_;walk_nrm;refine wX (.int .i64 kd) ?_;walk_nrm;repeat refine wN ?_
  refine wR ?_;by_cases h5:kd=5
  ·subst h5;iterate 2 (refine wV (.bool true) ?_;walk_nrm)
   iterate 2 ((repeat refine wN ?_);refine wT ?_)
   repeat refine wN ?_
   refine wR ?_;refine wV (pT P0 0) ?_;walk_nrm;refine wX (.agg (qrg 5 a b c t)) ?_;walk_nrm;refine wA Tryz.f57 ?_;walk_nrm;refine Ms.net hn hI hK 5 a b c t ha hb hc fun O5 w5 hI5=>?_;rw[yG];walk_nrm;refine wV (.bool true) ?_;walk_nrm;repeat refine wN ?_
   refine qc rfl (fun _=>stepG_ret') ?_;exact qq rfl rfl rfl rfl rfl (hk O5 w5 (hI5.less fun x hx=>y6 _ hx))
  iterate 2 (refine wV (.bool false) ?_;walk_nrm)
  repeat refine wN ?_
  refine wF ?_;repeat refine wN ?_
  refine wR ?_;by_cases h6:kd=6
  ·subst h6;iterate 2 (refine wV (.bool true) ?_;walk_nrm)
   iterate 2 ((repeat refine wN ?_);refine wT ?_)
   repeat refine wN ?_
   refine wR ?_;refine wV (pT P0 0) ?_;walk_nrm;refine wX (.agg (qrg 6 a b c t)) ?_;walk_nrm;refine wA Tryz.f57 ?_;walk_nrm;refine Ms.net hn hI hK 6 a b c t ha hb hc fun O5 w5 hI5=>?_;rw[yG];walk_nrm;refine wV (.bool true) ?_;walk_nrm;repeat refine wN ?_
   refine qc rfl (fun _=>stepG_ret') ?_;exact qq rfl rfl rfl rfl rfl (hk O5 w5 (hI5.less fun x hx=>y6 _ hx))
  iterate 2 (refine wV (.bool false) ?_;walk_nrm)
  repeat refine wN ?_
  refine wF ?_;repeat refine wN ?_
  refine wR ?_;by_cases h7:kd=7
  ·subst h7;iterate 2 (refine wV (.bool true) ?_;walk_nrm)
   iterate 2 ((repeat refine wN ?_);refine wT ?_)
   repeat refine wN ?_
   refine wR ?_;refine wV (pT P0 0) ?_;walk_nrm;refine wX (.agg (qrg 7 a b c t)) ?_;walk_nrm;refine wA Tryz.f57 ?_;walk_nrm;refine Ms.net hn hI hK 7 a b c t ha hb hc fun O5 w5 hI5=>?_;rw[yG];walk_nrm;refine wV (.bool true) ?_;walk_nrm;repeat refine wN ?_
   refine qc rfl (fun _=>stepG_ret') ?_;exact qq rfl rfl rfl rfl rfl (hk O5 w5 (hI5.less fun x hx=>y6 _ hx))
  iterate 2 (refine wV (.bool false) ?_;walk_nrm)
  repeat refine wN ?_
  refine wF ?_;repeat refine wN ?_
  refine wR ?_;by_cases h8:kd=8
  ·subst h8;iterate 2 (refine wV (.bool true) ?_;walk_nrm)
   iterate 2 ((repeat refine wN ?_);refine wT ?_)
   repeat refine wN ?_
   refine wR ?_;refine wV (pT P0 0) ?_;walk_nrm;refine wX (.agg (qrg 8 a b c t)) ?_;walk_nrm;refine wA Tryz.f57 ?_;walk_nrm;refine Ms.net hn hI hK 8 a b c t ha hb hc fun O5 w5 hI5=>?_;rw[yG];walk_nrm;refine wV (.bool true) ?_;walk_nrm;repeat refine wN ?_
   refine qc rfl (fun _=>stepG_ret') ?_;exact qq rfl rfl rfl rfl rfl (hk O5 w5 (hI5.less fun x hx=>y6 _ hx))
  iterate 2 (refine wV (.bool false) ?_;walk_nrm)
  repeat refine wN ?_
  refine wF ?_;repeat refine wN ?_
  refine wR ?_;by_cases h9:kd=9
  ·subst h9;iterate 2 (refine wV (.bool true) ?_;walk_nrm)
   repeat refine wN ?_
   refine wT ?_;repeat refine wN ?_
   refine wR ?_;refine wV (pT P0 0) ?_;walk_nrm;refine wX (.agg (qrg 9 a b c t)) ?_;walk_nrm;refine wA Tryz.f57 ?_;walk_nrm;refine Ms.net hn hI hK 9 a b c t ha hb hc fun O5 w5 hI5=>?_;rw[yG];walk_nrm;refine wV (.bool true) ?_;walk_nrm;repeat refine wN ?_
   refine qc rfl (fun _=>stepG_ret') ?_;exact qq rfl rfl rfl rfl rfl (hk O5 w5 (hI5.less fun x hx=>y6 _ hx))
  iterate 2 (refine wV (.bool false) ?_;walk_nrm)
  repeat refine wN ?_
  refine wF ?_;repeat refine wN ?_
  refine wR ?_;by_cases hc1:kd=1
  ·subst hc1;iterate 2 (refine wV (.bool true) ?_;walk_nrm)
   repeat refine wN ?_
   refine wT ?_;repeat refine wN ?_
   refine qcj mixed rfl hA ?_;refine qew (m:=8) (vals:=vals10 bx P0 G0 q t) (I:=fun O w=>Ms n win P0 G0 (Jn n) ((bx,Obj.cells (qrg 1 a b c t) 51)::L) O w) (by kernel_rfl) ?_ ?_ _ _ hI
   ·intro i hi a' rest' O' w' hd ho hI hgo;obtain⟨sO,sc⟩:=hI.side (yY ..);obtain⟨sP, -⟩:=hI.cells;match i,hi with
    | 0, _ =>
      have e0:a'.tmps[0]?=some (pT P0 0):=(ho 0 (by decide)).trans (by simp);exact qb (v:=pT P0 0) rfl rfl (by decide) (fun wB h₁=>⟨by simp[go_sem,Array.getD_eq_getD_getElem?,e0],by simp[go_sem,Array.getD_eq_getD_getElem?,e0]⟩) (hgo O' w' hI)
    | 1, _ =>
      have e0:a'.tmps[35]?=some (pT P0 0):=hd 0 (by decide) 35 rfl;exact qb (v:=pT P0 0) rfl rfl (by decide) (fun wB h₁=>⟨by simp[go_sem,Array.getD_eq_getD_getElem?,e0],by simp[go_sem,Array.getD_eq_getD_getElem?,e0]⟩) (hgo O' w' hI)
    | 2, _ =>
      have e0:a'.tmps[36]?=some (pT P0 0):=hd 1 (by decide) 36 rfl;exact qb (v:=pT P0 0) rfl rfl (by decide) (fun wB h₁=>⟨by simp[go_sem,Array.getD_eq_getD_getElem?,e0],by simp[go_sem,Array.getD_eq_getD_getElem?,e0]⟩) (hgo O' w' hI)
    | 3, _ =>
      have e0:a'.tmps[37]?=some (pT P0 0):=hd 2 (by decide) 37 rfl;refine qb (v:=pT G0 0) rfl rfl (by decide) (fun wB h₁=>?_) (hgo O' w' hI);obtain⟨-,c1, -⟩:=(hI.rely hK h₁).cells;exact⟨by simp[go_sem,Array.getD_eq_getD_getElem?,e0,c1],by simp[go_sem,Array.getD_eq_getD_getElem?,e0,c1];exact .inl sP⟩
    | 4, _ =>
      have e0:a'.tmps[5]?=some (.int .i64 q):=(ho 5 (by decide)).trans (by simp);exact qb (v:=.int .i64 q) rfl rfl (by decide) (fun wB h₁=>⟨by simp[go_sem,Array.getD_eq_getD_getElem?,e0],by simp[go_sem,Array.getD_eq_getD_getElem?,e0]⟩) (hgo O' w' hI)
    | 5, _ =>
      have e0:a'.tmps[3]?=some (pT bx 0):=(ho 3 (by decide)).trans (by simp);exact qb (v:=pT bx 4) rfl rfl (by decide) (fun wB h₁=>⟨by simp[go_sem,Array.getD_eq_getD_getElem?,e0],by simp[go_sem,Array.getD_eq_getD_getElem?,e0]⟩) (hgo O' w' hI)
    | 6, _ =>
      have e0:a'.tmps[40]?=some (pT bx 4):=hd 5 (by decide) 40 rfl;refine qb (v:=.string t) rfl rfl (by decide) (fun wB h₁=>?_) (hgo O' w' hI);have c1:wB.cell? (aT bx 4)=some (.string t):=((hI.rely hK h₁).side (yY ..)).2 4 _ rfl;exact⟨by simp[go_sem,Array.getD_eq_getD_getElem?,e0,c1],by simp[go_sem,Array.getD_eq_getD_getElem?,e0,c1];exact .inl sO⟩
    | 7, _ =>
      have e0:a'.tmps[41]?=some (.string t):=hd 6 (by decide) 41 rfl;refine wA Tryz.f58 ?_;have ea:(#[Operand.tmp 41,Operand.const (Value.int .i64 16)].map a'.eval)=[Value.string t,.int .i64 16].toArray:=by simp[Act.eval,Array.getD_eq_getD_getElem?,e0]
      rw[ea];exact Ms.plain hI hK (f:=58) (args:=[.string t,.int .i64 16]) (v:=.string (cutB t 16)) rfl rfl (by simp) (by simp) (fun w=>qrb t 16 w) fun O5 w5 hI5=>by
       rw[yG];exact hgo O5 w5 hI5
   ·intro O' w' hI l hl;have hl':=qdg (L':=[[8,9]]) hl (by kernel_rfl);rw[yu] at hl';subst hl';clear hl;simp only[finA,List.range,List.range.loop,List.foldl,dstOf,vals10];walk_nrm;have hts:=qnu t 16;generalize cutB t 16=t2 at hts ⊢;refine wA Tryz.f56 ?_;walk_nrm;refine Ms.call hI hK (f:=56) rfl rfl true (args:=[.int .i64 q,.string t2]) (by simp) (Q:=fun v st pl=>(v=.int .i64 0\/v=.int .i64 9\/v=.int .i64 10)/\Jn n st pl) (fun w pp gb FG st pl h1 h2 h3 h4=>(qpc hn.2 h3 hq (yr ((Jn.jok hn.2).len h4) (by omega)) t2 hts (h4.hno hq win t2) (h4.hlow hq)).mono fun e w' h=>?_) fun v O5 w5 hI5=>?_
    ·rcases h with ⟨rfl|rfl,h⟩|⟨rfl,hm,h⟩
     ·exact⟨_,rfl,by simp,st,pl,h,by simp,h4⟩
     ·exact⟨_,rfl,by simp,st,pl,h,by simp,h4⟩
     ·exact⟨_,rfl,by simp,_,_,h,by simp,h4.cast hn.2 hq hm (qd5 q n win t2 (st q))⟩
    ·have hv:v=.int .i64 0\/v=.int .i64 9\/v=.int .i64 10:=by
      obtain⟨_,_,_,_,_,_,_,_,_,_,_,_,_,_,_,h,_⟩:=hI5
      exact h
     rw[yG];walk_nrm
     have hI6:=(hI5.imp fun _ _ h=>h.2).less (L':=L) fun x hx=>y6 _ hx;clear hI hI5;rcases hv with rfl|rfl|rfl
     ·repeat first|(refine qr rfl rfl ?_;walk_nrm)|(refine qb rfl rfl (by decide) (fun wB h₁=>⟨by (go_simp;(try with_reducible rfl)),by simp[go_sem, *]⟩) ?_;walk_nrm)
      repeat refine wN ?_
      refine wR ?_;repeat first|(refine qr rfl rfl ?_;walk_nrm)|(refine qb rfl rfl (by decide) (fun wB h₁=>⟨by (go_simp;(try with_reducible rfl)),by simp[go_sem, *]⟩) ?_;walk_nrm)
      repeat refine wN ?_
      refine qc rfl (fun _=>stepG_ret') ?_;exact qq rfl rfl rfl rfl rfl (hk O5 w5 hI6)
     ·repeat first|(refine qr rfl rfl ?_;walk_nrm)|(refine qb rfl rfl (by decide) (fun wB h₁=>⟨by (go_simp;(try with_reducible rfl)),by simp[go_sem, *]⟩) ?_;walk_nrm)
      repeat refine wN ?_
      refine wR ?_;repeat first|(refine qr rfl rfl ?_;walk_nrm)|(refine qb rfl rfl (by decide) (fun wB h₁=>⟨by (go_simp;(try with_reducible rfl)),by simp[go_sem, *]⟩) ?_;walk_nrm)
      repeat refine wN ?_
      refine qc rfl (fun _=>stepG_ret') ?_
      exact qq rfl rfl rfl rfl rfl (hk O5 w5 hI6)
     ·repeat first|(refine qr rfl rfl ?_;walk_nrm)|(refine qb rfl rfl (by decide) (fun wB h₁=>⟨by (go_simp;(try with_reducible rfl)),by simp[go_sem, *]⟩) ?_;walk_nrm)
      repeat refine wN ?_
      refine wR ?_;repeat first|(refine qr rfl rfl ?_;walk_nrm)|(refine qb rfl rfl (by decide) (fun wB h₁=>⟨by (go_simp;(try with_reducible rfl)),by simp[go_sem, *]⟩) ?_;walk_nrm)
      repeat refine wN ?_
      refine qc rfl (fun _=>stepG_ret') ?_;exact qq rfl rfl rfl rfl rfl (hk O5 w5 hI6)
  iterate 2 (refine wV (.bool false) ?_;walk_nrm)
  repeat refine wN ?_
  refine wF ?_;repeat refine wN ?_
  refine wR ?_;by_cases hc2:kd=2
  ·subst hc2;iterate 2 (refine wV (.bool true) ?_;walk_nrm)
   repeat refine wN ?_
   refine wT ?_;repeat refine wN ?_
   refine wR ?_;iterate 3 (refine wV (pT P0 0) ?_;walk_nrm)
   refine wP (pT G0 0) ?_;walk_nrm;refine wV (.int .i64 q) ?_;walk_nrm;refine wA Tryz.f40 ?_;walk_nrm;refine Ms.call hI hK (f:=40) rfl rfl true (args:=[.int .i64 q]) (by simp) (Q:=fun v st pl=>v=.int .i64 0/\Jn n st pl) (fun w pp gb FG st pl h1 h2 h3 h4=>(qo9 hn.2 h3 hq (yr ((Jn.jok hn.2).len h4) (by omega))).mono fun e w' h=>?_) fun v O5 w5 hI5=>?_
   ·obtain⟨rfl,out,hgs,ho⟩:=h;exact⟨_,rfl,by simp,_,_,hgs,rfl,h4.tick hq ho⟩
   ·obtain rfl:v=.int .i64 0:=by
     obtain⟨_,_,_,_,_,_,_,_,_,_,_,_,_,_,_,h,_⟩:=hI5;exact h
    rw[yG];walk_nrm;have hI6:=(hI5.imp fun _ _ h=>h.2).less (L':=L) fun x hx=>y6 _ hx;clear hI hI5;repeat first|(refine qr rfl rfl ?_;walk_nrm)|(refine qb rfl rfl (by decide) (fun wB h₁=>⟨by (go_simp;(try with_reducible rfl)),by simp[go_sem, *]⟩) ?_;walk_nrm)
    repeat refine wN ?_
    refine wR ?_;repeat first|(refine qr rfl rfl ?_;walk_nrm)|(refine qb rfl rfl (by decide) (fun wB h₁=>⟨by (go_simp;(try with_reducible rfl)),by simp[go_sem, *]⟩) ?_;walk_nrm)
    repeat refine wN ?_
    refine qc rfl (fun _=>stepG_ret') ?_;exact qq rfl rfl rfl rfl rfl (hk O5 w5 hI6)
  iterate 2 (refine wV (.bool false) ?_;walk_nrm;refine wV (.bool false) ?_;walk_nrm;(repeat refine wN ?_);refine wF ?_;(repeat refine wN ?_);refine wR ?_)
  by_cases hc3:kd=3
  ·subst hc3;iterate 2 (refine wV (.bool true) ?_;walk_nrm)
   repeat refine wN ?_
   refine wT ?_;repeat refine wN ?_
   refine qcj mixed rfl hA ?_;refine qew (m:=7) (vals:=vals21 bx P0 n b) (I:=fun O w=>Ms n win P0 G0 (Jn n) ((bx,Obj.cells (qrg 3 a b c t) 51)::L) O w) (by kernel_rfl) ?_ ?_ _ _ hI
   ·intro i hi a' rest' O' w' hd ho hI hgo;obtain⟨sO,sc⟩:=hI.side (yY ..);obtain⟨sP, -⟩:=hI.cells;match i,hi with
    | 0, _ =>
      have e3:a'.tmps[3]?=some (pT bx 0):=(ho 3 (by decide)).trans (by simp);exact qb (v:=pT bx 2) rfl rfl (by decide) (fun wB h₁=>⟨by simp[go_sem,Array.getD_eq_getD_getElem?,e3],by simp[go_sem,Array.getD_eq_getD_getElem?,e3]⟩) (hgo O' w' hI)
    | 1, _ =>
      have e14:a'.tmps[148]?=some (pT bx 2):=hd 0 (by decide) 148 rfl;refine qb (v:=.int .i64 b) rfl rfl (by decide) (fun wB h₁=>?_) (hgo O' w' hI);have c1:wB.cell? (aT bx 2)=some (.int .i64 b):=((hI.rely hK h₁).side (yY ..)).2 2 _ rfl;exact⟨by simp[go_sem,Array.getD_eq_getD_getElem?,e14,c1],by simp[go_sem,Array.getD_eq_getD_getElem?,e14,c1];exact .inl sO⟩
    | 2, _ =>
      have e0:a'.tmps[0]?=some (pT P0 0):=(ho 0 (by decide)).trans (by simp);exact qb (v:=pT P0 0) rfl rfl (by decide) (fun wB h₁=>⟨by simp[go_sem,Array.getD_eq_getD_getElem?,e0],by simp[go_sem,Array.getD_eq_getD_getElem?,e0]⟩) (hgo O' w' hI)
    | 3, _ =>
      have e16:a'.tmps[150]?=some (pT P0 0):=hd 2 (by decide) 150 rfl;exact qb (v:=pT P0 0) rfl rfl (by decide) (fun wB h₁=>⟨by simp[go_sem,Array.getD_eq_getD_getElem?,e16],by simp[go_sem,Array.getD_eq_getD_getElem?,e16]⟩) (hgo O' w' hI)
    | 4, _ =>
      have e17:a'.tmps[151]?=some (pT P0 0):=hd 3 (by decide) 151 rfl;exact qb (v:=pT P0 1) rfl rfl (by decide) (fun wB h₁=>⟨by simp[go_sem,Array.getD_eq_getD_getElem?,e17],by simp[go_sem,Array.getD_eq_getD_getElem?,e17]⟩) (hgo O' w' hI)
    | 5, _ =>
      have e18:a'.tmps[152]?=some (pT P0 1):=hd 4 (by decide) 152 rfl;exact qb (v:=pT P0 1) rfl rfl (by decide) (fun wB h₁=>⟨by simp[go_sem,Array.getD_eq_getD_getElem?,e18],by simp[go_sem,Array.getD_eq_getD_getElem?,e18]⟩) (hgo O' w' hI)
    | 6, _ =>
      have e19:a'.tmps[153]?=some (pT P0 1):=hd 5 (by decide) 153 rfl;refine qb (v:=.int .i64 n) rfl rfl (by decide) (fun wB h₁=>?_) (hgo O' w' hI);obtain⟨-, -,c1, -⟩:=(hI.rely hK h₁).cells;exact⟨by simp[go_sem,Array.getD_eq_getD_getElem?,e19,c1],by simp[go_sem,Array.getD_eq_getD_getElem?,e19,c1];exact .inl sP⟩
   ·intro O' w' hI l hl;have hl':=qdg (L':=[[7,8]]) hl (by kernel_rfl);rw[yu] at hl';subst hl';clear hl;simp only[finA,List.range,List.range.loop,List.foldl,dstOf,vals21];walk_nrm;have hp:=qb4 b n;refine wA Tryz.f34 ?_;walk_nrm;refine Ms.plain hI hK (f:=34) (args:=[.int .i64 b,.int .i64 n]) (v:=.int .i64 (pickN b n)) rfl rfl (by simp) (by simp) (fun w=>hp w hb hn.1 (by omega)) fun O4 w4 hI4=>?_;have hr:=qam b hn.1;generalize pickN b n=r at hr ⊢;have hr0:(0:Int)<=(r:Int):=by omega
    have hr6:(r:Int)<6:=by omega
    clear hI hp;rw[yG];walk_nrm;have hI:=hI4;clear hI4;refine wV (.int .i64 r) ?_;walk_nrm;repeat refine wN ?_
    refine wR ?_;iterate 2 (refine wV (pT P0 0) ?_;walk_nrm)
    refine wV (pT P0 10) ?_;walk_nrm;refine wP (.bool true) ?_;walk_nrm;refine wV (.bool true) ?_;walk_nrm;refine wV (pT P0 0) ?_;walk_nrm;refine wV (.int .i64 r) ?_;walk_nrm;refine wV (pT P0 0) ?_;walk_nrm;refine wV (pT P0 4) ?_;walk_nrm;refine qb (v:=.pointer (some ⟨P0,4+r,none⟩)) rfl rfl (by decide) (fun wB h₁=>⟨by go_simp,by simp[go_sem,events_indexAt_array 42 4 6 ⟨P0,4,none⟩ .i64 (r:Int) Tryz.underlying42 ⟨hr0,hr6⟩]⟩) ?_;walk_nrm;refine qb (v:=.bool false) rfl rfl (by decide) (fun wB h₁=>?_) ?_
    ·obtain⟨sP, -, -,c4, -⟩:=(hI.rely hK h₁).cells;have c5:=c4 r (by omega);exact⟨by go_simp,by simp[go_sem, *];exact .inl sP⟩
    iterate 2 (walk_nrm;refine wV (.bool true) ?_)
    walk_nrm;repeat refine wN ?_
    refine wT ?_
    repeat refine wN ?_
    refine wR ?_;refine wV (.bool true) ?_
    walk_nrm;repeat refine wN ?_
    refine qc rfl (fun _=>stepG_ret') ?_;exact qq rfl rfl rfl rfl rfl (hk _ _ (hI.less fun x hx=>y6 _ hx))
  iterate 2 (refine wV (.bool false) ?_;walk_nrm;refine wV (.bool false) ?_;walk_nrm;(repeat refine wN ?_);refine wF ?_;(repeat refine wN ?_);refine wR ?_)
  refine wV (.bool true) ?_;walk_nrm;repeat refine wN ?_
  refine qc rfl (fun _=>stepG_ret') ?_;exact qq rfl rfl rfl rfl rfl (hk _ _ (hI.less fun x hx=>y6 _ hx))
end
end Go.Proofs.YtoklolfaemhfnaaGreatDoor
namespace Go.Proofs.YtoklolfaemhfnaaGreatDoor
section
open Go.RowKit
open Go.Pm (Perm SupO FixS Loose obj_comp loose_live)
open Go.Cr (fam Tabs)
structure GB (w:World) (gb pb n win lim:Nat) (bl:Nat->Nat) (Fp:Nat->Nat->Prop) (Fn:Nat->Prop) (st:Nat->Pst) (snt:Nat->List Par) (pl:List Par) (nv:Value):Prop where
 net:NetA w Fn gb (sT pb n n) lim pl nv
 ptr:BlkAt w pb 102 ((List.range n).map fun i=>Value.pointer (some ⟨bl i,0,none⟩)).toArray
 proc:∀i,i<n->PX w (Fp i) (bl i) (qre i n win) (st i).kn (st i).ms (st i).evs (snt i)
 ok:∀i,i<n->Ok (qre i n win) (st i).kn (st i).ms (st i).evs/\∀m∈(st i).ms,Codec.msgFits m=true
 dis:∀i j x,i<n->j<n->Fp i x->Fp j x->i=j
 disn:∀i x,i<n->Fp i x->¬Fn x
 disg:∀i,i<n->¬Fp i gb/\¬Fp i pb
 ng:¬Fn gb/\¬Fn pb
 gp:gb≠pb
 bp:∀i x,i<n->Fp i x->x<w.heap.size
 bn:∀x,Fn x->x<w.heap.size
 cl:∀i,i<n->Cl w (Fp i)
 lg:7<=gb/\7<=pb
 ln:∀x,Fn x->7<=x
section
variable {w w':World}{gb pb n win lim:Nat}{bl:Nat->Nat}{Fp:Nat->Nat->Prop}{Fn:Nat->Prop}{st:Nat->Pst}{snt:Nat->List Par}{pl:List Par}{nv:Value}
theorem GB.ga(g:GB w gb pb n win lim bl Fp Fn st snt pl nv)(h:∀i,i<n->snt i=[]):GA w gb pb n win lim bl Fp Fn st pl nv:=
 ⟨g.net,g.ptr,fun i hi=>by have:=g.proc i hi;rwa [h i hi] at this,g.ok,g.dis,g.disn,g.disg,g.ng,g.gp,g.bp,g.bn,g.cl,g.lg,g.ln⟩
theorem GB.same(g:GB w gb pb n win lim bl Fp Fn st snt pl nv)(h:w'.heap=w.heap):GB w' gb pb n win lim bl Fp Fn st snt pl nv:=by
 have hb:∀x:Nat,w'.heap[x]?=w.heap[x]?:=fun x=>by rw[h]
 exact⟨⟨(hb gb).trans g.net.blk,g.net.row.kept fun x _=>hb x⟩,(hb pb).trans g.ptr,fun i hi=>(g.proc i hi).kept fun x _ _=>hb x,g.ok,g.dis,g.disn,g.disg,g.ng,g.gp,fun i x hi hx=>by rw[h];exact g.bp i x hi hx,fun x hx=>by rw[h];exact g.bn x hx,fun i hi=>(g.cl i hi).kept (fun x _=>hb x) (fun x _=>hb x) (by rw[h];exact yb _),g.lg,g.ln⟩
theorem GB.carry(g:GB w gb pb n win lim bl Fp Fn st snt pl nv){i:Nat}(hi:i<n)(hl:pl.length+(snt i).length<=1000000) :
 Calls Tryz.prog 62 #[pT gb 0,.pointer (some ⟨bl i,0,none⟩)] w fun e w2=>e=.returned (.tuple #[])/\Chg (Whl gb pb n Fp Fn) w w2/\∃Fn' nv',GB w2 gb pb n win lim bl Fp Fn' st (fun j=>if j=i then [] else snt j) (sentAll lim pl (snt i)) nv'/\∀x,Fn' x->Plus Fn w x:=by
 obtain⟨l,hlm,kb,mb,rbs,es,clk,ev,sv,p⟩:=g.proc i hi;refine(qkw p g.net (fun x hx=>g.disn i x hi hx) (g.disg i hi).1 hl).mono ?_;rintro e w2 ⟨rfl,hch,⟨ev2,sv2,p2⟩,nv2,hn2⟩;have hs2:=hch.size;have hcl:=g.cl i hi;have hbl:∀j x,j<n->j≠i->Fp j x->x≠bl i:=fun j x hj hne hx e=>hne (g.dis j i x hj hi hx (e▸p.fb));have far:∀x,x<w.heap.size->x≠bl i->¬Fn x->x≠gb->w2.heap[x]?=w.heap[x]?:=fun x hx h2 h3 h4=>hch.block x hx fun e=>by
  rcases e with e|e|e
  ·exact h2 e
  ·exact h3 e
  ·exact h4 e
 have hlo:∀x,x<7->w2.heap[x]?=w.heap[x]?:=fun x hx=>far x (yg hx hcl.low) (fun e=>by have:=(hcl.obj _ p.fb).1;omega) (fun e=>by have:=g.ln x e;omega) (fun e=>by have:=g.lg.1;omega);refine⟨rfl,hch.mono fun x _ h=>?_,fun x=>Plus Fn w x/\x<w2.heap.size,nv2,⟨hn2.clip,?_,fun j hj=>?_,g.ok,g.dis,fun j x hj hx hx'=>?_,g.disg,⟨fun h=>?_,fun h=>?_⟩,g.gp,fun j x hj hx=>yg (g.bp j x hj hx) hs2,fun x hx=>hx.2,fun j hj=>?_,g.lg,fun x hx=>?_⟩,fun x hx=>hx.1⟩
 ·rcases h with h|h|h
  ·exact .inr (.inr (.inr ⟨i,hi,h▸p.fb⟩))
  ·exact .inr (.inr (.inl h))
  ·exact .inl h
 ·exact(far pb g.ptr.lt (fun e=>(g.disg i hi).2 (e▸p.fb)) g.ng.2 (fun e=>g.gp e.symm)).trans g.ptr
 ·by_cases e:j=i
  ·subst e;simp only[if_true];exact⟨l,hlm,kb,mb,rbs,es,clk,ev2,sv2,p2⟩
  ·simp only[if_neg e];exact(g.proc j hj).kept fun x hx hxl=>far x hxl (hbl j x hj e hx) (g.disn j x hj hx) (fun e2=>(g.disg j hj).1 (e2▸hx))
 ·rcases hx'.1 with h1|h1
  ·exact g.disn j x hj hx h1
  ·have:=g.bp j x hj hx;omega
 ·rcases h.1 with h1|h1
  ·exact g.ng.1 h1
  ·have:=g.net.blk.lt;omega
 ·rcases h.1 with h1|h1
  ·exact g.ng.2 h1
  ·have:=g.ptr.lt;omega
 ·by_cases e:j=i
  ·subst e;refine⟨qae hcl.tab hlo,yr hcl.low hs2,fun x hx=>?_⟩;obtain⟨h10,o,ho,hs⟩:=hcl.obj x hx;by_cases ex:x=bl j
   ·subst ex;exact⟨h10,_,p2.blk,p2.top_sup (qab j n win) fun y hy=>(hcl.obj y hy).1⟩
   ·exact⟨h10,o,(far x (g.bp j x hj hx) ex (g.disn j x hj hx) (fun e=>(g.disg j hj).1 (e▸hx))).trans ho,hs⟩
  ·exact(g.cl j hj).kept (fun x hx=>far x (g.bp j x hj hx) (hbl j x hj e hx) (g.disn j x hj hx) (fun e2=>(g.disg j hj).1 (e2▸hx))) hlo hs2
 ·rcases hx.1 with h1|h1
  ·exact g.ln x h1
  ·have:=g.lg.1;have:=g.net.blk.lt;omega
end
theorem Loose.comp{π πs:Perm}{ws w wa:World}(h:Loose fam π w wa)(hs:Loose fam πs ws w):Loose fam (π.comp πs) ws wa:=by
 refine⟨fun r o hl hr=>?_,fun r hr=>?_,hs.low,h.lowa,h.os.trans hs.os,fun f=>?_,?_⟩
 ·have h1:=hs.obj r o hl hr;have h2:=h.obj _ _ (loose_live hs hl) h1;rw[obj_comp] at h2;exact h2
 ·show π.f (πs.f r)=r;rw[hs.ids r hr,h.ids r hr]
 ·show π.g (πs.g f)=f;rw[hs.g,h.g]
 ·show (π.b != πs.b)=false;rw[h.b,hs.b];rfl
theorem Loose.move{π:Perm}{w wa waB:World}(h:Loose fam π w wa)(hb:∀r,7<=r->r<w.heap.size->waB.heap[π.f r]?=wa.heap[π.f r]?)(hsz:wa.heap.size<=waB.heap.size)(hos:waB.os=wa.os):Loose fam π w waB:=
 ⟨fun r o hl hr=>(hb r hl (yk.1 hr).1).trans (h.obj r o hl hr),h.ids,h.low,yr h.lowa hsz,hos.trans h.os,h.g,h.b⟩
theorem Cl.add{w:World}{F:Nat->Prop}(c:Cl w F){g:Nat}{cur:Array Value}{e:TypeId}{fz:Nat × Nat}(h10:7<=g)(hg:w.heap[g]?=some (.cells cur e fz))(hf:∀u∈cur.toList,∀ρ:Perm,u.pm ρ=u):Cl w (fun x=>F x\/x=g):=by
 refine⟨c.tab,c.low,fun x hx=>?_⟩;rcases hx with hx|rfl
 ·obtain⟨h1,o,ho,hs⟩:=c.obj x hx;exact⟨h1,o,ho,hs.mono fun r _ hr=>.inl hr⟩
 ·refine⟨h10,_,hg,fun σ _=>?_⟩;simp only[Obj.pm,Obj.cells.injEq,and_true];have:=qcm (ρ:=σ) (xs:=cur.toList) (fun u hu=>hf u hu σ);exact Array.ext' (by simpa using this)
end
end Go.Proofs.YtoklolfaemhfnaaGreatDoor

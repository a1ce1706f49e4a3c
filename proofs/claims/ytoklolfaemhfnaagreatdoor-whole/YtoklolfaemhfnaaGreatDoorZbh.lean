import Derived.Shelf.SlSortCmp.WholeK
import Derived.Shelf.Lay
import Derived.Ground.SlsfProg
import Derived.Test.YtoklolfaemhfnaaGreatDoorZbg
set_option maxRecDepth 100000
set_option maxHeartbeats 8000000
open Go.Proofs.Tryz (prog)
namespace Go.Proofs.YtoklolfaemhfnaaGreatDoor
section
open Go.RowKit
open Go.ChangeMaps (setBlock)
variable {w w':World}{F:Nat->Prop}{b:Nat}{h:Hd}{kn:List (List Int)}{l:Msgs}{evs:List Ev}{snt:List Par}{kb mb:Nat}{rbs:List Nat}{es:Array MapEntry}{clk:Nat}{ev sv:Value}
theorem PA.clip(p:PA w F b h kn l evs snt kb mb rbs es clk ev sv):PA w (fun x=>F x/\x<w.heap.size) b h kn l evs snt kb mb rbs es clk ev sv:=
 ⟨p.blk,p.known,p.map,p.mo,p.apart,fun x hx=>⟨⟨(p.times x hx).1.row,fun g hg=>⟨(p.times x hx).1.foot g hg,(p.times x hx).1.lt hg⟩⟩,(p.times x hx).2⟩,⟨p.event.row,fun g hg=>⟨p.event.foot g hg,p.event.lt hg⟩⟩,⟨p.sent.row,fun g hg=>⟨p.sent.foot g hg,p.sent.lt hg⟩⟩,⟨p.fb,p.blk.lt⟩,⟨p.fk,p.known.lt.1⟩,⟨p.fm,p.ltm⟩,fun r hr=>⟨p.fr r hr,p.known.lt.2 r hr⟩⟩
theorem qnb{j q n:Nat}(hn:n<=6)(hj:j<n)(hq:q<n){row:List Int}(hl:row.length=n)(ho:RowOk n row){m:Codec.Msg}(hm:Codec.msgFits m=true):Codec.fits ⟨1,j,q,0,0,0,0,row,[],[m]⟩=true:=by
 have hr:=qhe hn hl ho;have h0:Codec.listFits []=true:=rfl;have h1:Codec.msgsFit [m]=true:=by simp[Codec.msgsFit,hm]
 simp only[Codec.fits,Codec.headFits,Codec.ballotsFit,yB,Codec.inB_iff,hr,h0,h1,and_true];refine⟨⟨⟨⟨?_,?_⟩,?_⟩,?_⟩,?_⟩ <;> omega
theorem qcv(hc:CalmHd h)(p:PA w F b h kn l evs snt kb mb rbs es clk ev sv)(hF:∀x,F x->x<w.heap.size)(hrow:RowOk h.n (kn.getD h.num []))(hs:snt.length<=1000000)(q:Nat)(hq:q<h.n)(m:Codec.Msg)(hmf:Codec.msgFits m=true)(ao:Option Addr)(tn tc:Nat)(ht:NumsAt w w.heap.size (.slice ao tn tc) m.time) :
 Calls prog 141 #[pT b 0,J q,msgV m (.slice ao tn tc)] w fun e w'=>e=.returned (.tuple #[])/\Chg F w w'/\∃sv',PA w' (Plus F w) b h kn l evs (snt++[par (Mo.dataF h.n h.num q (mp kn (l.map Prod.fst) evs) m)]) kb mb rbs es clk ev sv':=by
 obtain⟨r,hr,hbr,hrl, -⟩:=p.row_at hc.num;have HR:Hid (∀w',Below w.heap.size w w'->Calls prog 119 #[pT b 0] w' fun e w''=>e=.returned (sT r h.n h.n)/\Below w'.heap.size w' w''/\w''.heap=w'.heap):=fun w' hw=>qar (p.below hw) hr;have HSEND:Hid (∀w' g2,Below w.heap.size w w'->BlkAt w' g2 179 #[J m.sender,J m.seq,.slice ao tn tc,.string m.text]->Calls prog 165 #[pT b 0,.agg #[J 1,J 0,J q,J 0,J 0,J 0,J 0,sT r h.n h.n,sN,sT g2 1 1]] w' fun e w''=>e=.returned (.tuple #[])/\(∃sv',PA w'' (Plus F w) b h kn l evs (snt++[par (Mo.dataF h.n h.num q (mp kn (l.map Prod.fst) evs) m)]) kb mb rbs es clk ev sv')/\Chg F w w''/\Chg F w' w''/\w''.cell? (aT b 6)=some (J 0)):=fun w' g2 hw hx=>by
  have p':=p.below hw;unfold Mo.dataF;rw[qm9 hrl];have hmsg:MsgsAt w' w'.heap.size (sT g2 1 1) [m]:=.inr ⟨g2,0,1,rfl,hx.lt,fun j m' hj=>by
   match j,hj with
   | 0, hj =>
     simp only[yak,yA] at hj;subst hj;exact⟨.slice ao tn tc,hx.cell 0 _ rfl,hx.cell 1 _ rfl,hx.cell 2 _ rfl,hx.cell 3 _ rfl,(ht.below hw).up hw.size⟩⟩
  refine(qm8 p' ⟨1,h.num,q,0,0,0,0,kn.getD h.num [],[],[m]⟩ rfl _ _ _ _ _ _ _ _ _ (p'.nums hr hc.num) (.inl ⟨⟨_,_,rfl⟩,rfl⟩) hmsg (qnb hc.n1 hc.num hq hrl hrow hmf) hs).mono ?_;rintro e w'' ⟨rfl,hch,sv',p''⟩;have c6:=p''.blk.cell 6 _ rfl;simp only[Hd.cells,yf,yd,ye,hc.view] at c6;exact⟨rfl,⟨sv',p''.wide fun x hx=>hx.elim .inl fun hx=>.inr (by have:=hw.size;omega)⟩,(Chg.of_below hw).trans (hch.mono fun x _ hx=>.inl hx),hch,c6⟩
 have HC6:Hid (∀w',Below w.heap.size w w'->w'.cell? (aT b 6)=some (J 0)):=fun w' hw=>by
  have c6:=(p.below hw).blk.cell 6 _ rfl;simp only[Hd.cells,yf,yd,ye,hc.view] at c6;exact c6
 have HFlt:Hid (¬F w.heap.size):=fun e=>by have:=hF _ e;omega
 obtain⟨ms,mq,mt,mx⟩:=m;simp only at HSEND;clear p hbr hr hc hrow ht hmf hF;have HX:=BlkAt.new w w.heap.size rfl 179 #[J ms,J mq,.slice ao tn tc,.string mx];have HS:Hid (∀w',Below (w.heap.size+1) (w.alloc (.cells #[J ms,J mq,.slice ao tn tc,.string mx] 179)) w'->(w'.cell? (aT b 6)=some (J 0)/\w'.cell? (aT w.heap.size 0)=some (J ms)/\w'.cell? (aT w.heap.size 1)=some (J mq)/\w'.cell? (aT w.heap.size 2)=some (.slice ao tn tc)/\w'.cell? (aT w.heap.size 3)=some (.string mx))/\Below w.heap.size w w'):=fun w' hw=>by
  have hx:=HX.below hw (by omega);have hb:Below w.heap.size w w':=((yi _ _).alloc (yb _) _).trans (hw.mono (by omega));exact⟨⟨HC6.out w' hb,hx.cell 0 _ rfl,hx.cell 1 _ rfl,hx.cell 2 _ rfl,hx.cell 3 _ rfl⟩,hb⟩
 have hs1:Hid ((w.alloc (.cells #[J ms,J mq,.slice ao tn tc,.string mx] 179)).heap.size=w.heap.size+1):=by simp[Hid]
 clear HX HC6;unfold msgV;go_enter Tryz.func141,Tryz.ntmps141
 go_wp2_with fail
 generalize w.alloc (.cells #[J ms,J mq,.slice ao tn tc,.string mx] 179)=w1 at HS hs1 ⊢;refine wp_region_held_drew (S:=fun w'=>w'.cell? (aT b 6)=some (J 0)/\w'.cell? (aT w.heap.size 0)=some (J ms)/\w'.cell? (aT w.heap.size 1)=some (J mq)/\w'.cell? (aT w.heap.size 2)=some (.slice ao tn tc)/\w'.cell? (aT w.heap.size 3)=some (.string mx)) rfl (HS.out _ (yi _ _).drew).1 (fun hHeld=>?_);refine wk 0 ?_;refine wk 1 ?_;refine wk 2 ?_;refine wk 3 ?_;refine wk 4 ?_;refine wk 5 ?_;refine wk 6 ?_;refine wk 8 ?_;refine wpAnyH_ready (rs:=[7,9]) (by kernel_rfl) (by simp) (AllReadyH.cons (i:=7) rfl (fun K hK=>?s7) (AllReadyH.cons (i:=9) rfl (fun K hK=>?s9) AllReadyH.nil))
 case s7=>
  go_simp;refine(HR.out _ (HS.out _ (yi _ _).drew).2).mono ?_;rintro e w2 ⟨rfl,hb2, -⟩;have HB2:Hid (Below (w.heap.size+1) w1 w2):=((yi _ _).drew).trans (hb2.mono (by simp[hs1.out]));clear hb2;go_wp2_with fail
  refine hK.out _ _ (HS.out _ HB2.out).1 (fun hHeld=>?_);clear hK K;try simp only[pU]
  refine we 9 fun K hK=>?_;go_simp;have HB3:Hid (Below (w.heap.size+1) w1 (w2.alloc (.cells #[J ms,J mq,.slice ao tn tc,.string mx] 179))):=HB2.out.alloc (by have:=HB2.out.size;rw[hs1.out] at this;exact this) _;have HX3:Hid (BlkAt (w2.alloc (.cells #[J ms,J mq,.slice ao tn tc,.string mx] 179)) w2.heap.size 179 #[J ms,J mq,.slice ao tn tc,.string mx]):=BlkAt.new w2 w2.heap.size rfl 179 _;generalize w2.alloc (.cells #[J ms,J mq,.slice ao tn tc,.string mx] 179)=w3 at HB3 HX3 ⊢;refine hK.out _ _ (HS.out _ HB3.out).1 (fun hHeld=>?_);clear hK K;try simp only[pU]
  refine wk 10 ?_;refine we 11 fun K hK=>?_;go_simp;refine(HSEND.out _ _ (HS.out _ HB3.out).2 HX3.out).mono ?_;rintro e w5 ⟨rfl,hpa,hch,hch',c6⟩;have hS5:Hid (w5.cell? (aT b 6)=some (J 0)/\w5.cell? (aT w.heap.size 0)=some (J ms)/\w5.cell? (aT w.heap.size 1)=some (J mq)/\w5.cell? (aT w.heap.size 2)=some (.slice ao tn tc)/\w5.cell? (aT w.heap.size 3)=some (.string mx)):=by
   have k0:=hch'.block w.heap.size (by have:=HB3.out.size;rw[hs1.out] at this;omega) HFlt.out;have k1:=(HS.out _ HB3.out).1;exact⟨c6,(yq (a:=(aT w.heap.size 0)) k0).trans k1.2.1,(yq (a:=(aT w.heap.size 1)) k0).trans k1.2.2.1,(yq (a:=(aT w.heap.size 2)) k0).trans k1.2.2.2.1,(yq (a:=(aT w.heap.size 3)) k0).trans k1.2.2.2.2⟩
  have HRES:Hid (Chg F w w5/\∃sv',PA w5 (Plus F w) b h kn l evs (snt++[par (Mo.dataF h.n h.num q (mp kn (l.map Prod.fst) evs) ⟨ms,mq,mt,mx⟩)]) kb mb rbs es clk ev sv'):=⟨hch,hpa⟩;clear hpa hch hch' c6;go_wp2_with fail
  refine hK.out _ _ hS5.out (fun hHeld=>?_);clear hK K;try simp only[pU]
  refine wpAnyH_done (by kernel_rfl) ?_ _;go_wp2_with fail
  go_end0
  exact⟨rfl,HRES.out⟩
 case s9=>
  go_simp;have HB2:Hid (Below (w.heap.size+1) w1 (w1.alloc (.cells #[J ms,J mq,.slice ao tn tc,.string mx] 179)).drew):=((yi _ _).alloc (by rw[hs1.out];omega) _).drew;have HX2:Hid (BlkAt (w1.alloc (.cells #[J ms,J mq,.slice ao tn tc,.string mx] 179)).drew w1.heap.size 179 #[J ms,J mq,.slice ao tn tc,.string mx]):=(BlkAt.new w1 w1.heap.size rfl 179 _).drew;generalize (w1.alloc (.cells #[J ms,J mq,.slice ao tn tc,.string mx] 179)).drew=w2 at HB2 HX2 ⊢;refine hK.out _ _ (HS.out _ HB2.out).1 (fun hHeld=>?_);clear hK K;try simp only[pU]
  refine we 7 fun K hK=>?_;go_simp;refine(HR.out _ (HS.out _ HB2.out).2).mono ?_;rintro e w3 ⟨rfl,hb3,hh3⟩;have HB3:Hid (Below (w.heap.size+1) w1 w3):=HB2.out.trans (hb3.mono (by have:=HB2.out.size;rw[hs1.out] at this;exact this));have HX3:Hid (BlkAt w3 w1.heap.size 179 #[J ms,J mq,.slice ao tn tc,.string mx]):=by
   have:=HX2.out;unfold BlkAt at this;rw[<-hh3] at this;exact this
  clear hb3 hh3 HX2;go_wp2_with fail
  refine hK.out _ _ (HS.out _ HB3.out).1 (fun hHeld=>?_);clear hK K;try simp only[pU]
  refine wk 10 ?_;refine we 11 fun K hK=>?_;go_simp;refine(HSEND.out _ _ (HS.out _ HB3.out).2 HX3.out).mono ?_;rintro e w5 ⟨rfl,hpa,hch,hch',c6⟩;have hS5:Hid (w5.cell? (aT b 6)=some (J 0)/\w5.cell? (aT w.heap.size 0)=some (J ms)/\w5.cell? (aT w.heap.size 1)=some (J mq)/\w5.cell? (aT w.heap.size 2)=some (.slice ao tn tc)/\w5.cell? (aT w.heap.size 3)=some (.string mx)):=by
   have k0:=hch'.block w.heap.size (by have:=HB3.out.size;rw[hs1.out] at this;omega) HFlt.out;have k1:=(HS.out _ HB3.out).1;exact⟨c6,(yq (a:=(aT w.heap.size 0)) k0).trans k1.2.1,(yq (a:=(aT w.heap.size 1)) k0).trans k1.2.2.1,(yq (a:=(aT w.heap.size 2)) k0).trans k1.2.2.2.1,(yq (a:=(aT w.heap.size 3)) k0).trans k1.2.2.2.2⟩
  have HRES:Hid (Chg F w w5/\∃sv',PA w5 (Plus F w) b h kn l evs (snt++[par (Mo.dataF h.n h.num q (mp kn (l.map Prod.fst) evs) ⟨ms,mq,mt,mx⟩)]) kb mb rbs es clk ev sv'):=⟨hch,hpa⟩;clear hpa hch hch' c6;go_wp2_with fail
  refine hK.out _ _ hS5.out (fun hHeld=>?_);clear hK K;try simp only[pU]
  refine wpAnyH_done (by kernel_rfl) ?_ _;go_wp2_with fail
  go_end0
  exact⟨rfl,HRES.out⟩
end
end Go.Proofs.YtoklolfaemhfnaaGreatDoor
section
namespace Go.Proofs
open Go.Shelf Go.RowKit Go.Lib Go.Sort
def Tryz.sortKeys_ren:Ren:=⟨fun|6=>198|15=>242|14=>241|28=>282|29=>283|20=>274|21=>275|22=>276|23=>277|24=>278|25=>279|26=>280|27=>281|46=>296|47=>297|48=>298|49=>299|50=>300|57=>303|n=>n,fun|22=>238|24=>186|25=>240|39=>195|53=>146|55=>143|46=>283|45=>282|50=>287|66=>294|70=>297|76=>302|77=>303|n=>n,fun n=>n⟩
theorem Tryz.sortKeys:SlLaysF0.n6 prog Tryz.sortKeys_ren:=⟨(by kernel_rfl),⟨f198.name,by decide,func198.trans (congrArg _ (by kernel_rfl))⟩,⟨f241.name,by decide,func241.trans (congrArg _ (by kernel_rfl))⟩,func242.trans (congrArg _ (by kernel_rfl)),⟨f274.name,by decide,func274.trans (congrArg _ (by kernel_rfl))⟩,⟨f275.name,by decide,func275.trans (congrArg _ (by kernel_rfl))⟩,⟨f276.name,by decide,func276.trans (congrArg _ (by kernel_rfl))⟩,⟨f277.name,by decide,func277.trans (congrArg _ (by kernel_rfl))⟩,⟨f278.name,by decide,func278.trans (congrArg _ (by kernel_rfl))⟩,⟨f279.name,by decide,func279.trans (congrArg _ (by kernel_rfl))⟩,⟨f280.name,by decide,func280.trans (congrArg _ (by kernel_rfl))⟩,⟨f281.name,by decide,func281.trans (congrArg _ (by kernel_rfl))⟩,func282.trans (congrArg _ (by kernel_rfl)),func283.trans (congrArg _ (by kernel_rfl)),⟨f296.name,by decide,func296.trans (congrArg _ (by kernel_rfl))⟩,func297.trans (congrArg _ (by kernel_rfl)),func298.trans (congrArg _ (by kernel_rfl)),⟨f299.name,by decide,func299.trans (congrArg _ (by kernel_rfl))⟩,⟨f300.name,by decide,func300.trans (congrArg _ (by kernel_rfl))⟩,⟨f303.name,by decide,func303.trans (congrArg _ (by kernel_rfl))⟩,underlying0,isAgg0,sizeOf0,zeroValue0,underlying3,isAgg3,sizeOf3,zeroValue3,underlying4,isAgg4,sizeOf4,zeroValue4,underlying5,isAgg5,sizeOf5,zeroValue5,underlying9,isAgg9,sizeOf9,zeroValue9,underlying238,isAgg238,sizeOf238,zeroValue238,underlying240,isAgg240,sizeOf240,zeroValue240,underlying195,isAgg195,sizeOf195,zeroValue195,underlying282,isAgg282,sizeOf282,zeroValue282,underlying283,isAgg283,sizeOf283,zeroValue283,underlying287,isAgg287,sizeOf287,zeroValue287,underlying146,isAgg146,sizeOf146,zeroValue146,underlying143,isAgg143,sizeOf143,zeroValue143,underlying294,isAgg294,sizeOf294,zeroValue294,underlying297,isAgg297,sizeOf297,zeroValue297,underlying302,isAgg302,sizeOf302,zeroValue302,underlying303,isAgg303,sizeOf303,zeroValue303⟩
end Go.Proofs
namespace Go.Proofs.YtoklolfaemhfnaaGreatDoor
open Go.Shelf Go.RowKit Go.Lib Go.Sort
theorem qhf(x:Int)(w:World):Calls prog 284 #[J x] w fun e w'=>e=.returned (.bool false)/\w'=w:=by
 go_enter Tryz.func284,Tryz.ntmps284
 go_wp2
 go_ret;exact⟨rfl,rfl⟩
theorem qgd(x y:Int)(w:World):Calls prog 244 #[J x,J y] w fun e w'=>e=.returned (J (Lib.compareInt x y))/\w'=w:=by
 have hcs:x<y\/y<x\/(¬x<y/\¬y<x):=by omega
 rcases hcs with h1|h1|⟨h1,h2⟩
 ·have hr:Hid (Lib.compareInt x y = -1):=by simp[Hid,Lib.compareInt,h1]
  go_enter Tryz.func244,Tryz.ntmps244
  go_wp2_with (go_at_call 284;refine(qhf _ _).mono ?_;rintro e w' ⟨rfl,rfl⟩)
  go_ret;exact⟨qbg hr.out.symm,rfl⟩
 ·have h0:¬x<y:=by omega
  have hr:Hid (Lib.compareInt x y=1):=by simp[Hid,Lib.compareInt,h1,h0]
  go_enter Tryz.func244,Tryz.ntmps244
  go_wp2_with (go_at_call 284;refine(qhf _ _).mono ?_;rintro e w' ⟨rfl,rfl⟩)
  go_ret;exact⟨qbg hr.out.symm,rfl⟩
 ·have hr:Hid (Lib.compareInt x y=0):=by simp[Hid,Lib.compareInt,h1,h2]
  go_enter Tryz.func244,Tryz.ntmps244
  go_wp2_with (go_at_call 284;refine(qhf _ _).mono ?_;rintro e w' ⟨rfl,rfl⟩)
  go_ret;exact⟨qbg hr.out.symm,rfl⟩
theorem or_fn(a b:Int)(g c:Nat)(w:World)(h0:w.cell? (aT g 0)=some (J a))(h1:w.cell? (aT g 1)=some (J b)):Calls prog 243 #[sT g 2 c] w fun e w'=>e=.returned (J (if a=0 then b else a))/\w'=w:=by
 by_cases ha:a=0
 ·subst ha;have hr:Hid ((if (0:Int)=0 then b else 0)=b):=by simp[Hid]
  go_enter Tryz.func243,Tryz.ntmps243
  go_wp2_with fail
  go_loopw [8] (fun i wr=>wr=w/\(i=J 0\/i=J 1\/(i=J 2/\b=0))) (fun i _=>2 - (intOf i).toNat)
  case atStart=>exact⟨rfl,.inl rfl⟩
  case round=>
   obtain⟨rfl,rfl|rfl|⟨rfl,hb⟩⟩:=hrel
   ·go_wp2_with fail
    exact⟨by simp,by simp[intOf]⟩
   ·by_cases hb:b=0
    ·subst hb;go_wp2_with fail
     exact⟨by simp,by simp[intOf]⟩
    ·have hb2:(b != 0)=true:=by rw[bne_iff_ne];exact hb
     go_wp2_with fail
     go_ret;exact⟨qbg hr.out.symm,rfl⟩
   ·subst hb;go_wp2_with fail
    go_ret;exact⟨qbg hr.out.symm,rfl⟩
 ·rw[if_neg ha];have hb2:(a != 0)=true:=by rw[bne_iff_ne];exact ha
  go_enter Tryz.func243,Tryz.ntmps243
  go_wp2_with fail
  go_loopw [8] (fun i wr=>wr=w/\i=J 0) (fun i _=>2 - (intOf i).toNat)
  case atStart=>exact⟨rfl,rfl⟩
  case round=>
   obtain⟨rfl,rfl⟩:=hrel;go_wp2_with fail
   go_ret;exact⟨rfl,rfl⟩
def cmpKey(x y:Int × Int):Int:=if Lib.compareInt x.1 y.1=0 then Lib.compareInt x.2 y.2 else Lib.compareInt x.1 y.1
def encKey(x:Int × Int):List Value:=[J x.1,J x.2]
theorem qfz(x y:Int × Int)(W:World):Calls prog 199 #[.agg #[J x.1,J x.2],.agg #[J y.1,J y.2]] W fun e w'=>e=.returned (J (cmpKey x y))/\∃q os',w'=grow (W.drewN q) os':=by
 obtain⟨x1,x2⟩:=x;obtain⟨y1,y2⟩:=y;unfold cmpKey;simp only;have hc1:=qgd x1 y1;have hc2:=qgd x2 y2;generalize Lib.compareInt x1 y1=r1 at hc1 ⊢;generalize Lib.compareInt x2 y2=r2 at hc2 ⊢;have HC1:Hid (∀w,Calls prog 244 #[J x1,J y1] w fun e w'=>e=.returned (J r1)/\w'=w):=hc1;have HC2:Hid (∀w,Calls prog 244 #[J x2,J y2] w fun e w'=>e=.returned (J r2)/\w'=w):=hc2;have hX:=BlkAt.new W W.heap.size rfl 186 #[J x1,J x2];have hX2:=hX.alloc (.cells #[J y1,J y2] 186);have hY:=BlkAt.new (W.alloc (.cells #[J x1,J x2] 186)) (W.heap.size+1) (by simp) 186 #[J y1,J y2];have a0:=hX2.cell 0 _ rfl;have a1:=hX2.cell 1 _ rfl;have b0:=hY.cell 0 _ rfl;have b1:=hY.cell 1 _ rfl;simp only[yf,yd,ye] at a0 a1 b0 b1;clear hc1 hc2 hX hX2 hY;obtain⟨cr,hcr⟩:∃cr,(if r1=0 then r2 else r1)=cr:=⟨_,rfl⟩;rw[hcr];have HCR:Hid ((if r1=0 then r2 else r1)=cr):=hcr;clear hcr;go_enter Tryz.func199,Tryz.ntmps199
 go_wp2_with fail
 refine wp_region_held_drew (S:=fun w'=>w'.cell? (aT W.heap.size 0)=some (J x1)/\w'.cell? (aT W.heap.size 1)=some (J x2)/\w'.cell? ⟨W.heap.size+1,0,none⟩=some (J y1)/\w'.cell? ⟨W.heap.size+1,1,none⟩=some (J y2)) rfl ⟨a0,a1,b0,b1⟩ (fun hHeld=>?_);refine wk 0 ?_;refine wk 1 ?_;refine wk 2 ?_;refine wk 3 ?_;refine wk 5 ?_;refine wk 6 ?_;refine wk 7 ?_;refine wk 8 ?_;refine we 4 fun K hK=>?_;go_simp;refine(HC1.out _).mono ?_;rintro e w2 ⟨rfl,rfl⟩;go_wp2_with fail
 refine hK.out _ _ ⟨a0,a1,b0,b1⟩ (fun hHeld=>?_);clear hK K;try simp only[pU]
 refine we 9 fun K hK=>?_;go_simp;refine(HC2.out _).mono ?_;rintro e w2 ⟨rfl,rfl⟩;go_wp2_with fail
 refine hK.out _ _ ⟨a0,a1,b0,b1⟩ (fun hHeld=>?_);clear hK K;try simp only[pU]
 refine we 10 fun K hK=>?_;go_simp;have hZ:=(BlkAt.new ((W.alloc (.cells #[J x1,J x2] 186)).alloc (.cells #[J y1,J y2] 186)) (W.heap.size+1+1) (by simp) 3 #[J r1,J r2]).drew;have z0:=hZ.cell 0 _ rfl;have z1:=hZ.cell 1 _ rfl;have HO0:=or_fn r1 r2 (W.heap.size+1+1) 2 _ z0 z1;rw[HCR.out] at HO0;have HO:Hid (Calls prog 243 _ _ _):=HO0;clear HO0;have hSS:Hid ((((W.alloc (.cells #[J x1,J x2] 186)).alloc (.cells #[J y1,J y2] 186)).alloc (.cells #[J r1,J r2] 3)).drew.cell? (aT W.heap.size 0)=some (J x1)/\(((W.alloc (.cells #[J x1,J x2] 186)).alloc (.cells #[J y1,J y2] 186)).alloc (.cells #[J r1,J r2] 3)).drew.cell? (aT W.heap.size 1)=some (J x2)/\(((W.alloc (.cells #[J x1,J x2] 186)).alloc (.cells #[J y1,J y2] 186)).alloc (.cells #[J r1,J r2] 3)).drew.cell? ⟨W.heap.size+1,0,none⟩=some (J y1)/\(((W.alloc (.cells #[J x1,J x2] 186)).alloc (.cells #[J y1,J y2] 186)).alloc (.cells #[J r1,J r2] 3)).drew.cell? ⟨W.heap.size+1,1,none⟩=some (J y2)):=by
  refine⟨(yax _ _ _ ?_).trans a0,(yax _ _ _ ?_).trans a1,(yax _ _ _ ?_).trans b0,(yax _ _ _ ?_).trans b1⟩ <;> simp <;> omega
 have HG:Hid (∃q os',(((W.alloc (.cells #[J x1,J x2] 186)).alloc (.cells #[J y1,J y2] 186)).alloc (.cells #[J r1,J r2] 3)).drew=grow (W.drewN q) os'):=⟨1,_,by rw[alloc_eq_grow,alloc_eq_grow,alloc_eq_grow,grow_grow,grow_grow];rfl⟩;clear hZ z0 z1 a0 a1 b0 b1;generalize (((W.alloc (.cells #[J x1,J x2] 186)).alloc (.cells #[J y1,J y2] 186)).alloc (.cells #[J r1,J r2] 3)).drew=w3 at HO hSS HG ⊢;refine hK.out _ _ hSS.out (fun hHeld=>?_);clear hK K;try simp only[pU]
 refine we 11 fun K hK=>?_;go_simp;refine HO.out.mono ?_;rintro e w2 ⟨rfl,rfl⟩;go_wp2_with fail
 refine hK.out _ _ hSS.out (fun hHeld=>?_);clear hK K;try simp only[pU]
 refine wk 12 ?_;refine wpAnyH_done (by kernel_rfl) ?_ _;go_wp2_with fail
 go_ret;exact⟨rfl,HG.out⟩
theorem qjy(blk off size:Nat)(w:World):CmpLays prog 199 #[] encKey 2 cmpKey blk off size w:=fun _ _ _ _ x y=>qfz x y _
theorem ltKey(x y:Int × Int):ltOf cmpKey x y=decide (x.1<y.1\/(x.1=y.1/\x.2<y.2)):=by
 unfold ltOf cmpKey Lib.compareInt;by_cases h1:x.1<y.1
 ·simp[h1]
 ·by_cases h2:y.1<x.1
  ·have:¬x.1=y.1:=by omega
   simp[h1,h2,this]
  ·have h3:x.1=y.1:=by omega
   by_cases h4:x.2<y.2
   ·simp[h3,h4]
   ·by_cases h5:y.2<x.2 <;> simp[h3,h4,h5]
theorem swoKey:SWO (ltOf cmpKey) where
 irrefl x:=by rw[ltKey];simp
 trans x y z h1 h2:=by rw[ltKey,decide_eq_true_eq] at *;omega
 ntrans x y z h1 h2:=by rw[ltKey,decide_eq_false_iff_not] at *;omega
end Go.Proofs.YtoklolfaemhfnaaGreatDoor
end
namespace Go.Proofs.YtoklolfaemhfnaaGreatDoor
section
open Go.RowKit
open Go.ChangeMaps (setBlock)
variable {w w':World}{F:Nat->Prop}{b:Nat}{h:Hd}{kn:List (List Int)}{l:Msgs}{evs:List Ev}{snt:List Par}{kb mb:Nat}{rbs:List Nat}{es:Array MapEntry}{clk:Nat}{ev sv:Value}
theorem qb1{w w1 w2:World}{r:Nat}(hb:Below w.heap.size w w1)(hr:w.heap.size<=r)(hg:w1.grownBy w2 (some r)):Below w.heap.size w w2:=hb.trans ⟨hg.os,hg.tape,hg.output,hg.size,fun k hk=>hg.block k (yg hk hb.size) (fun e=>by injection e with e;omega)⟩
theorem qe9(p:PA w F b h kn l evs snt kb mb rbs es clk ev sv) :
 Calls prog 182 #[pT b 0] w fun e w'=>(∃x:Int,e=.returned (J x))/\Below w.heap.size w w':=by
 have c15:=p.blk.cell 15 _ rfl;simp only[Hd.cells,yf,yd,ye] at c15;have HC0:Hid (∀w',Below w.heap.size w w'->w'.cell? (aT b 0)=some (J h.num)):=fun w' hw=>(p.blk.below hw p.blk.lt).cell 0 _ rfl;have hold:=p.mo.old;have hborn:=p.mo.born;have HAT:Hid (∀e∈es.toList,∃s q:Int,∃v,e.key=.agg #[J s,J q]/\e.val=v):=fun e he=>by
  obtain⟨i,hi,rfl⟩:=y4 he;obtain⟨x, -,hk, -⟩:=p.mo.at (yh hi);exact⟨_,_,_,hk,rfl⟩
 have hmap:=p.map;clear p;go_enter Tryz.func182,Tryz.ntmps182
 go_wp2_with (at_range;refine qal _ rfl _ 156 186 179 rfl Tryz.underlying156 rfl hmap hold hborn ?_;intro hR0)
 go_frame
 go_loopw [3] (fun c wr=>(∃x:Int,c=J x)/\∃seen,Ranging wr mb w.heap.size es clk seen/\Below w.heap.size w wr) (fun _ wr=>toCome wr mb w.heap.size)
 case atStart=>exact⟨⟨_,rfl⟩,#[],hR0,(yi _ _).alloc (yb _) _⟩
 case round=>
  obtain⟨⟨x,rfl⟩,seen,hR,hB⟩:=hrel;have hms:=hR.toCome;have HB:Hid (Below w.heap.size w wr):=hB;clear hR0 hmap hold hborn hB;go_wp2_with (at_next;refine qaq _ rfl _ rfl mb w.heap.size rfl hR ?_ ?_)
  ·intro h0;go_wp2_with fail
   go_ret;exact⟨⟨_,rfl⟩,HB.out⟩
  ·intro e w1 he hse hR1 hG1 hs1 hen;have he':e∈es.toList:=by simpa using he
   have hse':seen.contains e.born=false:=by simpa using hse
   clear he hse;obtain⟨s,q,v,hk,hv⟩:=HAT.out e he';rw[hk,hv] at hen ⊢;go_wp2_with fail
   have hB1:Below w.heap.size w w1:=qb1 HB.out (yb _) hG1;have HB2:Hid (Below w.heap.size w (w1.alloc (.cells #[J s,J q] 186))):=hB1.alloc hB1.size _;have HR2:Hid (Ranging (w1.alloc (.cells #[J s,J q] 186)) mb w.heap.size es clk (seen.push e.born)):=hR1.kept ((yi _ _).alloc (yb _) _);have d0:=(BlkAt.new w1 wr.heap.size hs1 186 #[J s,J q]).cell 0 _ rfl;have c0:=HC0.out _ HB2.out;have HM:Hid (toCome (w1.alloc (.cells #[J s,J q] 186)) mb w.heap.size<toCome wr mb w.heap.size):=by
    rw[Hid,HR2.out.toCome,hms];exact qca he' hse'
   simp only[yf,yd] at d0;clear hR1 hG1 hs1 hen hB1 hR hms he' hse' hk hv c15 HAT HC0;generalize w1.alloc (.cells #[J s,J q] 186)=w2 at HB2 HR2 d0 c0 HM ⊢;have HT:Hid (∀n,toCome (w2.drewN n) mb w.heap.size=toCome w2 mb w.heap.size):=fun n=>by
    have e:(w2.drewN n).heap=w2.heap:=by simp
    unfold toCome;rw[e]
   have HRn:Hid (∀n,Ranging (w2.drewN n) mb w.heap.size es clk (seen.push e.born)):=fun n=>HR2.out.kept (below_drewN (yi _ _) n);by_cases hsn:s=(h.num:Int)
   ·subst hsn;go_quiet (fail)
    go_wp2_with fail
    exact⟨⟨⟨_,rfl⟩,_,HRn.out _,below_drewN HB2.out _⟩,by rw[HT.out];exact HM.out⟩
   ·have hsn2:(s == (h.num:Int))=false:=by rw[beq_eq_false_iff_ne];exact hsn
    go_quiet (fail)
    go_wp2_with fail
    exact⟨⟨⟨_,rfl⟩,_,HRn.out _,below_drewN HB2.out _⟩,by rw[HT.out];exact HM.out⟩
end
section
open Go.Shelf Go.RowKit Go.Lib Go.Sort
open Go.ChangeMaps (setBlock)
def KeysAt(w:World)(kg:Nat)(ks:List (Int × Int)):Prop:=∀i x,ks[i]?=some x->w.cell? ⟨kg,2 * i,none⟩=some (J x.1)/\w.cell? ⟨kg,2 * i+1,none⟩=some (J x.2)/\w.frozen? ⟨kg,2 * i,none⟩=false/\w.frozen? ⟨kg,2 * i+1,none⟩=false
theorem qge{w:World}{kg:Nat}{ks:List (Int × Int)}(h:KeysAt w kg ks):HoldsK encKey 2 w kg 0 ks.toArray:=by
 intro j hj;rw[size_flatK,yJ] at hj;rw[get_flatK _ _ _ _ (by simpa using hj)];have hj2:j / 2<ks.length:=by omega
 obtain⟨h0,h1,f0,f1⟩:=h (j / 2) ks[j / 2] (yh hj2);have e:ks.toArray[j / 2]! = ks[j / 2]:=by simp[hj2]
 rw[e,yS];rcases Nat.mod_two_eq_zero_or_one j with hm|hm
 ·have e2:j=2 * (j / 2):=by omega
  rw[hm];refine⟨?_,?_⟩
  ·show w.cell? (aT kg j)=some (J ks[j / 2].1);rw[<-h0];congr 2
  ·rw[<-f0];congr 2
 ·have e2:j=2 * (j / 2)+1:=by omega
  rw[hm];refine⟨?_,?_⟩
  ·show w.cell? (aT kg j)=some (J ks[j / 2].2);rw[<-h1];congr 2
  ·rw[<-f1];congr 2
theorem qlo{w:World}{kg:Nat}{d:Array (Int × Int)}(h:HoldsK encKey 2 w kg 0 d):KeysAt w kg d.toList:=by
 intro i x hx;have hi:i<d.size:=by have:=(ym.1 hx).1;simpa using this
 have e:d[i]! = x:=by
  have:=(ym.1 hx).2;rw[getElem!_pos d i hi];simpa using this
 have h0:=h (2 * i) (by simp;omega);have h1:=h (2 * i+1) (by simp;omega);rw[get_flatK _ _ _ _ (by omega),yS] at h0 h1;rw[show 2 * i / 2=i by omega,show 2 * i % 2=0 by omega,e] at h0;rw[show (2 * i+1) / 2=i by omega,show (2 * i+1) % 2=1 by omega,e] at h1;exact⟨h0.1,h1.1,h0.2,h1.2⟩
theorem qfa(w:World)(kg m:Nat)(d:Array (Int × Int))(os:Array Obj):w.grownBy (sortWorldK encKey 2 w kg 0 m d os) (some kg):=by
 refine⟨rfl,rfl,rfl,?_,fun k hk hne=>?_⟩
 ·unfold sortWorldK putRowK;simp[Sort.ahead]
 ·unfold sortWorldK putRowK;rw[heap_grow_old _ _ (by simpa[Sort.ahead] using hk)];unfold Sort.putRow Sort.mapBlock;have hkk:k≠kg:=fun e=>hne (by rw[e]);show ((Sort.ahead w m).heap.modify kg _)[k]?=_;rw[yaG,if_neg (fun e=>hkk e.symm)];rfl
theorem qjz(w:World)(kg cap:Nat)(ks:List (Int × Int))(hk:KeysAt w kg ks)(hlt:kg<w.heap.size)(hsz:ks.length<=1000000) :
 Calls prog 198 #[sT kg ks.length cap,.func (.func 199) #[] #[]] w fun e w'=>e=.returned (.tuple #[])/\w.grownBy w' (some kg)/\∃ks',ks'.Perm ks/\KeysAt w' kg ks':=by
 have eg:∀args w,(callFunc 199 args).run prog w=.ok (.enter 199 args) w:=enters_of Tryz.func199 (by kernel_rfl) rfl;have hcon:=AnyQ.slices_SortFunc Tryz.sortKeys 2 Tryz.isAgg186 Tryz.sizeOf186 encKey (fun _=>rfl) (fun x v hv=>by simp[encKey] at hv;rcases hv with rfl|rfl <;> rfl) cmpKey swoKey 199 #[] kg 0 cap ks.toArray w eg (qjy kg 0 _ w) (qge hk) hlt (by simp;omega);change Calls prog 198 _ _ _ at hcon;simp only[yJ] at hcon;refine hcon.mono ?_;rintro e w' ⟨rfl,d',n,os,hp, -,rfl⟩;have hs:d'.size=ks.toArray.size:=hp.1;refine⟨rfl,qfa _ _ _ _ _,d'.toList,?_,qlo (holdsK_sortWorldK encKey 2 w kg 0 n ks.toArray d' os hlt (qge hk) hs)⟩;have:=hp.2.2;rw[Array.extract_eq_self_of_le (by rw[hs];simp),Array.extract_eq_self_of_le (by simp)] at this;exact this
end
section
open Go.Shelf Go.RowKit Go.Lib Go.Sort
open Go.ChangeMaps (setBlock)
variable {w w':World}{F:Nat->Prop}{b:Nat}{h:Hd}{kn:List (List Int)}{l:Msgs}{evs:List Ev}{snt:List Par}{kb mb:Nat}{rbs:List Nat}{es:Array MapEntry}{clk:Nat}{ev sv:Value}
theorem qhg{α β:Type}(f:α->β):∀{ks ms:List β},ks.Perm ms->∀{l:List α},l.map f=ms->∃l':List α,l'.Perm l/\l'.map f=ks:=by
 intro ks ms hp;induction hp with
 |nil=>intro l hl;exact⟨[],by rw[List.map_eq_nil_iff.1 hl],rfl⟩
 | @cons x ks ms _ ih =>
   intro l hl;match l,hl with
   | a :: l, hl =>
     rw[yN] at hl;injection hl with h1 h2;obtain⟨l',hp',hm⟩:=ih h2;exact⟨a::l',hp'.cons a,by rw[yN,hm,h1]⟩
 | @swap x y ms =>
   intro l hl;match l,hl with
   | a :: c :: l, hl =>
     rw[yN,yN] at hl;injection hl with h1 h2;injection h2 with h2 h3;exact⟨c::a::l,List.Perm.swap a c l,by rw[yN,yN,h1,h2,h3]⟩
 | trans _ _ ih1 ih2 =>
   intro l hl;obtain⟨l2,hp2,hm2⟩:=ih2 hl;obtain⟨l1,hp1,hm1⟩:=ih1 hm2;exact⟨l1,hp1.trans hp2,hm1⟩
theorem infoKey:(prog.info? 186).map (fun i=>(i.zero,i.size,i.bytes))=some (some (.agg #[J 0,J 0]),2,16):=by kernel_rfl
theorem infoMsg:(prog.info? 179).map (fun i=>(i.zero,i.size,i.bytes))=some (some (.agg #[J 0,J 0,sN,.string ⟨#[]⟩]),4,56):=by kernel_rfl
def qri(vs:List MapEntry):List (Int × Int):=vs.map fun e=>keyI e.key
def qrl(ks:List (Int × Int)):List Value:=ks.flatMap encKey
theorem qfb:∀{ks:List (Int × Int)}{i:Nat}{x:Int × Int},ks[i]?=some x->(qrl ks)[2 * i]?=some (J x.1)/\(qrl ks)[2 * i+1]?=some (J x.2)
 |[],i,x,h=>by cases h
 | y :: ks, 0, x, h => by
   simp only[yak,yA] at h;subst h;exact⟨rfl,rfl⟩
 | y :: ks, i + 1, x, h => by
   have:=qfb (ks:=ks) (i:=i) (x:=x) (by simpa using h);have e:qrl (y::ks)=[J y.1,J y.2]++qrl ks:=rfl;rw[e,show 2 * (i+1)=2 * i+1+1 by omega];exact this
theorem qlp{base g cap:Nat}{ks:List (Int × Int)}(h:w.ownsRow base 186 2 (sT g ks.length cap) ks.length (qrl ks)):KeysAt w g ks/\base<=g/\g<w.heap.size:=by
 have hc:=h.cells (g:=g) rfl;have hl:=h.lt g rfl;have hadd:∀j,(⟨g,0,none⟩:Addr).add j=(aT g j):=fun j=>by unfold Addr.add;split <;> simp_all
 obtain⟨cur,hcur⟩:∃cur,w.heap[g]?=some (.cells cur 186 (0,0)):=by
  rcases h.2 with ⟨h0, -⟩|⟨g',cap',cur,h0, -,hc', -⟩
  ·cases h0
  ·injection h0 with h0;injection h0 with h0;injection h0 with h0;subst h0;exact⟨cur,hc'⟩
 refine⟨fun i x hx=>?_,hl⟩;obtain⟨h0,h1⟩:=qfb hx;have c0:=hc _ _ h0;have c1:=hc _ _ h1;rw[hadd] at c0 c1;exact⟨c0,c1,frozen_of_row w g _ cur 186 hcur,frozen_of_row w g _ cur 186 hcur⟩
structure Visited (es:Array MapEntry) (seen:Array Nat) (vs rest:List MapEntry):Prop where
 perm:(vs++rest).Perm es.toList
 out:∀e∈rest,seen.contains e.born=false
 inn:∀e∈vs,seen.contains e.born=true
theorem Visited.next{seen:Array Nat}{vs rest:List MapEntry}(v:Visited es seen vs rest)(hb:(es.toList.map (·.born)).Nodup){e:MapEntry}(he:e∈es.toList)(hs:seen.contains e.born=false):∃rest',Visited es (seen.push e.born) (vs++[e]) rest':=by
 have he2:=v.perm.mem_iff.2 he;have her:e∈rest:=by
  rcases yz.1 he2 with h1|h1
  ·rw[v.inn e h1] at hs;cases hs
  ·exact h1
 obtain⟨A,B,rfl⟩:=List.append_of_mem her;have hp:(vs++[e]++(A++B)).Perm es.toList:=by
  refine List.Perm.trans ?_ v.perm;rw[yav];refine List.Perm.append_left vs ?_;rw[List.singleton_append];exact List.perm_middle.symm
 have hnd:((vs++[e]++(A++B)).map (·.born)).Nodup:=(hp.map _).nodup_iff.2 hb;refine⟨A++B,hp,fun e' he'=>?_,fun e' he'=>?_⟩
 ·have h1:seen.contains e'.born=false:=v.out e' (by rcases yz.1 he' with h|h <;> simp[h]);have hne:e'.born≠e.born:=fun hb'=>by
   rw[y8,yaE] at hnd;exact hnd.2.2 e.born (by simp) e'.born (yaC he') hb'.symm
  rw[Array.contains_push,h1];simp[hne]
 ·rcases yz.1 he' with h1|h1
  ·rw[Array.contains_push,v.inn e' h1];simp
  ·rw[yu] at h1;subst h1;simp
theorem Visited.end{seen:Array Nat}{vs rest:List MapEntry}(v:Visited es seen vs rest)(h0:(leftOf es seen).size=0):vs.Perm es.toList:=by
 have hr:rest=[]:=by
  apply List.eq_nil_iff_forall_not_mem.2;intro e he;have hm:=v.perm.mem_iff.1 (yz.2 (.inr he));have:e∈(leftOf es seen).toList:=by
   unfold leftOf;rw[Array.toList_filter,yM];exact⟨hm,by rw[v.out e he];rfl⟩
  rw[Array.eq_empty_of_size_eq_zero h0] at this;cases this
 have:=v.perm;rw[hr,ya0] at this;exact this
theorem qo4(hm:MapOf es clk l):qri es.toList=l.map fun x=>(x.1.sender,x.1.seq):=by
 unfold qri;have:=congrArg (List.map keyI) hm.key;rw[yaD,yaD] at this;exact this
theorem qhh(ks:List (Int × Int))(x:Int × Int):qrl (ks++[x])=qrl ks++[J x.1,J x.2]:=by simp[qrl,encKey]
def MsgsIn(w:World)(M:Nat)(xs:Msgs)(k:Nat):Prop:=∃cur:Array Value,w.heap[M]?=some (.cells cur 179 (0,0))/\cur.size=4 * xs.length/\∀i x,i<k->xs[i]?=some x->cur[4 * i]?=some (J x.1.sender)/\cur[4 * i+1]?=some (J x.1.seq)/\cur[4 * i+2]?=some x.2/\cur[4 * i+3]?=some (.string x.1.text)
theorem qf0(p:PA w F b h kn l evs snt kb mb rbs es clk ev sv)(hl:l.length<=100000) :
 Calls prog 166 #[pT b 0] w fun e w'=>Below w.heap.size w w'/\∃M xs,w.heap.size<=M/\xs.Perm l/\e=.returned (sT M l.length l.length)/\MsgsIn w' M xs l.length:=by
 obtain⟨i0,hi0,hz0,hz1,hz2⟩:=info_parts infoKey;obtain⟨i1,hi1,hy0,hy1,hy2⟩:=info_parts infoMsg;have HC15:Hid (∀w',Below w.heap.size w w'->w'.cell? (aT b 15)=some (.map (some mb))/\w'.heap[mb]?=some (.map es clk)):=fun w' hw=>⟨(p.blk.below hw p.blk.lt).cell 15 _ rfl,(hw.block mb p.ltm).trans p.map⟩;have hesz:es.size=l.length:=p.mo.length;have hold:=p.mo.old;have hborn:=p.mo.born;have HK:Hid (qri es.toList=l.map fun x=>(x.1.sender,x.1.seq)):=qo4 p.mo;have HAT:Hid (∀e∈es.toList,∃v,e.key=.agg #[J (keyI e.key).1,J (keyI e.key).2]/\e.val=v):=fun e he=>by
  obtain⟨i,hi,rfl⟩:=y4 he;obtain⟨x, -,hk, -⟩:=p.mo.at (yh hi);exact⟨_,by rw[hk];rfl,rfl⟩
 have HYES:Hid (∀w' (x:Codec.Msg × Value),Below w.heap.size w w'->x∈l->(Instr.lookup 156 (.map (some mb)) (.agg #[J x.1.sender,J x.1.seq]) false).run prog w'=.ok (msgV x.1 x.2) w'):=fun w' x hw hx=>qg4 w' x.1.sender x.1.seq ((hw.block mb p.ltm).trans p.map) p.mo p.apart hx (by simp[isK]) false;have HT:Hid (∀x∈l,∃ao tn tc,x.2=.slice ao tn tc):=fun x hx=>(p.times x hx).1.form3;obtain⟨w1,hmk,hown1,hgr1⟩:=run_make_own (P:=prog) w w.heap.size 238 186 i0 _ 2 Tryz.underlying238 hi0 hz0 hz1 .i64 .i64 l.length (by rw[hz2];omega) (by simp[maxLen];omega) (yb _);have hB1:Below w.heap.size w w1:=⟨hgr1.os,hgr1.tape,hgr1.output,hgr1.size,fun k hk=>hgr1.block k hk (fun e=>by cases e)⟩;have HB1:Hid (Below w.heap.size w w1):=hB1;obtain⟨c15,hmap⟩:=HC15.out w (yi _ _);obtain⟨c15',hmap1⟩:=HC15.out w1 hB1;have HOWN1:Hid (w1.ownsRow w.heap.size 186 2 (sT w.heap.size 0 l.length) 0 []):=hown1;have hlen:(Builtin.len_ #[156] 3 #[.map (some mb)]).run prog w=.ok (J l.length) w:=by
  have:=run_len_map (P:=prog) w 156 3 mb es clk (by kernel_rfl) hmap;rw[hesz] at this;exact this
 clear p hown1 hgr1;go_enter Tryz.func166,Tryz.ntmps166
 go_wp2_with (at_range;refine qal _ rfl _ 156 186 179 rfl Tryz.underlying156 rfl hmap1 hold hborn ?_;intro hR0)
 go_frame
 have hr1:Hid (w.heap.size<=w1.heap.size):=hB1.size;generalize hrb:w1.heap.size=rb at hR0 hr1 ⊢;have HR0:Hid (Ranging (w1.alloc (.mapIter (some mb) clk #[] clk)) mb rb es clk #[]):=hR0;have HB0:Hid (Below w.heap.size w (w1.alloc (.mapIter (some mb) clk #[] clk))):=hB1.alloc (by rw[hrb];exact hr1.out) _;have HOWN0:Hid ((w1.alloc (.mapIter (some mb) clk #[] clk)).ownsRow w.heap.size 186 2 (sT w.heap.size 0 l.length) 0 []):=HOWN1.out.alloc _;clear hR0 hmap hmap1 c15 c15' hmk hlen HOWN1 hB1 HB1 hrb;go_loopw [3] (fun v wr=>∃seen vs rest g cap,Ranging wr mb rb es clk seen/\Below w.heap.size w wr/\Visited es seen vs rest/\v=sT g (qri vs).length cap/\wr.ownsRow w.heap.size 186 2 (sT g (qri vs).length cap) (qri vs).length (qrl (qri vs))) (fun _ wr=>toCome wr mb rb)
 case atStart=>exact⟨#[],[],es.toList,w.heap.size,l.length,HR0.out,HB0.out,⟨List.Perm.refl _,fun e _=>by simp,fun e he=>by cases he⟩,rfl,HOWN0.out⟩
 case round=>
  obtain⟨seen,vs,rest,g,cap,hR,hB,hV,rfl,hown⟩:=hrel;have hms:=hR.toCome;have HB:Hid (Below w.heap.size w wr):=hB;have HV:Hid (Visited es seen vs rest):=hV;have HOWN:Hid (wr.ownsRow w.heap.size 186 2 (sT g (qri vs).length cap) (qri vs).length (qrl (qri vs))):=hown;clear hB hV hown HR0 HB0 HOWN0;go_wp2_with (at_next;refine qaq _ rfl _ rfl mb rb rfl hR ?_ ?_)
  ·intro h0;have h0':(leftOf es seen).size=0:=by simpa using h0
   have hvp:=HV.out.end h0';have hkp:(qri vs).Perm (l.map fun x=>(x.1.sender,x.1.seq)):=by
    rw[<-HK.out];exact hvp.map _
   have hkl:(qri vs).length=l.length:=by rw[hkp.length_eq,yL]
   obtain⟨hka,hgb,hgl⟩:=qlp HOWN.out;have HGB:Hid (w.heap.size<=g/\g<wr.heap.size):=⟨hgb,hgl⟩;have hso:=qjz wr g cap (qri vs) hka hgl (by omega);have HSO:Hid (Calls prog 198 #[sT g l.length cap,.func (.func 199) #[] #[]] wr fun e w'=>e=.returned (.tuple #[])/\Below w.heap.size w w'/\g<w'.heap.size/\∃xs:Msgs,xs.Perm l/\KeysAt w' g (xs.map fun x=>(x.1.sender,x.1.seq))):=by
    rw[Hid,<-hkl];refine hso.mono ?_;rintro e w' ⟨rfl,hgr,ks',hp',hk'⟩;obtain⟨xs,hxp,hxm⟩:=qhg (fun x:Codec.Msg × Value=>(x.1.sender,x.1.seq)) (hp'.trans hkp) rfl;exact⟨rfl,qb1 HB.out HGB.out.1 hgr,yg HGB.out.2 hgr.size,xs,hxp,by rw[hxm];exact hk'⟩
   clear h0 h0' hvp hkp hka hgb hgl hso HOWN HV hR hms;rw[hkl];clear hkl;go_wp2_with fail
   refine HSO.out.mono ?_;rintro e w3 ⟨rfl,hB3,hg3,xs,hxp,hka3⟩;have HB3:Hid (Below w.heap.size w w3/\g<w3.heap.size):=⟨hB3,hg3⟩;have HXP:Hid (xs.Perm l):=hxp;have hxl:Hid (xs.length=l.length):=hxp.length_eq;have hmk:=run_make (P:=prog) w3 163 179 i1 _ Tryz.underlying163 hi1 hy0 .i64 .i64 (l.length:Int) (l.length:Int) (by omega) (yaY _) (by rw[hy2];omega) (by omega);rw[yai,hy1] at hmk;have HKA:Hid (KeysAt (w3.alloc (.cells (madeCells (Value.agg #[J 0,J 0,sN,.string ⟨#[]⟩]).cells (l.length * 4)) 179)) g (xs.map fun x=>(x.1.sender,x.1.seq))):=fun i x hx=>by
    obtain⟨a1,a2,a3,a4⟩:=hka3 i x hx;exact⟨(yax _ _ _ hg3).trans a1,(yax _ _ _ hg3).trans a2,(yae (a:=⟨g,2 * i,none⟩) (yQ _ _ _ hg3)).trans a3,(yae (a:=⟨g,2 * i+1,none⟩) (yQ _ _ _ hg3)).trans a4⟩
   have HMI:Hid (MsgsIn (w3.alloc (.cells (madeCells (Value.agg #[J 0,J 0,sN,.string ⟨#[]⟩]).cells (l.length * 4)) 179)) w3.heap.size xs 0):=⟨_,heap_alloc_new w3 _,by rw[size_madeCells,hxp.length_eq,Nat.mul_comm],fun i x hi=>absurd hi (by omega)⟩;have HB4:Hid (Below w.heap.size w (w3.alloc (.cells (madeCells (Value.agg #[J 0,J 0,sN,.string ⟨#[]⟩]).cells (l.length * 4)) 179))):=hB3.alloc hB3.size _;have hs4:Hid (w3.heap.size<(w3.alloc (.cells (madeCells (Value.agg #[J 0,J 0,sN,.string ⟨#[]⟩]).cells (l.length * 4)) 179)).heap.size):=by simp[Hid]
   have HM3:Hid (w.heap.size<=w3.heap.size):=hB3.size;clear hB3 hg3 hxp hka3 HSO HAT HK hold hborn hesz;generalize w3.alloc (.cells (madeCells (Value.agg #[J 0,J 0,sN,.string ⟨#[]⟩]).cells (l.length * 4)) 179)=w4 at hmk HKA HMI HB4 hs4;go_wp2_with fail
   have hMg:Hid (g≠w3.heap.size):=by have:=HB3.out.2;simp only[Hid];omega
   generalize w3.heap.size=M at HMI hs4 hMg HM3 ⊢;clear hmk HB3 HGB;go_loopw [34] (fun i wr=>∃k:Nat,k<=l.length/\i=J k/\KeysAt wr g (xs.map fun x=>(x.1.sender,x.1.seq))/\MsgsIn wr M xs k/\Below w.heap.size w wr) (fun i _=>l.length - (intOf i).toNat)
   case atStart=>exact⟨0,by omega,rfl,HKA.out,HMI.out,HB4.out⟩
   case round=>
    obtain⟨k,hk,rfl,hKA,hMI,hB⟩:=hrel;by_cases hlt:k<l.length
    ·obtain⟨xk,hxk⟩:∃xk,xs[k]?=some xk:=⟨_,yh (by rw[hxl.out];exact hlt)⟩;have hxm:xk∈l:=HXP.out.mem_iff.1 (yy hxk);obtain⟨q0,q1, -, -⟩:=hKA k (xk.1.sender,xk.1.seq) (by rw[yZ,hxk];rfl);obtain⟨ao,tn,tc,hxv⟩:=HT.out _ hxm;have HY:Hid (∀w',Below w.heap.size w w'->(Instr.lookup 156 (.map (some mb)) (.agg #[J xk.1.sender,J xk.1.seq]) false).run prog w'=.ok (.agg #[J xk.1.sender,J xk.1.seq,.slice ao tn tc,.string xk.1.text]) w'):=fun w' hw=>by
      have:=HYES.out w' xk hw hxm;rw[hxv] at this;exact this
     obtain⟨cur,hcur,hcs,hcx⟩:=hMI;have hML:M<wr.heap.size:=(yk.1 hcur).1;have hcs':cur.size=4 * l.length:=by rw[hcs,hxl.out]
     have HNEXT:Hid (∀w',w'.heap[M]?=some (.cells ((((cur.setIfInBounds (k * 4) (J xk.1.sender)).setIfInBounds (k * 4+1) (J xk.1.seq)).setIfInBounds (k * 4+2) (.slice ao tn tc)).setIfInBounds (k * 4+3) (.string xk.1.text)) 179 (0,0))->MsgsIn w' M xs (k+1)):=fun w' hw=>by
      refine⟨_,hw,by simpa using hcs,fun i x hi hx=>?_⟩;simp only[yac,Array.size_setIfInBounds];rcases yaS.1 hi with hi|rfl
      ·obtain⟨r0,r1,r2,r3⟩:=hcx i x hi hx;refine⟨?_,?_,?_,?_⟩
       ·rw[if_neg (by omega),if_neg (by omega),if_neg (by omega),if_neg (by omega)];exact r0
       ·rw[if_neg (by omega),if_neg (by omega),if_neg (by omega),if_neg (by omega)];exact r1
       ·rw[if_neg (by omega),if_neg (by omega),if_neg (by omega),if_neg (by omega)];exact r2
       ·rw[if_neg (by omega),if_neg (by omega),if_neg (by omega),if_neg (by omega)];exact r3
      ·rw[hxk] at hx;injection hx with hx;subst hx;have hlt4:i * 4+3<cur.size:=by omega
       refine⟨?_,?_,?_,?_⟩
       ·rw[if_neg (by omega),if_neg (by omega),if_neg (by omega),if_pos (by omega),if_pos (by omega)]
       ·rw[if_neg (by omega),if_neg (by omega),if_pos (by omega),if_pos (by omega)]
       ·rw[if_neg (by omega),if_pos (by omega),if_pos (by omega),hxv]
       ·rw[if_pos (by omega),if_pos (by omega)]
     have HKA2:Hid (KeysAt wr g (xs.map fun x=>(x.1.sender,x.1.seq))/\g<wr.heap.size):=⟨hKA,yI wr _ q0⟩;have HB:Hid (Below w.heap.size w wr):=hB;have HCUR:Hid (wr.heap[M]?=some (.cells cur 179 (0,0))/\k * 4+3<cur.size):=⟨hcur,by omega⟩;have hlt1:(k:Int)<(l.length:Int):=by omega
     have hk0:(0:Int)<=(k:Int):=by omega
     clear hKA hB hcur hcs hcs' hcx hxk hxm hxv HXP HYES HT HMI HKA HB4 hML;simp only[show 2 * k=k * 2 by omega] at q0 q1;generalize xk.1.sender=xs1 at q0 HY HNEXT;generalize xk.1.seq=xs2 at q1 HY HNEXT;generalize xk.1.text=xs3 at HY HNEXT;go_wp2_with fail
     have HB5:Hid (Below w.heap.size w (wr.alloc (.cells #[J xs1,J xs2] 186))):=HB.out.alloc HB.out.size _;have hX:=BlkAt.new wr wr.heap.size rfl 186 #[J xs1,J xs2];have d0:=hX.cell 0 _ rfl;have d1:=hX.cell 1 _ rfl;simp only[yf,yd,ye] at d0 d1;have HM5:Hid (BlkAt (wr.alloc (.cells #[J xs1,J xs2] 186)) M 179 cur):=(yQ _ _ _ (yk.1 HCUR.out.1).1).trans HCUR.out.1;have HK5:Hid (∀w',Only M (wr.alloc (.cells #[J xs1,J xs2] 186)) w'->KeysAt w' g (xs.map fun x=>(x.1.sender,x.1.seq))):=fun w' hw i x hx=>by
      obtain⟨a1,a2,a3,a4⟩:=HKA2.out.1 i x hx;have hbl:w'.heap[g]?=wr.heap[g]?:=(hw.block g hMg.out).trans (yQ _ _ _ HKA2.out.2);exact⟨(yq (a:=⟨g,2 * i,none⟩) hbl).trans a1,(yq (a:=⟨g,2 * i+1,none⟩) hbl).trans a2,(yae (a:=⟨g,2 * i,none⟩) hbl).trans a3,(yae (a:=⟨g,2 * i+1,none⟩) hbl).trans a4⟩
     have hlook:=HY.out _ HB5.out.drew;have c15:=(HC15.out _ HB5.out).1;have f0:=HM5.out.frozen (k * 4);have f1:=HM5.out.frozen (k * 4+1);have f2:=HM5.out.frozen (k * 4+2);have f3:=HM5.out.frozen (k * 4+3);have hcz:=HCUR.out.2;have g0:=HM5.out.cell (k * 4) cur[k * 4] (yl (by omega));have g1:=HM5.out.cell (k * 4+1) cur[k * 4+1] (yl (by omega));have g2:=HM5.out.cell (k * 4+2) cur[k * 4+2] (yl (by omega));have g3:=HM5.out.cell (k * 4+3) cur[k * 4+3] (yl (by omega));generalize cur[k * 4]=cu0 at g0;generalize cur[k * 4+1]=cu1 at g1;generalize cur[k * 4+2]=cu2 at g2;generalize cur[k * 4+3]=cu3 at g3;clear hX q0 q1 HY HC15 HB HKA2 HCUR hcz;generalize wr.alloc (.cells #[J xs1,J xs2] 186)=w5 at HB5 HM5 HK5 hlook c15 f0 f1 f2 f3 g0 g1 g2 g3 d0 d1 ⊢;refine Ends.begin (fun w'=>w'=w5.drew) 9 rfl rfl (fun hHeld=>?_);refine tk 0 ?_;refine tk 1 ?_;refine tk 2 ?_;refine tk 3 ?_;refine tk 4 ?_;refine tk 5 ?_;refine tk 6 ?_;refine tk 7 ?_;refine tk 8 ?_;refine te 9 fun K hK=>?_;go_simp;refine hK.out _ _ (fun h=>absurd rfl h) (fun _=>?_);clear hK K;try simp only[pU]
     refine Ends.done (by kernel_rfl) ?_ _;have hO6:Only M w5 ((((w5.setCell ⟨M,k * 4,none⟩ (J xs1)).setCell ⟨M,k * 4+1,none⟩ (J xs2)).setCell ⟨M,k * 4+2,none⟩ (.slice ao tn tc)).setCell ⟨M,k * 4+3,none⟩ (.string xs3)):=((((Only.refl M w5).set _ _).set _ _).set _ _).set _ _;have hB6:=(((HM5.out.set (k * 4) (J xs1)).set (k * 4+1) (J xs2)).set (k * 4+2) (.slice ao tn tc)).set (k * 4+3) (.string xs3);have HR6:Hid (KeysAt _ g (xs.map fun x=>(x.1.sender,x.1.seq))/\MsgsIn _ M xs (k+1)/\Below w.heap.size w _):=⟨HK5.out _ hO6,HNEXT.out _ hB6,HB5.out.trans (hO6.below HM3.out)⟩;clear hO6 hB6 HK5 HM5 HNEXT hlook c15 f0 f1 f2 f3 g0 g1 g2 g3 d0 d1 hHeld;generalize ((((w5.setCell ⟨M,k * 4,none⟩ (J xs1)).setCell ⟨M,k * 4+1,none⟩ (J xs2)).setCell ⟨M,k * 4+2,none⟩ (.slice ao tn tc)).setCell ⟨M,k * 4+3,none⟩ (.string xs3))=w6 at HR6 ⊢;go_wp2_with fail
     exact⟨⟨k+1,by omega,by go_num,HR6.out.1,HR6.out.2.1,HR6.out.2.2.drew⟩,by simp[intOf];omega⟩
    ·have hge:¬(k:Int)<(l.length:Int):=by omega
     have hkl:k=l.length:=by omega
     have HFIN:Hid (Below w.heap.size w wr/\∃M' xs',w.heap.size<=M'/\xs'.Perm l/\Ending.returned (sT M l.length l.length)=.returned (sT M' l.length l.length)/\MsgsIn wr M' xs' l.length):=⟨hB,M,xs,HM3.out,HXP.out,rfl,by rw[<-hkl];exact hMI⟩;clear hKA hMI hB;go_wp2_with fail
     go_ret;obtain⟨a0,M',xs',a1,a2,a3,a4⟩:=HFIN.out;exact⟨a0,M',a1,xs',a2,a3,a4⟩
  ·intro e w1 he hse hR1 hG1 hs1 hen;have he':e∈es.toList:=by simpa using he
   have hse':seen.contains e.born=false:=by simpa using hse
   clear he hse;obtain⟨v,hk,hv⟩:=HAT.out e he';rw[hk,hv] at hen ⊢;obtain⟨rest',hV'⟩:=HV.out.next hborn he' hse';have HV':Hid (Visited es (seen.push e.born) (vs++[e]) rest'):=hV';have hko:qri (vs++[e])=qri vs++[keyI e.key]:=by simp[qri]
   obtain⟨cur,hcur⟩:∃cur,wr.heap[g]?=some (.cells cur 186 (0,0)):=by
    rcases HOWN.out.2 with ⟨h0, -⟩|⟨g',cap',cur,h0, -,hc', -⟩
    ·cases h0
    ·injection h0 with h0;injection h0 with h0;injection h0 with h0;subst h0;exact⟨cur,hc'⟩
   have hgrb:g≠rb:=fun e=>by rw[e,hR.it] at hcur;cases hcur
   have hgmb:g≠mb:=qy hcur hR.map;have hglt:g<wr.heap.size:=(yk.1 hcur).1;have hcur1:w1.heap[g]?=some (.cells cur 186 (0,0)):=(hG1.block g hglt (fun e=>hgrb (by injection e))).trans hcur;have hown1:w1.ownsRow w.heap.size 186 2 (sT g (qri vs).length cap) (qri vs).length (qrl (qri vs)):=qd HOWN.out fun g' hg'=>by
    have:g'=g:=by simpa[Value.ownBlock] using hg'.symm
    subst this;exact hG1.block g' hglt (fun e=>hgrb (by injection e))
   have hB1:Below w.heap.size w w1:=qb1 HB.out hr1.out hG1;have HL:Hid ((qri vs).length<=100000):=by
    have:=HV'.out.perm.length_eq;simp only[Hid,qri,yL];simp only[yC] at this;rw[show es.toList.length=es.size from yab,hesz] at this;omega
   have HMS:Hid ((leftOf es (seen.push e.born)).size<toCome wr mb rb):=by rw[Hid,hms];exact qca he' hse'
   generalize keyI e.key=kk at hen hko ⊢;obtain⟨k1,k2⟩:=kk;have HKO:Hid (qri (vs++[e])=qri vs++[(k1,k2)]):=hko;generalize hks:qri vs=ks at HOWN hown1 HKO HL ⊢;have hB2:Below w1.heap.size w1 ((w1.alloc (.cells #[J k1,J k2] 186)).alloc (.cells #[J k1,J k2] 186)):=((yi _ _).alloc (yb _) _).alloc (by simp) _;have HOW2:Hid (((w1.alloc (.cells #[J k1,J k2] 186)).alloc (.cells #[J k1,J k2] 186)).ownsRow w.heap.size 186 2 (sT g ks.length cap) ks.length (qrl ks)):=(hown1.alloc _).alloc _;have HNEW:Hid (BlkAt ((w1.alloc (.cells #[J k1,J k2] 186)).alloc (.cells #[J k1,J k2] 186)) (wr.heap.size+1) 186 #[J k1,J k2]):=BlkAt.new _ _ (by simp[hs1]) 186 _;have d0:=((BlkAt.new w1 wr.heap.size hs1 186 #[J k1,J k2])).cell 0 _ rfl;have d1:=((BlkAt.new w1 wr.heap.size hs1 186 #[J k1,J k2])).cell 1 _ rfl;simp only[yf,yd,ye] at d0 d1;have HFIN:Hid (∀w3 g' cap',w3.ownsRow w.heap.size 186 2 (sT g' (ks.length+1) cap') (ks.length+1) (qrl ks++[J k1,J k2])->((w1.alloc (.cells #[J k1,J k2] 186)).alloc (.cells #[J k1,J k2] 186)).grownBy w3 (some g)->(∃seen vs rest g'' cap'',Ranging w3 mb rb es clk seen/\Below w.heap.size w w3/\Visited es seen vs rest/\Value.slice (some ⟨g',0,none⟩) (ks.length+1) cap'=sT g'' (qri vs).length cap''/\w3.ownsRow w.heap.size 186 2 (sT g'' (qri vs).length cap'') (qri vs).length (qrl (qri vs)))/\toCome w3 mb rb<toCome wr mb rb):=fun w3 g' cap' ho hg=>by
    have hR2:=hR1.kept hB2;have hR3:Ranging w3 mb rb es clk (seen.push e.born):=⟨(hg.block mb (yk.1 hR2.map).1 (fun e=>hgmb (by injection e with e;exact e.symm))).trans hR2.map,(hg.block rb (yk.1 hR2.it).1 (fun e=>hgrb (by injection e with e;exact e.symm))).trans hR2.it,hR2.old,hR2.born⟩;have hkl:(qri (vs++[e])).length=ks.length+1:=by rw[HKO.out];simp
    refine⟨⟨_,vs++[e],rest',g',cap',hR3,?_,HV'.out,by rw[hkl],?_⟩,?_⟩
    ·exact qb1 (hB1.trans (hB2.mono hB1.size)) (HOWN.out.lt g rfl).1 hg
    ·rw[hkl,HKO.out,qhh];exact ho
    ·rw[hR3.toCome];exact HMS.out
   have HLE1:Hid (ks.length+1<=maxLen/\(ks.length+1) * 16<=140737488355328):=by have:=HL.out;simp only[Hid,maxLen];omega
   have HLE2:Hid (w.heap.size<=((w1.alloc (.cells #[J k1,J k2] 186)).alloc (.cells #[J k1,J k2] 186)).heap.size):=by have:=hB1.size;simp only[Hid,World.size_alloc];omega
   have hsz2:Hid (((w1.alloc (.cells #[J k1,J k2] 186)).alloc (.cells #[J k1,J k2] 186)).heap.size=wr.heap.size+1+1):=by simp[Hid,hs1]
   clear hV' hko hcur hgrb hgmb hglt hcur1 hown1 hB1 hR hR1 hG1 hms HV HOWN HMS hB2 he' hse' hk hv HV' HKO HAT HK hborn hold hks HC15 HYES HT;go_wp2_with (at_builtin;refine wpList_append_lies _ rfl (.tmp 23) (.tmp 25) 238 rfl w.heap.size 186 i0 _ 2 16 Tryz.underlying238 hi0 hz0 hz1 hz2 rfl (by decide) _ _ (qrl ks) rfl HOW2.out ⟨wr.heap.size+1,0,none⟩ 1 1 [J k1,J k2] rfl rfl (yaB HNEW.out) (by intro u hu;simp only[yF,yU,or_false] at hu;rcases hu with rfl|rfl <;> rfl) (by omega) HLE1.out.1 HLE1.out.2 HLE2.out _ rfl ?_;intro g' cap' w3 hown3 hgr3 hor3 hlt3)
   exact HFIN.out w3 g' cap' hown3 hgr3
end
section
open Go.RowKit
open Go.ChangeMaps (setBlock)
variable {w w':World}{F:Nat->Prop}{b:Nat}{h:Hd}{kn:List (List Int)}{l:Msgs}{evs:List Ev}{snt:List Par}{kb mb:Nat}{rbs:List Nat}{es:Array MapEntry}{clk:Nat}{ev sv:Value}
def members(set:Int)(n:Nat):List Nat:=(List.range n).filter (hasB set)
theorem qd1(set:Int)(k:Nat):members set (k+1)=if hasB set k=true then members set k++[k] else members set k:=by
 unfold members;rw[List.range_succ,ya6];cases hk:hasB set k <;> simp[hk]
def qrp(l:List Nat):List Value:=l.map fun (q:Nat)=>Value.int .i64 (q:Int)
theorem infoI3:(prog.info? 3).map (fun i=>(i.zero,i.size,i.bytes))=some (some (J 0),1,8):=by kernel_rfl
theorem qqo(p:PA w F b h kn l evs snt kb mb rbs es clk ev sv)(hn:h.n<=6)(set:Int) :
 Calls prog 164 #[pT b 0,J set] w fun e w'=>∃v,e=.returned v/\w'.ownsRow w.heap.size 3 1 v (members set h.n).length (qrp (members set h.n))/\Below w.heap.size w w':=by
 obtain⟨i0,hi0,hz0,hz1,hz2⟩:=info_parts infoI3;have c1:=p.blk.cell 1 _ rfl;simp only[Hd.cells,yf,yd,ye] at c1;clear p;go_enter Tryz.func164,Tryz.ntmps164
 go_wp2_with fail
 go_loopw [5,11] (fun v i wr=>∃k:Nat,k<=h.n/\i=J k/\wr.ownsRow w.heap.size 3 1 v (members set k).length (qrp (members set k))/\Below w.heap.size w wr) (fun _ i _=>h.n - (intOf i).toNat)
 case atStart=>exact⟨0,by omega,rfl,(by have:=y9 w w.heap.size 3 1;simpa[members,qrp] using this),yi _ _⟩
 case round=>
  obtain⟨k,hk,rfl,hown,hB⟩:=hrel;have HOWN:Hid (wr.ownsRow w.heap.size 3 1 u5 (members set k).length (qrp (members set k))):=hown;have HB:Hid (Below w.heap.size w wr):=hB;clear hown hB;obtain⟨ao,vc,hv⟩:=qp HOWN.out;subst hv;by_cases hlt:k<h.n
  ·have hlt1:(k:Int)<(h.n:Int):=by omega
   have hl:Hid ((members set k).length<=6):=by
    have:(members set k).length<=(List.range k).length:=yaR _ _;simp only[Hid];simp at this;omega
   cases hh:hasB set k with
   | false =>
     have HM:Hid (members set (k+1)=members set k):=by rw[Hid,qd1,hh];rfl
     go_wp2_with (go_at_call 173;refine(qe3 _ _ _ (by omega)).mono ?_;rintro e w2 ⟨rfl,rfl⟩;rw[hh])
     exact⟨⟨k+1,by omega,by go_num,by rw[HM.out];exact HOWN.out,HB.out⟩,by simp[intOf];omega⟩
   | true =>
     have HM:Hid (members set (k+1)=members set k++[k]):=by rw[Hid,qd1,hh];rfl
     have HOW2:Hid ((wr.alloc (.cells #[J k] 3)).ownsRow w.heap.size 3 1 (.slice ao (members set k).length vc) (members set k).length (qrp (members set k))):=HOWN.out.alloc _;have HNEW:Hid (BlkAt (wr.alloc (.cells #[J k] 3)) wr.heap.size 3 #[J k]):=BlkAt.new wr wr.heap.size rfl 3 _;have HLE1:Hid ((members set k).length+1<=maxLen/\((members set k).length+1) * 8<=140737488355328):=by have:=hl.out;simp only[Hid,maxLen];omega
     have HLE2:Hid (w.heap.size<=(wr.alloc (.cells #[J k] 3)).heap.size):=by have:=HB.out.size;simp only[Hid,World.size_alloc];omega
     have HGB:Hid (∀w3,(wr.alloc (.cells #[J k] 3)).grownBy w3 (Value.slice ao (members set k).length vc).ownBlock->Below w.heap.size w w3):=fun w3 hg=>by
      have hb2:Below w.heap.size w (wr.alloc (.cells #[J k] 3)):=HB.out.alloc HB.out.size _;exact hb2.trans ⟨hg.os,hg.tape,hg.output,hg.size,fun j hj=>hg.block j (yg hj HLE2.out) (fun e=>by have:=(HOWN.out.lt j e.symm).1;omega)⟩
     go_wp2_with (first|(go_at_call 173;refine(qe3 _ _ _ (by omega)).mono ?_;rintro e w2 ⟨rfl,rfl⟩;rw[hh])|(at_builtin;refine wpList_append_own_at _ rfl (.tmp 17) (.tmp 19) 69 rfl w.heap.size 3 i0 _ 1 8 Tryz.underlying69 hi0 hz0 hz1 hz2 rfl (by decide) _ _ (qrp (members set k)) rfl HOW2.out ⟨_,0,none⟩ 1 1 [J k] rfl rfl (yaB HNEW.out) (by intro u hu;simp only[yF,yU,or_false] at hu;rcases hu with rfl;rfl) HLE1.out.1 HLE1.out.2 HLE2.out ?_;intro v' w3 hown3 hgr3 _ _))
     exact⟨⟨k+1,by omega,by go_num,(by rw[HM.out];simp only[qrp,y8,yC,yN,yaK,yx,yD] at hown3 ⊢;exact hown3),HGB.out w3 hgr3⟩,by simp[intOf];omega⟩
  ·have hge:¬(k:Int)<(h.n:Int):=by omega
   have hkn:k=h.n:=by omega
   go_wp2_with fail
   go_ret;subst hkn;exact⟨_,rfl,HOWN.out,HB.out⟩
theorem qlq:∀n,n<7->∀j,j<n->members (bits .andNot .i64 (full n) (IntKind.i64.wrap (2 ^ min j 64))) n=(List.range n).filter (fun q=>decide (q≠j)):=by decide
theorem qfc(hc:CalmHd h)(p:PA w F b h kn l evs snt kb mb rbs es clk ev sv) :
 Calls prog 110 #[pT b 0] w fun e w'=>∃v os,e=.returned v/\w'.ownsRow w.heap.size 3 1 v os.length (qrp os)/\Below w.heap.size w w'/\os=(List.range h.n).filter (fun q=>decide (q≠h.num)):=by
 have HL:Hid (∀set w',Below w.heap.size w w'->Calls prog 164 #[pT b 0,J set] w' fun e w''=>∃v,e=.returned v/\w''.ownsRow w'.heap.size 3 1 v (members set h.n).length (qrp (members set h.n))/\Below w'.heap.size w' w''):=fun set w' hw=>qqo (p.below hw) hc.n1 set;have HC:Hid (∀w',Below w.heap.size w w'->w'.cell? (aT b 0)=some (J h.num)/\w'.cell? (aT b 7)=some (J (full h.n))):=fun w' hw=>by
  have c0:=(p.below hw).blk.cell 0 _ rfl;have c7:=(p.below hw).blk.cell 7 _ rfl;simp only[Hd.cells,yf,yd,ye,hc.members] at c0 c7;exact⟨c0,c7⟩
 have hnum0:(0:Int)<=(h.num:Int):=by omega
 have HSET:Hid (members (bits .andNot .i64 (full h.n) (IntKind.i64.wrap (2 ^ min h.num 64))) h.n=(List.range h.n).filter (fun q=>decide (q≠h.num))):=qlq h.n (by have:=hc.n1;omega) h.num hc.num;clear p hc;go_enter Tryz.func110,Tryz.ntmps110
 go_wp2_with fail
 refine wp_region_held_drew (S:=fun w'=>w'.cell? (aT b 0)=some (J h.num)/\w'.cell? (aT b 7)=some (J (full h.n))) rfl (HC.out _ (yi _ _).drew) (fun hHeld=>?_);refine wk 0 ?_;refine wk 1 ?_;refine wk 2 ?_;refine wk 3 ?_;refine wk 4 ?_;refine wk 5 ?_;refine wk 6 ?_;refine wk 7 ?_;refine wk 8 ?_;refine wk 9 ?_;refine wk 10 ?_;refine we 11 fun K hK=>?_;go_simp;refine(HL.out _ _ (yi _ _).drew).mono ?_;rintro e w2 ⟨v,rfl,hown,hb2⟩;rw[HSET.out] at hown;have HB2:Hid (Below w.heap.size w w2):=((yi _ _).drew).trans (hb2.mono (by simp));have HOWN:Hid (w2.ownsRow w.heap.size 3 1 v ((List.range h.n).filter (fun q=>decide (q≠h.num))).length (qrp ((List.range h.n).filter (fun q=>decide (q≠h.num))))):=hown;clear hown hb2 HSET HL;go_wp2_with fail
 refine hK.out _ _ (HC.out _ HB2.out) (fun hHeld=>?_);clear hK K;try simp only[pU]
 refine wk 12 ?_;refine wpAnyH_done (by kernel_rfl) ?_ _;go_wp2_with fail
 go_ret;exact⟨_,_,rfl,HOWN.out,HB2.out,rfl⟩
theorem qj0(hc:CalmHd h)(p:PA w F b h kn l evs snt kb mb rbs es clk ev sv) :
 Calls prog 160 #[pT b 0] w fun e w'=>e=.returned (.bool false)/\Below w.heap.size w w':=by
 have c8:=p.blk.cell 8 _ rfl;simp only[Hd.cells,yf,yd,ye,hc.suspects] at c8;clear p hc;go_enter Tryz.func160,Tryz.ntmps160
 go_wp2_with fail
 refine wp_region_held_drew (S:=fun w'=>w'.cell? (aT b 8)=some (J 0)) rfl c8 (fun hHeld=>?_);refine wk 0 ?_;refine wk 1 ?_;refine wk 2 ?_;refine wk 3 ?_;refine wk 4 ?_;refine wk 5 ?_;refine wu 6 ?_;refine wu 7 ?_;refine wu 8 ?_;refine wu 9 ?_;refine wu 10 ?_;refine wu 11 ?_;refine wu 12 ?_;refine wu 13 ?_;refine wu 14 ?_;refine wu 15 ?_;refine wu 16 ?_;refine wu 17 ?_;refine wu 18 ?_;refine wu 19 ?_;refine wu 20 ?_;refine wu 21 ?_;refine wk 22 ?_;refine wk 23 ?_;refine wpAnyH_done (by kernel_rfl) ?_ _;go_wp2_with fail
 go_ret;exact⟨rfl,(yi _ _).drew⟩
theorem qhi(hc:CalmHd h)(p:PA w F b h kn l evs snt kb mb rbs es clk ev sv) :
 Calls prog 109 #[pT b 0] w fun e w'=>e=.returned (.tuple #[])/\Below w.heap.size w w':=by
 have HU:Hid (Calls prog 160 _ _ _):=qj0 hc p;have HC:Hid (∀w',Below w.heap.size w w'->w'.cell? (aT b 13)=some (.pointer none)):=fun w' hw=>by
  have c:=(p.below hw).blk.cell 13 _ rfl;simp only[Hd.cells,yf,yd,ye,hc.lead] at c;exact c
 clear p hc;go_enter Tryz.func109,Tryz.ntmps109
 go_wp2_with fail
 refine HU.out.mono ?_;rintro e w2 ⟨rfl,hb2⟩;have HB2:Hid (Below w.heap.size w w2):=hb2;have c13:=HC.out _ hb2;clear hb2 HU HC;go_wp2_with fail
 go_end0
 exact⟨rfl,HB2.out⟩
def qrh(n j q:Nat)(p:Mo.MP)(xs:List Codec.Msg):List Codec.Frame:=(xs.filter fun m=>decide (p.kn q m.sender.toNat<m.seq)).map (Mo.dataF n j q p)
theorem qd2(n j q:Nat)(p:Mo.MP)(xs:List Codec.Msg)(m:Codec.Msg):qrh n j q p (xs++[m])=qrh n j q p xs++(if p.kn q m.sender.toNat<m.seq then [Mo.dataF n j q p m] else []):=by
 unfold qrh;rw[ya6,y8];by_cases hm:p.kn q m.sender.toNat<m.seq <;> simp[hm]
theorem qfd(n j q:Nat)(p:Mo.MP)(xs:List Codec.Msg):(qrh n j q p xs).length<=xs.length:=by
 unfold qrh;rw[yL];exact yaR _ _
theorem PA.time_nums(p:PA w F b h kn l evs snt kb mb rbs es clk ev sv){x:Codec.Msg × Value}(hx:x∈l):NumsAt w w.heap.size x.2 x.1.time:=qad (p.times x hx).1.row
theorem qf1(hc:CalmHd h)(p:PA w F b h kn l evs snt kb mb rbs es clk ev sv)(hF:∀x,F x->x<w.heap.size)(hl:Held h.n l)(hmf:∀x∈l,Codec.msgFits x.1=true)(hrow:RowOk h.n (kn.getD h.num []))(hlen:l.length<=100000)(hs:snt.length+l.length<=1000000)(q:Nat)(hq:q<h.n) :
 Calls prog 112 #[pT b 0,J q] w fun e w'=>e=.returned (.tuple #[])/\Chg F w w'/\∃sv' xs,xs.Perm (l.map Prod.fst)/\PA w' (Plus F w) b h kn l evs (snt++(qrh h.n h.num q (mp kn (l.map Prod.fst) evs) xs).map par) kb mb rbs es clk ev sv':=by
 have HHO:Hid (Calls prog 166 _ _ _):=qf0 p hlen;have HP0:Hid (PA w F b h kn l evs snt kb mb rbs es clk ev sv):=p;have HMF:Hid (∀x∈l,Codec.msgFits x.1=true):=hmf;have HL:Hid (Held h.n l):=hl;have HF:Hid (∀x,F x->x<w.heap.size):=hF;have HROW:Hid (RowOk h.n (kn.getD h.num [])):=hrow;have HC:Hid (CalmHd h):=hc;have hnum:h.num<h.n:=hc.num;have hn6:=hc.n1;have hq0:(0:Int)<=(q:Int):=by omega
 have hq1:(q:Int)<(h.n:Int):=by omega
 clear p hmf hl hF hrow hc;go_enter Tryz.func112,Tryz.ntmps112
 go_wp2_with fail
 refine HHO.out.mono ?_;rintro e w1 ⟨hB1,M,xs,hM,hxp,rfl,hMI⟩;have HB1:Hid (Below w.heap.size w w1):=hB1;have HMI:Hid (MsgsIn w1 M xs l.length):=hMI;have HXP:Hid (xs.Perm l):=hxp;have hMF:Hid (¬F M):=fun e=>by have:=HF.out _ e;omega
 have hML:Hid (M<w1.heap.size):=by obtain⟨cur,hcur, -⟩:=hMI;exact(yk.1 hcur).1
 clear hB1 hMI HHO hxp;have P0:Hid (∃sv',PA w1 (Plus F w1) b h kn l evs (snt++(qrh h.n h.num q (mp kn (l.map Prod.fst) evs) ((xs.take 0).map Prod.fst)).map par) kb mb rbs es clk ev sv'):=⟨sv,by
  have:=(HP0.out.below HB1.out).wide (F':=Plus F w1) Plus.sub;simpa[qrh] using this⟩
 have HSTEP:Hid (∀k wr sv' x,xs[k]?=some x->Chg F w1 wr->PA wr (Plus F w1) b h kn l evs (snt++(qrh h.n h.num q (mp kn (l.map Prod.fst) evs) ((xs.take k).map Prod.fst)).map par) kb mb rbs es clk ev sv'->∃ao tn tc s r,x.2=.slice ao tn tc/\x.1.sender=(s:Nat)/\s<h.n/\(wr.cell? (aT b 14)=some (sT kb h.n h.n)/\wr.cell? (aT kb q)=some (sT r h.n h.n)/\wr.cell? (aT r s)=some (J ((kn.getD q []).getD s 0))/\b<wr.heap.size/\kb<wr.heap.size/\r<wr.heap.size)/\(wr.cell? ⟨M,k * 4,none⟩=some (J x.1.sender)/\wr.cell? ⟨M,k * 4+1,none⟩=some (J x.1.seq)/\wr.cell? ⟨M,k * 4+2,none⟩=some x.2/\wr.cell? ⟨M,k * 4+3,none⟩=some (.string x.1.text))/\(x.1.seq<=(kn.getD q []).getD s 0->qrh h.n h.num q (mp kn (l.map Prod.fst) evs) ((xs.take (k+1)).map Prod.fst)=qrh h.n h.num q (mp kn (l.map Prod.fst) evs) ((xs.take k).map Prod.fst))/\((kn.getD q []).getD s 0<x.1.seq->∀w2,Below wr.heap.size wr w2->Calls prog 141 #[pT b 0,J q,msgV x.1 (.slice ao tn tc)] w2 fun e w3=>e=.returned (.tuple #[])/\Chg F w1 w3/\∃sv'',PA w3 (Plus F w1) b h kn l evs (snt++(qrh h.n h.num q (mp kn (l.map Prod.fst) evs) ((xs.take (k+1)).map Prod.fst)).map par) kb mb rbs es clk ev sv'')):=fun k wr sv' x hx hch hp=>by
  have hxl:x∈l:=HXP.out.mem_iff.1 (yy hx);obtain⟨ao,tn,tc,hv⟩:=(hp.times x hxl).1.form3;obtain⟨s,hs,hsx, -, -, -⟩:=HL.out x hxl;obtain⟨r,hr,hbr,hrl,hck⟩:=hp.row_at hq;obtain⟨cur,hcur,hcs,hcx⟩:=HMI.out;have hkl:k<l.length:=by have:=(ym.1 hx).1;rw[HXP.out.length_eq] at this;exact this
  obtain⟨r0,r1,r2,r3⟩:=hcx k x hkl hx;have hcur':wr.heap[M]?=some (.cells cur 179 (0,0)):=(hch.block M hML.out hMF.out).trans hcur;have e4:4 * k=k * 4:=by omega
  rw[e4] at r0 r1 r2 r3;have htake:(xs.take (k+1)).map Prod.fst=(xs.take k).map Prod.fst++[x.1]:=by
   rw[yaM,hx];simp
  have hkn:(mp kn (l.map Prod.fst) evs).kn q x.1.sender.toNat=(kn.getD q []).getD s 0:=by rw[hsx];rfl
  refine⟨ao,tn,tc,s,r,hv,hsx,hs,⟨hp.blk.cell 14 _ rfl,hck,hbr.cell s _ (qcc (by omega)),hp.blk.lt,hp.known.lt.1,hbr.lt⟩,⟨?_,?_,?_,?_⟩,fun hno=>?_,fun hyes w2 hb2=>?_⟩
  ·rw[cell_of_row wr M _ cur 179 (0,0) hcur'];exact r0
  ·rw[cell_of_row wr M _ cur 179 (0,0) hcur'];exact r1
  ·rw[cell_of_row wr M _ cur 179 (0,0) hcur'];exact r2
  ·rw[cell_of_row wr M _ cur 179 (0,0) hcur'];exact r3
  ·rw[htake,qd2,hkn,if_neg (by omega),ya0]
  ·have hsl:(snt++(qrh h.n h.num q (mp kn (l.map Prod.fst) evs) ((xs.take k).map Prod.fst)).map par).length<=1000000:=by
    rw[yC,yL];have h1:=qfd h.n h.num q (mp kn (l.map Prod.fst) evs) ((xs.take k).map Prod.fst);rw[yL,yam] at h1;have:=HXP.out.length_eq;omega
   have hp2:=hp.below hb2;refine(qcv HC.out hp2.clip (fun y hy=>hy.2) HROW.out hsl q hq x.1 (HMF.out x hxl) ao tn tc (by rw[<-hv];exact hp2.time_nums hxl)).mono ?_;rintro e w3 ⟨rfl,hch3,sv3,p3⟩;refine⟨rfl,hch.trans ((Chg.of_below hb2).trans (hch3.mono fun y hy hyF=>?_)),sv3,?_⟩
   ·exact .inl hyF.1
   ·rw[htake,qd2,hkn,if_pos hyes,y8,<-yav];refine p3.wide fun y hy=>?_;rcases hy with hy|hy
    ·exact hy.1
    ·exact .inr (by have:=hch.size;have:=hb2.size;omega)
 have HFIN:Hid (∀wr sv',Chg F w1 wr->PA wr (Plus F w1) b h kn l evs (snt++(qrh h.n h.num q (mp kn (l.map Prod.fst) evs) ((xs.take l.length).map Prod.fst)).map par) kb mb rbs es clk ev sv'->Chg F w wr/\∃sv' xs',xs'.Perm (l.map Prod.fst)/\PA wr (Plus F w) b h kn l evs (snt++(qrh h.n h.num q (mp kn (l.map Prod.fst) evs) xs').map par) kb mb rbs es clk ev sv'):=fun wr sv' hch hp=>by
  rw[yX (by rw[HXP.out.length_eq];exact yb _)] at hp;exact⟨(Chg.of_below HB1.out).trans (hch.mono fun y _ hy=>.inl hy),sv',_,HXP.out.map _,hp.wide fun y hy=>hy.elim .inl fun hy=>.inr (by have:=HB1.out.size;omega)⟩
 have hxl:Hid (xs.length=l.length):=HXP.out.length_eq;clear HP0 HMF HL HF HROW HC HMI HXP hMF hML hs hM;go_wp2_with fail
 go_loopw [9] (fun i wr=>∃k:Nat,k<=l.length/\i=J k/\Chg F w1 wr/\∃sv',PA wr (Plus F w1) b h kn l evs (snt++(qrh h.n h.num q (mp kn (l.map Prod.fst) evs) ((xs.take k).map Prod.fst)).map par) kb mb rbs es clk ev sv') (fun i _=>l.length - (intOf i).toNat)
 case atStart=>exact⟨0,by omega,rfl,Chg.refl _ _,P0.out⟩
 case round=>
  obtain⟨k,hk,rfl,hch,sv',hp⟩:=hrel;have HCH:Hid (Chg F w1 wr):=hch;have HP:Hid (PA wr (Plus F w1) b h kn l evs (snt++(qrh h.n h.num q (mp kn (l.map Prod.fst) evs) ((xs.take k).map Prod.fst)).map par) kb mb rbs es clk ev sv'):=hp;clear hch hp;by_cases hlt:k<l.length
  ·obtain⟨⟨⟨ms,mq,mt,mx⟩,xv⟩,hx⟩:∃x,xs[k]?=some x:=⟨_,yh (by rw[hxl.out];exact hlt)⟩;obtain⟨ao,tn,tc,s,r,hv,hsx,hs,⟨c14,ck,cr,hbl,hkbl,hrl⟩,⟨m0,m1,m2,m3⟩,hNO,hYES⟩:=HSTEP.out k wr sv' _ hx HCH.out HP.out;simp only at hv hsx m0 m1 m2 m3 hNO hYES;subst hv hsx;have HNO:Hid (mq<=(kn.getD q []).getD s 0->qrh h.n h.num q (mp kn (l.map Prod.fst) evs) ((xs.take (k+1)).map Prod.fst)=qrh h.n h.num q (mp kn (l.map Prod.fst) evs) ((xs.take k).map Prod.fst)):=hNO;have HYES:Hid ((kn.getD q []).getD s 0<mq->∀w2,Below wr.heap.size wr w2->Calls prog 141 #[pT b 0,J q,.agg #[J s,J mq,.slice ao tn tc,.string mx]] w2 fun e w3=>e=.returned (.tuple #[])/\Chg F w1 w3/\∃sv'',PA w3 (Plus F w1) b h kn l evs (snt++(qrh h.n h.num q (mp kn (l.map Prod.fst) evs) ((xs.take (k+1)).map Prod.fst)).map par) kb mb rbs es clk ev sv''):=hYES;have hlt1:(k:Int)<(l.length:Int):=by omega
   have hk0:(0:Int)<=(k:Int):=by omega
   have hs0:(0:Int)<=(s:Int):=by omega
   have hs1:(s:Int)<(h.n:Int):=by omega
   have HB2:Hid (Below wr.heap.size wr (wr.alloc (.cells #[J s,J mq,.slice ao tn tc,.string mx] 179))):=(yi _ _).alloc (yb _) _;have hX:=BlkAt.new wr wr.heap.size rfl 179 #[J s,J mq,.slice ao tn tc,.string mx];have d0:=hX.cell 0 _ rfl;have d1:=hX.cell 1 _ rfl;have d2:=hX.cell 2 _ rfl;have d3:=hX.cell 3 _ rfl;simp only[yf,yd,ye] at d0 d1 d2 d3;have c14':=(HB2.out.cell (p:=(aT b 14)) hbl).trans c14;have ck':=(HB2.out.cell (p:=(aT kb q)) hkbl).trans ck;have cr':=(HB2.out.cell (p:=(aT r s)) hrl).trans cr;clear hX hx hNO hYES HSTEP c14 ck cr;generalize (kn.getD q []).getD s 0=z at cr' HNO HYES;by_cases hz:z<mq
   ·go_wp2_with fail
    generalize wr.alloc (.cells #[J s,J mq,.slice ao tn tc,.string mx] 179)=w5 at HB2 d0 d1 d2 d3 c14' ck' cr' ⊢;go_quiet (fail)
    go_wp2_with fail
    refine(HYES.out hz _ (below_drewN HB2.out _)).mono ?_;rintro e w6 ⟨rfl,hch6,hp6⟩;have HR6:Hid (Chg F w1 w6/\∃sv'',PA w6 (Plus F w1) b h kn l evs (snt++(qrh h.n h.num q (mp kn (l.map Prod.fst) evs) ((xs.take (k+1)).map Prod.fst)).map par) kb mb rbs es clk ev sv''):=⟨hch6,hp6⟩;clear hch6 hp6 HYES HNO;go_wp2_with fail
    exact⟨⟨k+1,by omega,by go_num,HR6.out.1,HR6.out.2⟩,by simp[intOf];omega⟩
   ·go_wp2_with fail
    generalize wr.alloc (.cells #[J s,J mq,.slice ao tn tc,.string mx] 179)=w5 at HB2 d0 d1 d2 d3 c14' ck' cr' ⊢;go_quiet (fail)
    go_wp2_with fail
    refine⟨⟨k+1,by omega,by go_num,HCH.out.trans (Chg.of_below (below_drewN HB2.out _)),sv',?_⟩,by simp[intOf];omega⟩;rw[HNO.out (by omega)];exact HP.out.below (below_drewN HB2.out _)
  ·have hge:¬(k:Int)<(l.length:Int):=by omega
   have hkl:k=l.length:=by omega
   subst hkl;have HE:=HFIN.out wr sv' HCH.out HP.out;have HE':Hid (_/\_):=HE;clear HE;go_wp2_with fail
   go_end0
   exact⟨rfl,HE'.out.1,HE'.out.2⟩
end
end Go.Proofs.YtoklolfaemhfnaaGreatDoor

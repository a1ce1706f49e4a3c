import Derived.Test.YtoklolfaemhfnaaGreatDoorZao
import Derived.Test.YtoklolfaemhfnaaGreatDoorZap
set_option maxRecDepth 100000
set_option maxHeartbeats 8000000
namespace Go.Proofs.YtoklolfaemhfnaaGreatDoor
section
open Go.RowKit
def NumsAt(w:World)(B:Nat)(v:Value)(l:List Int):Prop:=
 ((∃ao c,v=.slice ao 0 c)/\l=[])\/
 ∃b off cap,v=.slice (some ⟨b,off,none⟩) l.length cap/\b<B/\∀j,j<l.length->w.cell? ⟨b,off+j,none⟩=some (J (l.getD j 0))
def MsgsAt(w:World)(B:Nat)(v:Value)(l:List Codec.Msg):Prop:=
 ((∃ao c,v=.slice ao 0 c)/\l=[])\/
 ∃ b off cap, v = .slice (some ⟨b, off, none⟩) l.length cap /\ b < B /\ ∀ j m, l[j]? = some m ->
   ∃ tv, w.cell? ⟨b, off + j * 4, none⟩ = some (J m.sender) /\ w.cell? ⟨b, off + j * 4 + 1, none⟩ = some (J m.seq) /\
     w.cell? ⟨b,off+j * 4+2,none⟩=some tv/\w.cell? ⟨b,off+j * 4+3,none⟩=some (.string m.text)/\NumsAt w B tv m.time
theorem NumsAt.below{w w':World}{B:Nat}{v:Value}{l:List Int}(h:NumsAt w B v l)(hb:Below B w w'):NumsAt w' B v l:=by
 rcases h with ⟨hv,hl⟩|⟨b,off,cap,hv,hB,hc⟩
 ·exact .inl ⟨hv,hl⟩
 ·exact .inr ⟨b,off,cap,hv,hB,fun j hj=>(hb.cell (p:=⟨b,off+j,none⟩) hB).trans (hc j hj)⟩
theorem NumsAt.up{w:World}{B B':Nat}{v:Value}{l:List Int}(h:NumsAt w B v l)(hb:B<=B'):NumsAt w B' v l:=by
 rcases h with ⟨hv,hl⟩|⟨b,off,cap,hv,hB,hc⟩
 ·exact .inl ⟨hv,hl⟩
 ·exact .inr ⟨b,off,cap,hv,by omega,hc⟩
theorem MsgsAt.below{w w':World}{B:Nat}{v:Value}{l:List Codec.Msg}(h:MsgsAt w B v l)(hb:Below B w w'):MsgsAt w' B v l:=by
 rcases h with ⟨hv,hl⟩|⟨b,off,cap,hv,hB,hc⟩
 ·exact .inl ⟨hv,hl⟩
 ·refine .inr ⟨b,off,cap,hv,hB,fun j m hj=>?_⟩;obtain⟨tv,h0,h1,h2,h3,ht⟩:=hc j m hj;exact⟨tv,(hb.cell (p:=(aT b _)) hB).trans h0,(hb.cell (p:=(aT b _)) hB).trans h1,(hb.cell (p:=(aT b _)) hB).trans h2,(hb.cell (p:=(aT b _)) hB).trans h3,ht.below hb⟩
theorem MsgsAt.up{w:World}{B B':Nat}{v:Value}{l:List Codec.Msg}(h:MsgsAt w B v l)(hb:B<=B'):MsgsAt w B' v l:=by
 rcases h with ⟨hv,hl⟩|⟨b,off,cap,hv,hB,hc⟩
 ·exact .inl ⟨hv,hl⟩
 ·refine .inr ⟨b,off,cap,hv,by omega,fun j m hj=>?_⟩;obtain⟨tv,h0,h1,h2,h3,ht⟩:=hc j m hj;exact⟨tv,h0,h1,h2,h3,ht.up hb⟩
theorem NumsAt.form{w:World}{B:Nat}{v:Value}{l:List Int}(h:NumsAt w B v l):∃ao n c,v=.slice ao n c:=by
 rcases h with ⟨⟨_,_,hv⟩,_⟩|⟨b,off,cap,hv,_⟩
 ·exact⟨_,_,_,hv⟩
 ·exact⟨_,_,_,hv⟩
theorem MsgsAt.form{w:World}{B:Nat}{v:Value}{l:List Codec.Msg}(h:MsgsAt w B v l):∃ao n c,v=.slice ao n c:=by
 rcases h with ⟨⟨_,_,hv⟩,_⟩|⟨b,off,cap,hv,_⟩
 ·exact⟨_,_,_,hv⟩
 ·exact⟨_,_,_,hv⟩
theorem qaf(n lo hi:Int)(w:World) :
 Calls Tryz.prog 285 #[J n,J lo,J hi] w fun e w'=>e=.returned (.bool (Codec.inB n lo hi))/\w'=w:=by
 by_cases h1:lo<=n
 ·by_cases h2:n<=hi
  ·have H:Hid (Codec.inB n lo hi=true):=Codec.inB_iff.2 ⟨h1,h2⟩;go_enter Tryz.func285,Tryz.ntmps285
   go_wp2
   go_ret;exact⟨qg H.out.symm,rfl⟩
  ·have H:Hid (Codec.inB n lo hi=false):=by show _=_;simp[Codec.inB,h2]
   go_enter Tryz.func285,Tryz.ntmps285
   go_wp2
   go_ret;exact⟨qg H.out.symm,rfl⟩
 ·have H:Hid (Codec.inB n lo hi=false):=by show _=_;simp[Codec.inB,h1]
  go_enter Tryz.func285,Tryz.ntmps285
  go_wp2
  go_ret;exact⟨qg H.out.symm,rfl⟩
theorem qoq(l:List Int)(k:Nat)(hk:k<l.length):(l.take (k+1)).all (fun n=>Codec.inB n 0 20)=((l.take k).all (fun n=>Codec.inB n 0 20) && Codec.inB (l.getD k 0) 0 20):=by
 rw[yaq hk,List.all_append,yj,yh hk];simp
theorem qq3(l:List Int)(k:Nat)(hk:k<l.length)(h:Codec.inB (l.getD k 0) 0 20=false):l.all (fun n=>Codec.inB n 0 20)=false:=by
 rw[List.all_eq_false];refine⟨l.getD k 0,?_,by rw[h];simp⟩;rw[yj,yh hk];simp
theorem qx(v:Value)(l:List Int)(B:Nat)(w:World)(h:NumsAt w B v l) :
 Calls Tryz.prog 248 #[v] w fun e w'=>e=.returned (.bool (Codec.listFits l))/\w'=w:=by
 rcases h with ⟨⟨ao0,c0,rfl⟩,rfl⟩|⟨b,off,cap,rfl, -,hc⟩
 ·go_enter Tryz.func248,Tryz.ntmps248
  go_wp2
  go_loop [10] (fun i=>i=J 0) (fun _=>0)
  case atStart=>rfl
  case round=>
   subst hrel;go_wp2
   go_ret;exact⟨rfl,rfl⟩
 ·by_cases h6:l.length<=6
  ·have HC:Hid (∀j,j<l.length->w.cell? ⟨b,off+j,none⟩=some (J (l.getD j 0))):=hc;clear hc;go_enter Tryz.func248,Tryz.ntmps248
   go_wp2
   go_loop [10] (fun i=>∃k:Nat,k<=l.length/\i=J k/\Hid ((l.take k).all (fun n=>Codec.inB n 0 20)=true)) (fun i=>l.length - (intOf i).toNat)
   case atStart=>exact⟨0,by omega,rfl,rfl⟩
   case round=>
    obtain⟨k,hk,rfl,HA⟩:=hrel;by_cases hlt:k<l.length
    ·have hck:=HC.out k hlt;have HS:Hid (_=_):=qoq l k hlt;have HN:Hid (_->_):=qq3 l k hlt;generalize l.getD k 0=x at hck HS HN;cases hin:Codec.inB x 0 20 with
     | true =>
       go_wp2_with (go_at_call 285;refine(qaf _ _ _ _).mono ?_;rintro e w' ⟨rfl,rfl⟩)
       go_round
       case rel=>exact⟨k+1,by omega,by go_num,by show _=_;rw[HS.out,HA.out,hin];rfl⟩
       case measure=>simp[intOf];omega
     | false =>
       have HF:Hid (Codec.listFits l=false):=by show _=_;unfold Codec.listFits;rw[HN.out hin];simp
       go_wp2_with (go_at_call 285;refine(qaf _ _ _ _).mono ?_;rintro e w' ⟨rfl,rfl⟩)
       go_ret;exact⟨qg HF.out.symm,rfl⟩
    ·have HF:Hid (Codec.listFits l=true):=by
      show _=_;have:=HA.out;rw[yX (by omega)] at this;unfold Codec.listFits;rw[this];simp[h6]
     go_wp2
     go_ret;exact⟨qg HF.out.symm,rfl⟩
  ·have HF:Hid (Codec.listFits l=false):=by show _=_;simp[Codec.listFits,h6]
   go_enter Tryz.func248,Tryz.ntmps248
   go_wp2
   go_ret;exact⟨qg HF.out.symm,rfl⟩
def msgV(m:Codec.Msg)(tv:Value):Value:=.agg #[J m.sender,J m.seq,tv,.string m.text]
theorem qez(m:Codec.Msg)(tv:Value)(B:Nat)(w:World)(h:NumsAt w B tv m.time)(hB:B<=w.heap.size) :
 Calls Tryz.prog 286 #[.agg #[J m.sender,J m.seq,tv,.string m.text]] w fun e w'=>e=.returned (.bool (Codec.msgFits m))/\Below w.heap.size w w':=by
 obtain⟨a,b,l,x⟩:=m;have ht:∀o,NumsAt (w.alloc o) B tv l:=fun o=>h.below ((yi _ _).alloc hB o);have HT:Hid (∀o,NumsAt (w.alloc o) B tv l):=ht;clear ht h;simp only;have HX:Hid (Codec.msgFits ⟨a,b,l,x⟩=(Codec.inB a 0 5 && Codec.inB b 1 20 && Codec.listFits l && decide (x.size<=16))):=rfl;generalize Codec.msgFits ⟨a,b,l,x⟩=r at HX ⊢;cases h1:Codec.inB a 0 5 with
 | false =>
   go_enter Tryz.func286,Tryz.ntmps286
   go_wp2_with (go_at_call 285;refine(qaf _ _ _ _).mono ?_;rintro e w' ⟨rfl,rfl⟩)
   go_ret;exact⟨qg (by rw[HX.out,h1];rfl),(yi _ _).alloc (yb _) _⟩
 | true =>
   cases h2:Codec.inB b 1 20 with
   | false =>
     go_enter Tryz.func286,Tryz.ntmps286
     go_wp2_with (go_at_call 285;refine(qaf _ _ _ _).mono ?_;rintro e w' ⟨rfl,rfl⟩)
     go_ret;exact⟨qg (by rw[HX.out,h1,h2];rfl),(yi _ _).alloc (yb _) _⟩
   | true =>
     cases h3:Codec.listFits l with
     | false =>
       go_enter Tryz.func286,Tryz.ntmps286
       go_wp2_with (first|(go_at_call 285;refine(qaf _ _ _ _).mono ?_;rintro e w' ⟨rfl,rfl⟩)|(go_at_call 248;refine(qx tv l B _ (HT.out _)).mono ?_;rintro e w' ⟨rfl,rfl⟩))
       go_ret;exact⟨qg (by rw[HX.out,h1,h2,h3];rfl),(yi _ _).alloc (yb _) _⟩
     | true =>
       by_cases h4:x.size<=16
       ·go_enter Tryz.func286,Tryz.ntmps286
        go_wp2_with (first|(go_at_call 285;refine(qaf _ _ _ _).mono ?_;rintro e w' ⟨rfl,rfl⟩)|(go_at_call 248;refine(qx tv l B _ (HT.out _)).mono ?_;rintro e w' ⟨rfl,rfl⟩))
        go_ret;exact⟨qg (by rw[HX.out,h1,h2,h3];simp[h4];omega),(yi _ _).alloc (yb _) _⟩
       ·go_enter Tryz.func286,Tryz.ntmps286
        go_wp2_with (first|(go_at_call 285;refine(qaf _ _ _ _).mono ?_;rintro e w' ⟨rfl,rfl⟩)|(go_at_call 248;refine(qx tv l B _ (HT.out _)).mono ?_;rintro e w' ⟨rfl,rfl⟩))
        go_ret;exact⟨qg (by rw[HX.out,h1,h2,h3];simp[h4];omega),(yi _ _).alloc (yb _) _⟩
theorem qmv(l:List Codec.Msg)(k:Nat)(m:Codec.Msg)(hk:l[k]?=some m):(l.take (k+1)).all Codec.msgFits=((l.take k).all Codec.msgFits && Codec.msgFits m):=by
 have h:=(ym.1 hk);obtain⟨hlt,he⟩:=h;rw[yaq hlt,List.all_append,he];simp
theorem qqa(l:List Codec.Msg)(k:Nat)(m:Codec.Msg)(hk:l[k]?=some m)(h:Codec.msgFits m=false):l.all Codec.msgFits=false:=by
 rw[List.all_eq_false];exact⟨m,yy hk,by rw[h];simp⟩
theorem qjf(v:Value)(l:List Codec.Msg)(B:Nat)(w:World)(h:MsgsAt w B v l)(hB:B<=w.heap.size) :
 Calls Tryz.prog 249 #[v] w fun e w'=>e=.returned (.bool (Codec.msgsFit l))/\Below w.heap.size w w':=by
 rcases h with ⟨⟨ao0,c0,rfl⟩,rfl⟩|⟨b,off,cap,rfl,hbB,hc⟩
 ·go_enter Tryz.func249,Tryz.ntmps249
  go_wp2
  go_loop [10] (fun i=>i=J 0) (fun _=>0)
  case atStart=>rfl
  case round=>
   subst hrel;go_wp2
   go_ret;exact⟨rfl,yi _ _⟩
 ·by_cases h6:l.length<=200
  ·have HC:Hid (∀j m,l[j]?=some m->
    ∃tv,w.cell? ⟨b,off+j * 4,none⟩=some (J m.sender)/\w.cell? ⟨b,off+j * 4+1,none⟩=some (J m.seq)/\
    w.cell? ⟨b,off+j * 4+2,none⟩=some tv/\w.cell? ⟨b,off+j * 4+3,none⟩=some (.string m.text)/\NumsAt w B tv m.time):=hc
   clear hc;go_enter Tryz.func249,Tryz.ntmps249
   go_wp2
   go_loopw [10] (fun i wr=>∃k:Nat,k<=l.length/\i=J k/\Hid ((l.take k).all Codec.msgFits=true)/\Below w.heap.size w wr) (fun i _=>l.length - (intOf i).toNat)
   case atStart=>exact⟨0,by omega,rfl,rfl,yi _ _⟩
   case round=>
    obtain⟨k,hk,rfl,HA,hbel⟩:=hrel;have hsz:=hbel.size;by_cases hlt:k<l.length
    ·obtain⟨m,hm⟩:∃m,l[k]?=some m:=⟨l[k],yh hlt⟩;obtain⟨tv,c0,c1,c2,c3,ht⟩:=HC.out k m hm;obtain⟨ao,n,c,rfl⟩:=ht.form;have HS:Hid (_=_):=qmv l k m hm;have HN:Hid (_->_):=qqa l k m hm;have d0:=(hbel.cell (p:=⟨b,off+k * 4,none⟩) (by show b<_;omega)).trans c0;have d1:=(hbel.cell (p:=⟨b,off+k * 4+1,none⟩) (by show b<_;omega)).trans c1;have d2:=(hbel.cell (p:=⟨b,off+k * 4+2,none⟩) (by show b<_;omega)).trans c2;have d3:=(hbel.cell (p:=⟨b,off+k * 4+3,none⟩) (by show b<_;omega)).trans c3;have HT:Hid (∀o,NumsAt (wr.alloc o) B (.slice ao n c) m.time):=fun o=>ht.below ((hbel.mono hB).alloc (by omega) o);clear c0 c1 c2 c3 ht hm;cases hin:Codec.msgFits m with
     | true =>
       go_wp2_with (go_at_call 286;refine(qez m (.slice ao n c) B _ (HT.out _) (by simp;omega)).mono ?_;rintro e w' ⟨rfl,hb2⟩)
       go_roundw
       case rel=>
        have hb3:=(hbel.alloc (by omega) (.cells #[J m.sender,J m.seq,.slice ao n c,.string m.text] 179)).trans (hb2.mono (by simp;omega));exact⟨k+1,by omega,by go_num,by show _=_;rw[HS.out,HA.out,hin];rfl,hb3⟩
       case measure=>simp[intOf];omega
     | false =>
       have HF:Hid (Codec.msgsFit l=false):=by show _=_;unfold Codec.msgsFit;rw[HN.out hin];simp
       go_wp2_with (go_at_call 286;refine(qez m (.slice ao n c) B _ (HT.out _) (by simp;omega)).mono ?_;rintro e w' ⟨rfl,hb2⟩)
       go_ret;have hb3:=(hbel.alloc (by omega) (.cells #[J m.sender,J m.seq,.slice ao n c,.string m.text] 179)).trans (hb2.mono (by simp;omega));exact⟨qg HF.out.symm,hb3⟩
    ·have HF:Hid (Codec.msgsFit l=true):=by
      show _=_;have:=HA.out;rw[yX (by omega)] at this;unfold Codec.msgsFit;rw[this];simp[h6]
     go_wp2
     go_ret;exact⟨qg HF.out.symm,hbel⟩
  ·have HF:Hid (Codec.msgsFit l=false):=by show _=_;simp[Codec.msgsFit,h6]
   go_enter Tryz.func249,Tryz.ntmps249
   go_wp2
   go_ret;exact⟨qg HF.out.symm,yi _ _⟩
theorem qa0(f:Codec.Frame)(ro co mo:Option Addr)(rn rc cn cc mn mc:Nat)(w:World) :
 Calls Tryz.prog 246 #[.agg #[J f.kind,J f.src,J f.dst,J f.members,J f.view,J f.ballot,J f.voted,.slice ro rn rc,.slice co cn cc,.slice mo mn mc]] w
  fun e w'=>e=.returned (.bool (Codec.headFits f))/\Below w.heap.size w w':=by
 obtain⟨k,a,b,m,v,u,t,row,cut,ms⟩:=f;simp only;have HX:Hid (Codec.headFits ⟨k,a,b,m,v,u,t,row,cut,ms⟩=(Codec.inB k 1 7 && Codec.inB a 0 5 && Codec.inB b 0 5 && Codec.inB m 0 63)):=rfl;generalize Codec.headFits ⟨k,a,b,m,v,u,t,row,cut,ms⟩=r at HX ⊢;cases h1:Codec.inB k 1 7 <;> cases h2:Codec.inB a 0 5 <;> cases h3:Codec.inB b 0 5 <;> cases h4:Codec.inB m 0 63;all_goals
  go_enter Tryz.func246,Tryz.ntmps246
  go_wp2_with (go_at_call 285;refine(qaf _ _ _ _).mono ?_;rintro e w' ⟨rfl,rfl⟩)
  go_ret;exact⟨qg (by rw[HX.out,h1,h2,h3,h4];rfl),(yi _ _).alloc (yb _) _⟩
theorem qax(f:Codec.Frame)(ro co mo:Option Addr)(rn rc cn cc mn mc:Nat)(w:World) :
 Calls Tryz.prog 247 #[.agg #[J f.kind,J f.src,J f.dst,J f.members,J f.view,J f.ballot,J f.voted,.slice ro rn rc,.slice co cn cc,.slice mo mn mc]] w
  fun e w'=>e=.returned (.bool (Codec.ballotsFit f))/\Below w.heap.size w w':=by
 obtain⟨k,a,b,m,v,u,t,row,cut,ms⟩:=f;simp only;have HX:Hid (Codec.ballotsFit ⟨k,a,b,m,v,u,t,row,cut,ms⟩=(Codec.inB v 0 2147483647 && Codec.inB u 0 2147483647 && Codec.inB t 0 2147483647)):=rfl;generalize Codec.ballotsFit ⟨k,a,b,m,v,u,t,row,cut,ms⟩=r at HX ⊢;cases h1:Codec.inB v 0 2147483647 <;> cases h2:Codec.inB u 0 2147483647 <;> cases h3:Codec.inB t 0 2147483647;all_goals
  go_enter Tryz.func247,Tryz.ntmps247
  go_wp2_with (go_at_call 285;refine(qaf _ _ _ _).mono ?_;rintro e w' ⟨rfl,rfl⟩)
  go_ret;exact⟨qg (by rw[HX.out,h1,h2,h3];rfl),(yi _ _).alloc (yb _) _⟩
theorem qc5(f:Codec.Frame)(rv cv mv:Value)(B:Nat)(w:World)(hr:NumsAt w B rv f.row)(hc:NumsAt w B cv f.cut)(hm:MsgsAt w B mv f.msgs)(hB:B<=w.heap.size) :
 Calls Tryz.prog 204 #[.agg #[J f.kind,J f.src,J f.dst,J f.members,J f.view,J f.ballot,J f.voted,rv,cv,mv]] w
  fun e w'=>e=.returned (.bool (Codec.fits f))/\Below w.heap.size w w':=by
 obtain⟨ro,rn,rc,rfl⟩:=hr.form;obtain⟨co,cn,cc,rfl⟩:=hc.form;obtain⟨mo,mn,mc,rfl⟩:=hm.form;have HR:Hid (∀w',Below B w w'->NumsAt w' B (.slice ro rn rc) f.row):=fun w' hb=>hr.below hb;have HC:Hid (∀w',Below B w w'->NumsAt w' B (.slice co cn cc) f.cut):=fun w' hb=>hc.below hb;have HM:Hid (∀w',Below B w w'->MsgsAt w' B (.slice mo mn mc) f.msgs):=fun w' hb=>hm.below hb;clear hr hc hm;have HX:Hid (Codec.fits f=(Codec.headFits f && Codec.ballotsFit f && Codec.listFits f.row && Codec.listFits f.cut && Codec.msgsFit f.msgs)):=rfl;generalize Codec.fits f=r at HX ⊢;have hb0:∀o,Below w.heap.size w (w.alloc o):=fun o=>(yi _ _).alloc (yb _) o;cases h1:Codec.headFits f with
 | false =>
   go_enter Tryz.func204,Tryz.ntmps204
   go_wp2_with (go_at_call 246;refine(qa0 f _ _ _ _ _ _ _ _ _ _).mono ?_;rintro e w1 ⟨rfl,hb1⟩;obtain⟨hc1,hf1⟩:=bcell hb1)
   go_ret;exact⟨qg (by rw[HX.out,h1];rfl),(hb0 _).trans (hb1.mono (by simp))⟩
 | true =>
   cases h2:Codec.ballotsFit f with
   | false =>
     go_enter Tryz.func204,Tryz.ntmps204
     go_wp2_with (first|(go_at_call 246;refine(qa0 f _ _ _ _ _ _ _ _ _ _).mono ?_;rintro e w1 ⟨rfl,hb1⟩;obtain⟨hc1,hf1⟩:=bcell hb1)|(go_at_call 247;refine(qax f _ _ _ _ _ _ _ _ _ _).mono ?_;rintro e w2 ⟨rfl,hb2⟩;obtain⟨hc2,hf2⟩:=bcell hb2))
     go_ret;exact⟨qg (by rw[HX.out,h1,h2];rfl),((hb0 _).trans (hb1.mono (by simp))).trans (hb2.mono (by have:=hb1.size;simp at this;omega))⟩
   | true =>
     cases h3:Codec.listFits f.row with
     | false =>
       go_enter Tryz.func204,Tryz.ntmps204
       go_wp2_with (first|(go_at_call 246;refine(qa0 f _ _ _ _ _ _ _ _ _ _).mono ?_;rintro e w1 ⟨rfl,hb1⟩;obtain⟨hc1,hf1⟩:=bcell hb1;have hz1:w.heap.size<w1.heap.size:=by (have:=hb1.size;simp at this;omega))|(go_at_call 247;refine(qax f _ _ _ _ _ _ _ _ _ _).mono ?_;rintro e w2 ⟨rfl,hb2⟩;obtain⟨hc2,hf2⟩:=bcell hb2;have hz2:=hb2.size;have hbb:Below w.heap.size w w2:=((hb0 _).trans (hb1.mono (by simp))).trans (hb2.mono (by omega))))
       refine(qx _ f.row B _ (HR.out _ (hbb.mono hB))).mono ?_;rintro e w' ⟨rfl,rfl⟩;go_wp2
       go_ret;exact⟨qg (by rw[HX.out,h1,h2,h3];rfl),hbb⟩
     | true =>
       cases h4:Codec.listFits f.cut with
       | false =>
         go_enter Tryz.func204,Tryz.ntmps204
         go_wp2_with (first|(go_at_call 246;refine(qa0 f _ _ _ _ _ _ _ _ _ _).mono ?_;rintro e w1 ⟨rfl,hb1⟩;obtain⟨hc1,hf1⟩:=bcell hb1;have hz1:w.heap.size<w1.heap.size:=by (have:=hb1.size;simp at this;omega))|(go_at_call 247;refine(qax f _ _ _ _ _ _ _ _ _ _).mono ?_;rintro e w2 ⟨rfl,hb2⟩;obtain⟨hc2,hf2⟩:=bcell hb2;have hz2:=hb2.size;have hbb:Below w.heap.size w w2:=((hb0 _).trans (hb1.mono (by simp))).trans (hb2.mono (by omega))))
         refine(qx _ f.row B _ (HR.out _ (hbb.mono hB))).mono ?_;rintro e w' ⟨rfl,rfl⟩;go_wp2_with fail
         refine(qx _ f.cut B _ (HC.out _ (hbb.mono hB))).mono ?_;rintro e w' ⟨rfl,rfl⟩;go_wp2
         go_ret;exact⟨qg (by rw[HX.out,h1,h2,h3,h4];rfl),hbb⟩
       | true =>
         go_enter Tryz.func204,Tryz.ntmps204
         go_wp2_with (first|(go_at_call 246;refine(qa0 f _ _ _ _ _ _ _ _ _ _).mono ?_;rintro e w1 ⟨rfl,hb1⟩;obtain⟨hc1,hf1⟩:=bcell hb1;have hz1:w.heap.size<w1.heap.size:=by (have:=hb1.size;simp at this;omega))|(go_at_call 247;refine(qax f _ _ _ _ _ _ _ _ _ _).mono ?_;rintro e w2 ⟨rfl,hb2⟩;obtain⟨hc2,hf2⟩:=bcell hb2;have hz2:=hb2.size;have hbb:Below w.heap.size w w2:=((hb0 _).trans (hb1.mono (by simp))).trans (hb2.mono (by omega))))
         refine(qx _ f.row B _ (HR.out _ (hbb.mono hB))).mono ?_;rintro e w' ⟨rfl,rfl⟩;go_wp2_with fail
         refine(qx _ f.cut B _ (HC.out _ (hbb.mono hB))).mono ?_;rintro e w' ⟨rfl,rfl⟩;go_wp2_with fail
         refine(qjf _ f.msgs B _ (HM.out _ (hbb.mono hB)) (by have:=hbb.size;omega)).mono ?_;rintro e w3 ⟨rfl,hb3⟩;go_wp2
         go_ret;exact⟨qg (by rw[HX.out,h1,h2,h3,h4];simp),hbb.trans (hb3.mono (by have:=hbb.size;omega))⟩
end
end Go.Proofs.YtoklolfaemhfnaaGreatDoor

import Derived.Lib.AppendStr
import Derived.Lib.UnsafeStr
import Derived.Laws.IdiomStrings
import Derived.Test.YtoklolfaemhfnaaGreatDoorZaq
set_option maxRecDepth 100000
set_option maxHeartbeats 8000000
open Go.Proofs.Tryz (prog)
namespace Go.Proofs.YtoklolfaemhfnaaGreatDoor
section
open Go.RowKit
theorem info5:(prog.info? 5).map (fun i=>(i.zero,i.size,i.bytes))=some (some (.int .u8 0),1,1):=by kernel_rfl
def OwnB(w:World)(base:Nat)(v:Value)(bs:List UInt8):Prop:=w.ownsRow base 5 1 v bs.length (Lib.byteCells bs)
def App(w:World)(v:Value)(w':World)(v':Value):Prop:=
 w.grownBy w' v.ownBlock/\(v'.ownBlock=v.ownBlock\/∃g,v'.ownBlock=some g/\w.heap.size<=g)
theorem App.refl(w:World)(v:Value):App w v w v:=⟨⟨rfl,rfl,rfl,yb _,fun _ _ _=>rfl⟩,.inl rfl⟩
theorem App.size{w w':World}{v v':Value}(h:App w v w' v'):w.heap.size<=w'.heap.size:=h.1.size
theorem App.off{w w':World}{v v':Value}(h:App w v w' v'){b:Nat}(hb:b<w.heap.size)(ho:v.ownBlock≠some b):v'.ownBlock≠some b:=by
 rcases h.2 with e|⟨g,e,hg⟩
 ·rw[e];exact ho
 ·rw[e];intro h;injection h with h;omega
theorem App.trans{w w1 w2:World}{v v1 v2:Value}(h:App w v w1 v1)(k:App w1 v1 w2 v2):App w v w2 v2:=by
 refine⟨⟨k.1.os.trans h.1.os,k.1.tape.trans h.1.tape,k.1.output.trans h.1.output,yr h.size k.size,fun b hb hne=>?_⟩,?_⟩
 ·have h1:=h.1.block b hb hne;have h2:=k.1.block b (yg hb h.size) (fun e=>(h.off hb (fun e'=>hne e'.symm)) e.symm);exact h2.trans h1
 ·rcases k.2 with e|⟨g,e,hg⟩
  ·rw[e];exact h.2
  ·exact .inr ⟨g,e,yr h.size hg⟩
theorem App.alloc(w:World)(v:Value)(o:Obj):App w v (w.alloc o) v:=
 ⟨⟨rfl,rfl,rfl,by simp,fun k hk _=>yQ _ _ _ hk⟩,.inl rfl⟩
theorem App.cell{w w':World}{v v':Value}(h:App w v w' v'){a:Addr}{u:Value}(hc:w.cell? a=some u)(ho:v.ownBlock≠some a.block):w'.cell? a=some u:=h.1.cell hc (Ne.symm ho)
theorem App.below{w w':World}{v v':Value}(h:App w v w' v'){base:Nat}(hb:base<=w.heap.size)(ho:∀k,v.ownBlock=some k->base<=k):Below base w w':=
 (yi base w).grown h.1 hb ho
theorem App.mk{w w':World}{v v':Value}{H:Nat}(hg:w.grownBy w' v.ownBlock)(hat:v'.ownBlock=v.ownBlock\/v'.ownBlock=some H)(hH:w.heap.size<=H):App w v w' v':=
 ⟨hg,hat.elim .inl (fun e=>.inr ⟨H,e,hH⟩)⟩
theorem OwnB.of{w:World}{base n:Nat}{v:Value}{bs:List UInt8}(h:w.ownsRow base 5 1 v n (Lib.byteCells bs)):OwnB w base v bs:=by
 have e:=h.1;rw[Lib.byteCells_length,Nat.mul_one] at e;subst e;exact h
theorem OwnB.eq{w:World}{base n:Nat}{v:Value}{bs bs':List UInt8}(h:w.ownsRow base 5 1 v n (Lib.byteCells bs))(e:bs=bs'):OwnB w base v bs':=e▸OwnB.of h
theorem OwnB.lt{w:World}{base:Nat}{v:Value}{bs:List UInt8}(h:OwnB w base v bs)(k:Nat)(hk:v.ownBlock=some k):base<=k/\k<w.heap.size:=World.ownsRow.lt h k hk
theorem OwnB.off{w:World}{base:Nat}{v:Value}{bs:List UInt8}(h:OwnB w base v bs):v.ownBlock≠some w.heap.size:=fun e=>by have:=(h.lt _ e).2;omega
theorem OwnB.alloc{w:World}{base:Nat}{v:Value}{bs:List UInt8}(h:OwnB w base v bs)(o:Obj):OwnB (w.alloc o) base v bs:=World.ownsRow.alloc h o
theorem OwnB.nil(w:World)(base:Nat):OwnB w base (sN) []:=y9 _ _ _ _
theorem OwnB.form{w:World}{base:Nat}{v:Value}{bs:List UInt8}(h:OwnB w base v bs):∃ao n c,v=.slice ao n c:=by
 rcases h.2 with ⟨hv,_⟩|⟨g,cap,cur,hv,_⟩
 ·exact⟨_,_,_,hv⟩
 ·exact⟨_,_,_,hv⟩
theorem qd6(w:World)(ty:TypeId)(i:TypeInfo)(hi:prog.info? 5=some i)(hz:i.zero=some (.int .u8 0))(hsize:i.size=1)(hby:i.bytes=1)
 {base:Nat}{v:Value}{bs:List UInt8} (hown:OwnB w base v bs) (s:ByteArray) (hbytes:bs.length+s.size<=1000000000) {v':Value}{w':World}
 (hr:(Builtin.append_ #[175,9] ty #[v,.string s]).run prog w=.ok v' w'):v'.ownBlock=v.ownBlock\/v'.ownBlock=some w.heap.size:=by
 have hxl:(Lib.byteCells bs).length=bs.length:=Lib.byteCells_length bs;rcases hown.2 with ⟨rfl,hn⟩|⟨g,cap,cur,rfl,hbg,hg,hnc,hcm,hcs,htake⟩
 ·by_cases hm:s.size=0
  ·have hf:=Lib.run_firstCells_string (P:=prog) w 1 s;rw[hm] at hf;have:(Builtin.append_ #[175,9] ty #[sN,.string s]).run prog w=.ok (sN) w:=by
    simp[Builtin.append_,run_underlying Tryz.underlying175,run_underlying Tryz.underlying9,sizeOf,typeInfo,hi,hsize,Builtin.lenOf,hm,hf]
   rw[this] at hr;injection hr with h1 h2;rw[<-h1];exact .inl rfl
  ·have:=run_append_nil_string (P:=prog) w 175 9 ty 5 i (.int .u8 0) Tryz.underlying175 Tryz.underlying9 hi hz s (by omega) (by omega) (by rw[hby];omega);rw[this] at hr;injection hr with h1 h2;rw[<-h1];exact .inr rfl
 ·by_cases hroom:bs.length+s.size<=cap
  ·have:=Lib.run_append_room_string (P:=prog) w 175 9 ty 5 i Tryz.underlying175 Tryz.underlying9 hi hsize g bs.length cap cur hg s hroom (by omega);rw[this] at hr;injection hr with h1 h2;rw[<-h1];exact .inl rfl
  ·have holds:∀j u,(Lib.byteCells bs)[j]?=some u->w.cell? ((⟨g,0,none⟩:Addr).add j)=some u:=World.ownsRow.cells hown (g:=g) rfl;have:=Lib.run_append_grow_string (P:=prog) w 175 9 ty 5 i (.int .u8 0) Tryz.underlying175 Tryz.underlying9 hi hz ⟨g,0,none⟩ bs.length cap (Lib.byteCells bs) (by rw[hsize,hxl];omega) holds s (by omega) (by omega) (by rw[hby];exact growslice_fits (by omega) (by omega));rw[this] at hr;injection hr with h1 h2;rw[<-h1];exact .inr rfl
theorem qjg(n:Nat)(hn:n<4294967296):Lib.byteCells (Codec.word4 n)=[.int .u8 ((n:Int) / 16777216),.int .u8 ((n:Int) / 65536 % 256),.int .u8 ((n:Int) / 256 % 256),.int .u8 ((n:Int) % 256)]:=by
 simp[Lib.byteCells,Codec.word4];omega
theorem qay(v:Value)(bs:List UInt8)(n:Nat)(hn:n<4294967296)(base:Nat)(w:World)(hown:OwnB w base v bs)(hbs:bs.length<=100000000)(hB:base<=w.heap.size) :
 Calls prog 206 #[v,.int .u32 n] w fun e w'=>∃v',e=.returned v'/\OwnB w' base v' (bs++Codec.word4 n)/\App w v w' v':=by
 obtain⟨i0,hi,hz0,hz1,hz2⟩:=info_parts info5;have HW:Hid (_=_):=qjg n hn;go_enter Tryz.func206,Tryz.ntmps206
 go_wp2_with (at_builtin;refine wpList_append_own_at _ rfl _ _ 175 rfl base 5 i0 (.int .u8 0) 1 1 Tryz.underlying175 hi hz0 hz1 hz2 rfl (by decide) _ _ _ rfl (World.ownsRow.alloc hown _) (aT w.heap.size 0) 4 4 [.int .u8 ((n:Int) / 16777216),.int .u8 ((n:Int) / 65536 % 256),.int .u8 ((n:Int) / 256 % 256),.int .u8 ((n:Int) % 256)] rfl rfl ?c1 ?c2 ?c3 ?c4 ?c5 ?_)
 case c1=>
  intro j u hj;match j,hj with
  |0,hj=>simp at hj;subst hj;simp[Addr.add]
  |1,hj=>simp at hj;subst hj;simp[Addr.add]
  |2,hj=>simp at hj;subst hj;simp[Addr.add]
  |3,hj=>simp at hj;subst hj;simp[Addr.add]
 case c2=>intro u hu;simp at hu;rcases hu with rfl|rfl|rfl|rfl <;> rfl
 case c3=>unfold maxLen;omega
 case c4=>omega
 case c5=>simp;omega
 intro v' w1 hown' hgrow _ hat
 rw[<-HW.out,<-Lib.byteCells_append] at hown';go_wp2
 go_ret;exact⟨_,rfl,by simpa[OwnB,Codec.word4_length] using hown',(App.alloc w v _).trans (App.mk hgrow hat (by simp))⟩
theorem qb9(w:World)(x:Int):∀j u,[Value.int .u8 x][j]?=some u->(w.alloc (.cells #[.int .u8 x] 5)).cell? ((⟨w.heap.size,0,none⟩:Addr).add j)=some u:=by
 intro j u hj;match j,hj with
 |0,hj=>simp at hj;subst hj;simp[Addr.add]
theorem qc6(x:Int):∀u∈[Value.int .u8 x],u.oneCell'=true:=by
 intro u hu;simp at hu;subst hu;rfl
theorem qbq(bs:List UInt8)(b:UInt8)(x:Int)(h:(b.toNat:Int)=x):Lib.byteCells bs++[Value.int .u8 x]=Lib.byteCells (bs++[b]):=by
 subst h;simp[Lib.byteCells]
theorem qqb(l:List Int)(k:Nat)(hk:k<l.length):(l.take (k+1)).map Codec.b8=(l.take k).map Codec.b8++[Codec.b8 (l.getD k 0)]:=by
 rw[yaq hk,y8,yj,yh hk];rfl
theorem qdl{l:List Int}(h:Codec.listFits l=true):l.length<=6/\∀k,k<l.length->0<=l.getD k 0/\l.getD k 0<=20:=by
 simp only[Codec.listFits,yB,decide_eq_true_eq,y5] at h;refine⟨h.1,fun k hk=>?_⟩;rw[yj,yh hk];exact Codec.inB_iff.1 (h.2 _ (yaU hk))
theorem qbh(v:Value)(bs:List UInt8)(lv:Value)(l:List Int)(B base:Nat)(w:World)(hown:OwnB w base v bs)(hbs:bs.length<=90000000)(hB:base<=w.heap.size)(hBb:B<=base)
 (hl:NumsAt w B lv l) (hf:Codec.listFits l=true) :
 Calls prog 250 #[v,lv] w fun e w'=>∃v',e=.returned v'/\OwnB w' base v' (bs++Codec.numsB l)/\App w v w' v':=by
 obtain⟨i0,hi,hz0,hz1,hz2⟩:=info_parts info5;obtain⟨h6,hbd⟩:=qdl hf;have HBD:Hid (∀k,k<l.length->0<=l.getD k 0/\l.getD k 0<=20):=hbd;have HV:Hid (∀k,v.ownBlock=some k->base<=k):=fun k hk=>(hown.lt k hk).1;clear hbd hf;rcases hl with ⟨⟨ao0,c0,rfl⟩,rfl⟩|⟨b,off,cap,rfl,hbB,hc⟩
 ·go_enter Tryz.func250,Tryz.ntmps250
  go_wp2_with (at_builtin;refine wpList_append_own_at _ rfl _ _ 175 rfl base 5 i0 (.int .u8 0) 1 1 Tryz.underlying175 hi hz0 hz1 hz2 rfl (by decide) _ _ _ rfl (World.ownsRow.alloc hown _) (aT w.heap.size 0) 1 1 [.int .u8 0] rfl rfl (qb9 _ _) (qc6 _) ?c3 ?c4 ?c5 ?_)
  case c3=>unfold maxLen;omega
  case c4=>omega
  case c5=>simp;omega
  intro v' w1 hown' hgrow _ hat
  rw[qbq bs 0 0 rfl] at hown';go_wp2
  go_loop [0,15] (fun u i=>u=v'/\i=J 0) (fun _ _=>0)
  case atStart=>exact⟨rfl,rfl⟩
  case round=>
   obtain⟨rfl,rfl⟩:=hrel;go_wp2
   go_ret;exact⟨_,rfl,by simpa[OwnB,Codec.numsB] using hown',(App.alloc w v _).trans (App.mk hgrow hat (by simp))⟩
 ·have HC:Hid (∀j,j<l.length->w.cell? ⟨b,off+j,none⟩=some (J (l.getD j 0))):=hc;clear hc;go_enter Tryz.func250,Tryz.ntmps250
  go_wp2_with (at_builtin;refine wpList_append_own_at _ rfl _ _ 175 rfl base 5 i0 (.int .u8 0) 1 1 Tryz.underlying175 hi hz0 hz1 hz2 rfl (by decide) _ _ _ rfl (World.ownsRow.alloc hown _) (aT w.heap.size 0) 1 1 [.int .u8 (l.length:Int)] rfl rfl (qb9 _ _) (qc6 _) ?c3 ?c4 ?c5 ?_)
  case c3=>unfold maxLen;omega
  case c4=>omega
  case c5=>simp;omega
  intro v' w1 hown' hgrow _ hat
  rw[qbq bs (UInt8.ofNat l.length) _ (by simp;omega)] at hown';have happ:App w v w1 v':=(App.alloc w v _).trans (App.mk hgrow hat (by simp));clear hgrow hat
  go_wp2
  go_loopw [0,15] (fun v' i wr=>∃k:Nat,k<=l.length/\i=J k/\OwnB wr base v' (bs++[UInt8.ofNat l.length]++(l.take k).map Codec.b8)/\App w v wr v') (fun _ i _=>l.length - (intOf i).toNat)
  case atStart=>exact⟨0,by omega,rfl,by simpa[OwnB] using hown',happ⟩
  case round=>
   obtain⟨k,hk,rfl,hown,happ⟩:=hrel;have hsz:=happ.size;by_cases hlt:k<l.length
   ·have hbel:Below base w wr:=happ.below hB HV.out;have hck:=(hbel.cell (p:=⟨b,off+k,none⟩) (by show b<_;omega)).trans (HC.out k hlt);have hb:=HBD.out k hlt;have HS:Hid (_=_):=qqb l k hlt;generalize l.getD k 0=x at hck hb HS;obtain⟨hx0,hx1⟩:=hb;go_wp2_with (at_builtin;refine wpList_append_own_at _ rfl _ _ 175 rfl base 5 i0 (.int .u8 0) 1 1 Tryz.underlying175 hi hz0 hz1 hz2 rfl (by decide) _ _ _ rfl (World.ownsRow.alloc hown _) (aT wr.heap.size 0) 1 1 [.int .u8 x] rfl rfl (qb9 _ _) (qc6 _) ?c3 ?c4 ?c5 ?_)
    case c3=>unfold maxLen;simp;omega
    case c4=>simp;omega
    case c5=>simp;omega
    intro v' w1 hown' hgrow _ hat
    rw[qbq _ (Codec.b8 x) _ (Codec.b8_toNat hx0 (by omega))] at hown';go_wp2
    go_roundw
    case rel=>exact⟨k+1,by omega,by go_num,OwnB.eq hown' (by rw[HS.out];simp),happ.trans ((App.alloc wr _ _).trans (App.mk hgrow hat (by simp)))⟩
    case measure=>simp[intOf];omega
   ·go_wp2
    go_ret;exact⟨_,rfl,by rw[yX (by omega)] at hown;simpa[Codec.numsB] using hown,happ⟩
theorem qd7{ops:Array Oper}{rest:List Oper}{o:Oper}{a:Act}{Q:Exit->Act->World->Prop}(w:World)(hgd:o.guard=none)(sl x:Operand)
 (ho:o.op=.call { callee:=.builtin .append,args:=#[sl,x],argTypes:=#[175,9] })
 (base:Nat) (v:Value) (bs:List UInt8) (hs:a.eval sl=v) (hown:OwnB w base v bs) (s:ByteArray) (hx:a.eval x=.string s)
 (hbytes:bs.length+s.size<=1000000000) (hbase:base<=w.heap.size)
 (h:∀v' w',OwnB w' base v' (bs++s.data.toList)->App w v w' v'->wpList prog ops Q rest (a.put o.dst v') w'):wpList prog ops Q (o::rest) a w:=by
 obtain⟨i0,hi,hz0,hz1,hz2⟩:=info_parts info5;refine wpList_plain hgd fun K hK=>?_;obtain⟨v',w',hr,h2,h3,h4⟩:=Lib.run_append_own_string (P:=prog) w base 175 9 o.type 5 i0 Tryz.underlying175 Tryz.underlying9 hi hz0 hz1 hz2 v bs.length (Lib.byteCells bs) hown s (by unfold maxLen;omega) (by omega) hbase;have hat:=qd6 w o.type i0 hi hz0 hz1 hz2 hown s hbytes hr;unfold Oper.wp execOp;simp only[ho,resolve,invoke,builtin,Sem.run_bind,Sem.run_pure,Result.andThen_ok,yas,yN,yaK,hs,hx,hr];exact hK _ _ (h v' w' (OwnB.of (n:=bs.length+s.size) (by rw[Lib.byteCells_append];exact h2)) (App.mk h3 hat (yb _)))
theorem qk9(w:World)(H:Nat)(hH:w.heap.size=H)(x y:Int):∀j u,[Value.int .u8 x,.int .u8 y][j]?=some u->(w.alloc (.cells #[.int .u8 x,.int .u8 y] 5)).cell? ((⟨H,0,none⟩:Addr).add j)=some u:=by
 subst hH;intro j u hj;match j,hj with
 |0,hj=>simp at hj;subst hj;simp[Addr.add]
 |1,hj=>simp at hj;subst hj;simp[Addr.add]
theorem qh9{m:Codec.Msg}(h:Codec.msgFits m=true):0<=m.sender/\m.sender<=5/\1<=m.seq/\m.seq<=20/\Codec.listFits m.time=true/\m.text.size<=16:=by
 simp only[Codec.msgFits,yB,decide_eq_true_eq,Codec.inB_iff] at h;exact⟨h.1.1.1.1,h.1.1.1.2,h.1.1.2.1,h.1.1.2.2,h.1.2,h.2⟩
theorem qgz(v:Value)(bs:List UInt8)(m:Codec.Msg)(tv:Value)(B base:Nat)(w:World)(hown:OwnB w base v bs)(hbs:bs.length<=80000000)(hB:base<=w.heap.size)(hBb:B<=base)
 (ht:NumsAt w B tv m.time) (hf:Codec.msgFits m=true) :
 Calls prog 251 #[v,.agg #[J m.sender,J m.seq,tv,.string m.text]] w fun e w'=>∃v',e=.returned v'/\OwnB w' base v' (bs++Codec.msgB m)/\App w v w' v':=by
 obtain⟨i0,hi,hz0,hz1,hz2⟩:=info_parts info5;obtain⟨s0,s1,q0,q1,hfl,hsz⟩:=qh9 hf;obtain⟨ao,an,ac,rfl⟩:=ht.form;have hoff:=hown.off;have HV:Hid (∀k,v.ownBlock=some k->base<=k):=fun k hk=>(hown.lt k hk).1;have hlen:=(qdl hfl).1;clear hf;go_enter Tryz.func251,Tryz.ntmps251
 go_wp2_with (at_builtin;refine wpList_append_own_at _ rfl _ _ 175 rfl base 5 i0 (.int .u8 0) 1 1 Tryz.underlying175 hi hz0 hz1 hz2 rfl (by decide) _ _ _ rfl (World.ownsRow.alloc (World.ownsRow.alloc hown _) _) ⟨w.heap.size+1,0,none⟩ 2 2 [.int .u8 m.sender,.int .u8 m.seq] rfl rfl ?c1 ?c2 ?c3 ?c4 ?c5 ?_)
 case c1=>exact qk9 (w.alloc _) _ (by simp) _ _
 case c2=>intro u hu;simp at hu;rcases hu with rfl|rfl <;> rfl
 case c3=>unfold maxLen;omega
 case c4=>omega
 case c5=>simp;omega
 intro v1 w1 hown1 hgrow _ hat
 have ha1:App (w.alloc (.cells #[J m.sender,J m.seq,.slice ao an ac,.string m.text] 179)) v w1 v1:=(App.alloc _ v _).trans (App.mk hgrow hat (by simp));have ho1:OwnB w1 base v1 (bs++[Codec.b8 m.sender,Codec.b8 m.seq]):=OwnB.of (n:=bs.length+2) (by
  have e:Lib.byteCells (bs++[Codec.b8 m.sender,Codec.b8 m.seq])=Lib.byteCells bs++[.int .u8 m.sender,.int .u8 m.seq]:=by
   simp[Lib.byteCells,Codec.b8_toNat s0 (show m.sender<256 by omega),Codec.b8_toNat (show 0<=m.seq by omega) (show m.seq<256 by omega)]
  rw[e];exact hown1)
 clear hown1 hgrow hat
 have hs1:=ha1.size;simp at hs1;have hoff1:=ha1.off (b:=w.heap.size) (by simp) hoff;have d2:=ha1.cell (a:=(aT w.heap.size 2)) (u:=.slice ao an ac) (by simp) hoff;have d3:=ha1.cell (a:=(aT w.heap.size 3)) (u:=.string m.text) (by simp) hoff;have hb1:Below base w w1:=((yi base w).alloc hB _).trans (ha1.below (by simp;omega) HV.out);have ht1:=ht.below (hb1.mono hBb);go_wp2_with fail
 refine(qbh v1 _ (.slice ao an ac) m.time B base _ ho1 (by simp;omega) (by omega) hBb ht1 hfl).mono ?_;rintro e w2 ⟨v2,rfl,ho2,ha2⟩;have hs2:=ha2.size;have hoff2:=ha2.off (b:=w.heap.size) (by omega) hoff1;have d3':=ha2.cell (a:=(aT w.heap.size 3)) d3 hoff1;clear ht1 d2 d3;go_wp2_with (at_builtin;refine wpList_append_own_at _ rfl _ _ 175 rfl base 5 i0 (.int .u8 0) 1 1 Tryz.underlying175 hi hz0 hz1 hz2 rfl (by decide) _ _ _ rfl (World.ownsRow.alloc ho2 _) (aT w2.heap.size 0) 1 1 [.int .u8 (m.text.size:Int)] rfl rfl (qb9 _ _) (qc6 _) ?c3 ?c4 ?c5 ?_)
 case c3=>unfold maxLen;simp[Codec.numsB];omega
 case c4=>simp[Codec.numsB];omega
 case c5=>simp;omega
 intro v3 w3 hown3 hgrow _ hat
 have ha3:App w2 v2 w3 v3:=(App.alloc _ v2 _).trans (App.mk hgrow hat (by simp));rw[qbq _ (UInt8.ofNat m.text.size) _ (by simp;omega)] at hown3;have ho3:=OwnB.of hown3;clear hown3 hgrow hat
 have hs3:=ha3.size;have d3'':=ha3.cell (a:=(aT w.heap.size 3)) d3' hoff2;clear d3';go_wp2_with (at_builtin;refine qd7 _ rfl _ _ rfl base _ _ rfl ho3 m.text rfl ?h1 ?h2 ?_)
 case h1=>simp[Codec.numsB];omega
 case h2=>omega
 intro v4 w4 ho4 ha4;go_wp2
 go_ret;exact⟨_,rfl,by simpa[Codec.msgB] using ho4,(((App.alloc w v _).trans ha1).trans ha2).trans (ha3.trans ha4)⟩
theorem qa1{l:List Int}(h:Codec.listFits l=true):(Codec.numsB l).length<=7:=by
 have:=(qdl h).1;simp[Codec.numsB];omega
theorem qjh{m:Codec.Msg}(h:Codec.msgFits m=true):(Codec.msgB m).length<=26:=by
 obtain⟨_,_,_,_,ht,hx⟩:=qh9 h;have:=qa1 ht;have e:m.text.data.toList.length=m.text.size:=by rw[yab];rfl
 simp[Codec.msgB];omega
theorem qdy(l:List Codec.Msg)(h:l.all Codec.msgFits=true):(Codec.msgsB l).length<=26 * l.length:=by
 induction l with
 |nil=>simp[Codec.msgsB]
 | cons m l ih =>
   simp only[List.all_cons,yB] at h;have h1:=qjh h.1;have h2:=ih h.2;have e:Codec.msgsB (m::l)=Codec.msgB m++Codec.msgsB l:=by simp[Codec.msgsB]
   rw[e,yC,yx];omega
theorem qla(l:List Codec.Msg)(k:Nat)(m:Codec.Msg)(hk:l[k]?=some m):Codec.msgsB (l.take (k+1))=Codec.msgsB (l.take k)++Codec.msgB m:=by
 obtain⟨hlt,he⟩:=ym.1 hk;rw[yaq hlt,Codec.msgsB_snoc,he]
theorem MsgsAt.entry{w:World}{B n c:Nat}{ao:Option Addr}{l:List Codec.Msg}(h:MsgsAt w B (.slice ao n c) l) :
 n = l.length /\ ∀ k m, l[k]? = some m -> ∃ b off xo xn xc, ao = some ⟨b, off, none⟩ /\ b < B /\ w.cell? ⟨b, off + k * 4, none⟩ = some (J m.sender) /\ w.cell? ⟨b, off + k * 4 + 1, none⟩ = some (J m.seq) /\
   w.cell? ⟨b,off+k * 4+2,none⟩=some (.slice xo xn xc)/\w.cell? ⟨b,off+k * 4+3,none⟩=some (.string m.text)/\NumsAt w B (.slice xo xn xc) m.time:=by
 rcases h with ⟨⟨ao0,c0,hv⟩,rfl⟩|⟨b,off,cap,hv,hb,hc⟩
 ·simp at hv;exact⟨by simp[hv],fun k m hk=>by simp at hk⟩
 ·simp at hv;refine⟨hv.2.1,fun k m hk=>?_⟩;obtain⟨tv,h0,h1,h2,h3,ht⟩:=hc k m hk;obtain⟨xo,xn,xc,rfl⟩:=ht.form;exact⟨b,off,xo,xn,xc,hv.1,hb,h0,h1,h2,h3,ht⟩
theorem qor(k a b m:Int)(v u t:Nat)(row cut:List Int)(ms:List Codec.Msg) :
 Codec.bodyB ⟨k,a,b,m,v,u,t,row,cut,ms⟩=(([Codec.b8 k,Codec.b8 a,Codec.b8 b,Codec.b8 m]++Codec.word4 v++Codec.word4 u++Codec.word4 t++Codec.numsB row++Codec.numsB cut)++[UInt8.ofNat ms.length])++Codec.msgsB ms:=rfl
theorem qlb(w:World)(H:Nat)(hH:w.heap.size=H)(x y z t:Int):∀j u,[Value.int .u8 x,.int .u8 y,.int .u8 z,.int .u8 t][j]?=some u->(w.alloc (.cells #[.int .u8 x,.int .u8 y,.int .u8 z,.int .u8 t] 5)).cell? ((⟨H,0,none⟩:Addr).add j)=some u:=by
 subst hH;intro j u hj;match j,hj with
 |0,hj=>simp at hj;subst hj;simp[Addr.add]
 |1,hj=>simp at hj;subst hj;simp[Addr.add]
 |2,hj=>simp at hj;subst hj;simp[Addr.add]
 |3,hj=>simp at hj;subst hj;simp[Addr.add]
theorem qe0(k a b m:Int)(v u t:Nat)(row cut:List Int)(ms:List Codec.Msg)(rv cv mv:Value)(B:Nat)(w:World)
 (hr:NumsAt w B rv row) (hc:NumsAt w B cv cut) (hm:MsgsAt w B mv ms) (hB:B<=w.heap.size)
 (hk0:0<=k) (hk1:k<=7) (ha0:0<=a) (ha1:a<=5) (hb0:0<=b) (hb1:b<=5) (hm0:0<=m) (hm1:m<=63) (hv:v<=2147483647) (hu:u<=2147483647) (ht:t<=2147483647)
 (hrf:Codec.listFits row=true) (hcf:Codec.listFits cut=true) (hml:ms.length<=200) (hmf:ms.all Codec.msgFits=true) :
 Calls prog 205 #[sN,.agg #[J k,J a,J b,J m,J v,J u,J t,rv,cv,mv]] w
  fun e w'=>∃x,e=.returned x/\OwnB w' w.heap.size x (Codec.bodyB ⟨k,a,b,m,v,u,t,row,cut,ms⟩)/\Below w.heap.size w w':=by
 obtain⟨i0,hi,hz0,hz1,hz2⟩:=info_parts info5;obtain⟨ro,rn,rc,rfl⟩:=hr.form;obtain⟨co,cn,cc,rfl⟩:=hc.form;obtain⟨mo,mn,mc,rfl⟩:=hm.form;have hrl:=qa1 hrf;have hcl:=qa1 hcf;have HR:Hid (∀w',Below w.heap.size w w'->NumsAt w' B (.slice ro rn rc) row):=fun w' hb=>hr.below (hb.mono hB);have HC:Hid (∀w',Below w.heap.size w w'->NumsAt w' B (.slice co cn cc) cut):=fun w' hb=>hc.below (hb.mono hB);obtain⟨rfl,hent⟩:=hm.entry;have HM:Hid (∀k m,ms[k]?=some m->∃b off xo xn xc,mo=some ⟨b,off,none⟩/\b<B/\w.cell? ⟨b,off+k * 4,none⟩=some (J m.sender)/\w.cell? ⟨b,off+k * 4+1,none⟩=some (J m.seq)/\
  w.cell? ⟨b,off+k * 4+2,none⟩=some (.slice xo xn xc)/\w.cell? ⟨b,off+k * 4+3,none⟩=some (.string m.text)/\NumsAt w B (.slice xo xn xc) m.time):=hent
 clear hr hc hm hent;have hoN:∀b,(Value.slice none 0 0).ownBlock≠some b:=fun b=>by simp[Value.ownBlock]
 have HO:Hid (∀b,(Value.slice none 0 0).ownBlock≠some b):=hoN;have hown0:OwnB w w.heap.size (sN) []:=OwnB.nil _ _;clear hoN;go_enter Tryz.func205,Tryz.ntmps205
 go_wp2_with (at_builtin;refine wpList_append_own_at _ rfl _ _ 175 rfl w.heap.size 5 i0 (.int .u8 0) 1 1 Tryz.underlying175 hi hz0 hz1 hz2 rfl (by decide) _ _ _ rfl (World.ownsRow.alloc (World.ownsRow.alloc hown0 _) _) ⟨w.heap.size+1,0,none⟩ 4 4 [.int .u8 k,.int .u8 a,.int .u8 b,.int .u8 m] rfl rfl ?c1 ?c2 ?c3 ?c4 ?c5 ?_)
 case c1=>exact qlb (w.alloc _) _ (by simp) _ _ _ _
 case c2=>intro u hu;simp at hu;rcases hu with rfl|rfl|rfl|rfl <;> rfl
 case c3=>unfold maxLen;show 0+4<=2 ^ 63 - 1;omega
 case c4=>simp
 case c5=>simp;omega
 intro v1 w1 hown1 hgrow _ hat
 have A1:App (w.alloc (.cells #[J k,J a,J b,J m,J v,J u,J t,.slice ro rn rc,.slice co cn cc,.slice mo ms.length mc] 165)) (sN) w1 v1:=(App.alloc _ _ _).trans (App.mk hgrow hat (by simp));have O1:OwnB w1 w.heap.size v1 [Codec.b8 k,Codec.b8 a,Codec.b8 b,Codec.b8 m]:=OwnB.of (n:=4) (by
  have e:Lib.byteCells [Codec.b8 k,Codec.b8 a,Codec.b8 b,Codec.b8 m]=[.int .u8 k,.int .u8 a,.int .u8 b,.int .u8 m]:=by
   simp[Lib.byteCells,Codec.b8_toNat hk0 (show k<256 by omega),Codec.b8_toNat ha0 (show a<256 by omega),Codec.b8_toNat hb0 (show b<256 by omega),Codec.b8_toNat hm0 (show m<256 by omega)]
  rw[e];simpa[Lib.byteCells] using hown1)
 clear hown1 hgrow hat hown0;obtain⟨W,hW⟩:∃W,W=w.alloc (.cells #[J k,J a,J b,J m,J v,J u,J t,.slice ro rn rc,.slice co cn cc,.slice mo ms.length mc] 165):=⟨_,rfl⟩;rw[<-hW] at A1;have HWs:Hid (W.heap.size=w.heap.size+1):=by show _=_;rw[hW];simp
 have HWb:Hid (Below w.heap.size w W):=by show Below _ _ _;rw[hW];exact(yi _ _).alloc (yb _) _
 have b4:W.cell? (aT w.heap.size 4)=some (J v):=by rw[hW];simp
 have b5:W.cell? (aT w.heap.size 5)=some (J u):=by rw[hW];simp
 have b6:W.cell? (aT w.heap.size 6)=some (J t):=by rw[hW];simp
 have b7:W.cell? (aT w.heap.size 7)=some (.slice ro rn rc):=by rw[hW];simp
 have b8:W.cell? (aT w.heap.size 8)=some (.slice co cn cc):=by rw[hW];simp
 have b9:W.cell? (aT w.heap.size 9)=some (.slice mo ms.length mc):=by rw[hW];simp
 clear hW;have HA:Hid (∀{wi vi},App W (sN) wi vi->w.heap.size+1<=wi.heap.size/\Below w.heap.size w wi/\∀j x,W.cell? (aT w.heap.size j)=some x->wi.cell? (aT w.heap.size j)=some x):=by
  intro wi vi h;have hs:=h.size;rw[HWs.out] at hs;exact⟨hs,HWb.out.trans (h.below (by rw[HWs.out];omega) (fun k hk=>absurd hk (HO.out k))),fun j x hx=>h.cell hx (HO.out _)⟩
 obtain⟨s1,B1,q1⟩:=HA.out A1;have c4:=q1 4 _ b4;clear q1;go_wp2_with fail
 refine(qay v1 _ v (by omega) w.heap.size _ O1 (by simp) (by omega)).mono ?_;rintro e w2 ⟨v2,rfl,O2,A2⟩;replace A2:=A1.trans A2;clear c4 A1 O1 s1 B1;obtain⟨s2,B2,q2⟩:=HA.out A2;have c5:=q2 5 _ b5;clear q2;go_wp2_with fail
 refine(qay v2 _ u (by omega) w.heap.size _ O2 (by simp[Codec.word4_length]) (by omega)).mono ?_;rintro e w3 ⟨v3,rfl,O3,A3⟩;replace A3:=A2.trans A3;clear c5 A2 O2 s2 B2;obtain⟨s3,B3,q3⟩:=HA.out A3;have c6:=q3 6 _ b6;clear q3;go_wp2_with fail
 refine(qay v3 _ t (by omega) w.heap.size _ O3 (by simp[Codec.word4_length]) (by omega)).mono ?_;rintro e w4 ⟨v4,rfl,O4,A4⟩;replace A4:=A3.trans A4;clear c6 A3 O3 s3 B3;obtain⟨s4,B4,q4⟩:=HA.out A4;have c7:=q4 7 _ b7;clear q4;go_wp2_with fail
 refine(qbh v4 _ _ row B w.heap.size _ O4 (by simp[Codec.word4_length]) (by omega) hB (HR.out _ B4) hrf).mono ?_;rintro e w5 ⟨v5,rfl,O5,A5⟩;replace A5:=A4.trans A5;clear c7 A4 O4 s4 B4;obtain⟨s5,B5,q5⟩:=HA.out A5;have c8:=q5 8 _ b8;clear q5;go_wp2_with fail
 refine(qbh v5 _ _ cut B w.heap.size _ O5 (by simp[Codec.word4_length];omega) (by omega) hB (HC.out _ B5) hcf).mono ?_;rintro e w6 ⟨v6,rfl,O6,A6⟩;replace A6:=A5.trans A6;clear c8 A5 O5 s5 B5;obtain⟨s6,B6,q6⟩:=HA.out A6;have c9:=q6 9 _ b9;clear q6;go_wp2_with (at_builtin;refine wpList_append_own_at _ rfl _ _ 175 rfl w.heap.size 5 i0 (.int .u8 0) 1 1 Tryz.underlying175 hi hz0 hz1 hz2 rfl (by decide) _ _ _ rfl (World.ownsRow.alloc O6 _) (aT w6.heap.size 0) 1 1 [.int .u8 (ms.length:Int)] rfl rfl (qb9 _ _) (qc6 _) ?c3 ?c4 ?c5 ?_)
 case c3=>unfold maxLen;simp[Codec.word4_length];omega
 case c4=>simp[Codec.word4_length];omega
 case c5=>simp;omega
 intro v7 w7 hown7 hgrow _ hat
 have A7:App W (sN) w7 v7:=A6.trans ((App.alloc _ _ _).trans (App.mk hgrow hat (by simp)));rw[qbq _ (UInt8.ofNat ms.length) _ (by simp;omega)] at hown7;have O7:OwnB w7 w.heap.size v7 (([Codec.b8 k,Codec.b8 a,Codec.b8 b,Codec.b8 m]++Codec.word4 v++Codec.word4 u++Codec.word4 t++Codec.numsB row++Codec.numsB cut)++[UInt8.ofNat ms.length]):=OwnB.eq hown7 (by simp);clear hown7 hgrow hat c9 A6 O6 s6 B6;obtain⟨s7,B7,q7⟩:=HA.out A7;have c9:=q7 9 _ b9;clear q7;have HP:Hid (Codec.bodyB ⟨k,a,b,m,v,u,t,row,cut,ms⟩=_++Codec.msgsB ms):=qor k a b m v u t row cut ms;have hpl:(([Codec.b8 k,Codec.b8 a,Codec.b8 b,Codec.b8 m]++Codec.word4 v++Codec.word4 u++Codec.word4 t++Codec.numsB row++Codec.numsB cut)++[UInt8.ofNat ms.length]).length<=40:=by
  simp[Codec.word4_length];omega
 generalize (([Codec.b8 k,Codec.b8 a,Codec.b8 b,Codec.b8 m]++Codec.word4 v++Codec.word4 u++Codec.word4 t++Codec.numsB row++Codec.numsB cut)++[UInt8.ofNat ms.length])=P at O7 HP hpl;clear b4 b5 b6 b7 b8 b9;go_wp2
 go_loopw [0,55] (fun x i wr=>∃j:Nat,j<=ms.length/\i=J j/\OwnB wr w.heap.size x (P++Codec.msgsB (ms.take j))/\App W (sN) wr x) (fun _ i _=>ms.length - (intOf i).toNat)
 case atStart=>exact⟨0,by omega,rfl,by simpa[Codec.msgsB] using O7,A7⟩
 case round=>
  obtain⟨j,hj,rfl,O,A⟩:=hrel;by_cases hlt:j<ms.length
  ·obtain⟨x,hx⟩:∃x,ms[j]?=some x:=⟨ms[j],yh hlt⟩;obtain⟨eb,off,xo,xn,xc,hmo,heB,c0,c1,c2,c3,ht⟩:=HM.out j x hx;subst hmo;obtain⟨s8,B8,_⟩:=HA.out A;have HS:Hid (_=_):=qla ms j x hx;have hfx:Codec.msgFits x=true:=y5.1 hmf x (yy hx);have hlen:=qdy (ms.take j) (by rw[y5] at hmf ⊢;exact fun y hy=>hmf y (List.mem_of_mem_take hy));have hlen2:(ms.take j).length<=200:=by simp;omega
   have d0:=(B8.cell (p:=⟨eb,off+j * 4,none⟩) (by show eb<_;omega)).trans c0;have d1:=(B8.cell (p:=⟨eb,off+j * 4+1,none⟩) (by show eb<_;omega)).trans c1;have d2:=(B8.cell (p:=⟨eb,off+j * 4+2,none⟩) (by show eb<_;omega)).trans c2;have d3:=(B8.cell (p:=⟨eb,off+j * 4+3,none⟩) (by show eb<_;omega)).trans c3;have HT:Hid (∀o,NumsAt (wr.alloc o) B (.slice xo xn xc) x.time):=fun o=>ht.below ((B8.mono hB).alloc (by omega) o);clear c0 c1 c2 c3 ht hx;go_wp2_with fail
   refine(qgz _ _ x (.slice xo xn xc) B w.heap.size _ (O.alloc _) (by simp;omega) (by simp;omega) hB (HT.out _) hfx).mono ?_;rintro e w9 ⟨v9,rfl,O9,A9⟩;have A9':=A.trans ((App.alloc _ _ _).trans A9);go_wp2
   go_roundw
   case rel=>exact⟨j+1,by omega,by go_num,by rw[HS.out,<-yav];exact O9,A9'⟩
   case measure=>simp[intOf];omega
  ·obtain⟨s8,B8,_⟩:=HA.out A;go_wp2
   go_ret;exact⟨_,rfl,by rw[HP.out];rw[yX (by omega)] at O;exact O,B8⟩
theorem qe1{w:World}{base:Nat}{ao:Option Addr}{n c:Nat}{bs:List UInt8}(h:OwnB w base (.slice ao n c) bs) :
 (convert 175 9 (.slice ao n c)).run prog w=.ok (.string ⟨bs.toArray⟩) w:=by
 rcases h.2 with ⟨hv,h0⟩|⟨g,cap,cur,hv,hb,hg,_,_,_,htake⟩
 ·simp at hv;obtain⟨rfl,rfl,rfl⟩:=hv;have:bs=[]:=yaz h0;subst this;rw[run_convert_bytes_string w 175 9 5 none 0 0 Tryz.underlying175 Tryz.underlying5 Tryz.underlying9];simp[Conv.bytesToString];rfl
 ·simp at hv;obtain⟨rfl,rfl,rfl⟩:=hv;refine run_convert_bytes_back w 175 9 5 ⟨g,0,none⟩ c bs Tryz.underlying175 Tryz.underlying5 Tryz.underlying9 ?_;intro j hj;have h1:=World.ownsRow.cells h (g:=g) rfl j (.int .u8 (bs[j].toNat:Int)) (by simp[Lib.byteCells,hj]);exact h1
theorem qcr{f:Codec.Frame}(h:Codec.fits f=true):(Codec.bodyB f).length<=5300:=by
 simp only[Codec.fits,Codec.msgsFit,yB,decide_eq_true_eq] at h;obtain⟨⟨⟨⟨_,_⟩,hr⟩,hc⟩,hml,hm⟩:=h;have h1:=qa1 hr;have h2:=qa1 hc;have h3:=qdy f.msgs hm;simp[Codec.bodyB,Codec.word4_length];omega
theorem qmw(f:Codec.Frame)(rv cv mv:Value)(B:Nat)(w:World)(hr:NumsAt w B rv f.row)(hc:NumsAt w B cv f.cut)(hm:MsgsAt w B mv f.msgs)(hB:B<=w.heap.size)(hf:Codec.fits f=false) :
 Calls prog 168 #[.agg #[J f.kind,J f.src,J f.dst,J f.members,J f.view,J f.ballot,J f.voted,rv,cv,mv]] w
  fun e w'=>e=.returned (.tuple #[.string ⟨#[]⟩,J 3])/\Below w.heap.size w w':=by
 obtain⟨ro,rn,rc,rfl⟩:=hr.form;obtain⟨co,cn,cc,rfl⟩:=hc.form;obtain⟨mo,mn,mc,rfl⟩:=hm.form;have HR:Hid (∀w',Below w.heap.size w w'->NumsAt w' B (.slice ro rn rc) f.row):=fun w' hb=>hr.below (hb.mono hB);have HC:Hid (∀w',Below w.heap.size w w'->NumsAt w' B (.slice co cn cc) f.cut):=fun w' hb=>hc.below (hb.mono hB);have HM:Hid (∀w',Below w.heap.size w w'->MsgsAt w' B (.slice mo mn mc) f.msgs):=fun w' hb=>hm.below (hb.mono hB);clear hr hc hm;have hb0:∀o,Below w.heap.size w (w.alloc o):=fun o=>(yi _ _).alloc (yb _) o;go_enter Tryz.func168,Tryz.ntmps168
 go_wp2_with (go_at_call 204;refine(qc5 f _ _ _ B _ (HR.out _ (hb0 _)) (HC.out _ (hb0 _)) (HM.out _ (hb0 _)) (by simp;omega)).mono ?_;rintro e w1 ⟨rfl,hb1⟩)
 go_ret2
 exact⟨rfl,(hb0 _).trans (hb1.mono (by simp))⟩
theorem qdm(f:Codec.Frame)(rv cv mv:Value)(B:Nat)(w:World)(hr:NumsAt w B rv f.row)(hc:NumsAt w B cv f.cut)(hm:MsgsAt w B mv f.msgs)(hB:B<=w.heap.size)(hf:Codec.fits f=true) :
 Calls prog 168 #[.agg #[J f.kind,J f.src,J f.dst,J f.members,J f.view,J f.ballot,J f.voted,rv,cv,mv]] w
  fun e w'=>e=.returned (.tuple #[.string ⟨(Codec.encB f).toArray⟩,J 0])/\Below w.heap.size w w':=by
 obtain⟨ro,rn,rc,rfl⟩:=hr.form;obtain⟨co,cn,cc,rfl⟩:=hc.form;obtain⟨mo,mn,mc,rfl⟩:=hm.form;have HR:Hid (∀w',Below w.heap.size w w'->NumsAt w' B (.slice ro rn rc) f.row):=fun w' hb=>hr.below (hb.mono hB);have HC:Hid (∀w',Below w.heap.size w w'->NumsAt w' B (.slice co cn cc) f.cut):=fun w' hb=>hc.below (hb.mono hB);have HM:Hid (∀w',Below w.heap.size w w'->MsgsAt w' B (.slice mo mn mc) f.msgs):=fun w' hb=>hm.below (hb.mono hB);clear hr hc hm;have hb0:∀o,Below w.heap.size w (w.alloc o):=fun o=>(yi _ _).alloc (yb _) o;have hlen:=qcr hf;have HE:Hid (Codec.encB f=Codec.bodyB f++Codec.word4 (Crc.sum (Codec.bodyB f))):=rfl;obtain⟨k,a,b,m,v,u,t,row,cut,ms⟩:=f;have hf':=hf;simp only[Codec.fits,Codec.headFits,Codec.ballotsFit,Codec.msgsFit,yB,decide_eq_true_eq,Codec.inB_iff] at hf';obtain⟨⟨⟨⟨⟨⟨⟨k1,a1⟩,b1⟩,m1⟩,⟨v1,u1⟩,t1⟩,hrf⟩,hcf⟩,hml,hmf⟩:=hf';obtain⟨v,rfl⟩:=yal v1.1;obtain⟨u,rfl⟩:=yal u1.1;obtain⟨t,rfl⟩:=yal t1.1;simp only at HR HC HM ⊢;have HF:Hid (∀(w:World) (hr:NumsAt w B (.slice ro rn rc) row) (hc:NumsAt w B (.slice co cn cc) cut) (hm:MsgsAt w B (.slice mo mn mc) ms) (_:B<=w.heap.size),Calls prog 205 #[sN,.agg #[J k,J a,J b,J m,J v,J u,J t,.slice ro rn rc,.slice co cn cc,.slice mo mn mc]] w
  fun e w'=>∃x,e=.returned x/\OwnB w' w.heap.size x (Codec.bodyB ⟨k,a,b,m,v,u,t,row,cut,ms⟩)/\Below w.heap.size w w'):=fun w hr hc hm hB=>
  qe0 k a b m v u t row cut ms _ _ _ B w hr hc hm hB (by omega) k1.2 a1.1 a1.2 b1.1 b1.2 m1.1 m1.2 (by omega) (by omega) (by omega) hrf hcf hml hmf
 have HFit:Hid (∀(w:World) (hr:NumsAt w B (.slice ro rn rc) row) (hc:NumsAt w B (.slice co cn cc) cut) (hm:MsgsAt w B (.slice mo mn mc) ms) (_:B<=w.heap.size),Calls prog 204 #[.agg #[J k,J a,J b,J m,J v,J u,J t,.slice ro rn rc,.slice co cn cc,.slice mo mn mc]] w
  fun e w'=>e=.returned (.bool true)/\Below w.heap.size w w'):=fun w hr hc hm hB=>
  (qc5 ⟨k,a,b,m,v,u,t,row,cut,ms⟩ _ _ _ B w hr hc hm hB).mono (fun e w' h=>by rw[hf] at h;exact h)
 generalize Codec.bodyB ⟨k,a,b,m,v,u,t,row,cut,ms⟩=bd at HE HF hlen;generalize Codec.encB ⟨k,a,b,m,v,u,t,row,cut,ms⟩=en at HE ⊢;clear k1 a1 b1 m1 v1 u1 t1 hrf hcf hml hmf hf;go_enter Tryz.func168,Tryz.ntmps168
 go_wp2_with fail
 refine(HFit.out _ (HR.out _ (hb0 _)) (HC.out _ (hb0 _)) (HM.out _ (hb0 _)) (by simp;omega)).mono ?_;rintro e w1 ⟨rfl,hb1⟩;have hb1':=(hb0 _).trans (hb1.mono (by simp));have hs1:=hb1.size;simp at hs1;obtain⟨hc1,hf1⟩:=bcell hb1;go_wp2_with fail
 refine(HF.out _ (HR.out _ hb1') (HC.out _ hb1') (HM.out _ hb1') (by omega)).mono ?_;rintro e w2 ⟨x,rfl,O2,hb2⟩;have hb2':=hb1'.trans (hb2.mono (by omega));have hs2:=hb2.size;obtain⟨xo,xn,xc,rfl⟩:=O2.form;have hcv:=qe1 O2;go_wp2_with fail
 refine(qje ⟨bd.toArray⟩ _ (by unfold maxLen;show bd.toArray.size<=_;simp;omega)).mono ?_;rintro e w2 ⟨rfl,rfl⟩;go_wp2_with fail
 refine(qay _ bd (Crc.sum bd) (Crc.sum_lt _) _ _ O2 (by omega) (by omega)).mono ?_;rintro e w3 ⟨y,rfl,O3,A3⟩;obtain⟨yo,yn,yc,rfl⟩:=O3.form;have hcv3:=qe1 O3;have hb3:=hb2'.trans ((A3.below (yr hs1 hs2 |> fun h=>by omega) (fun k hk=>(O2.lt k hk).1)).mono (by omega));go_wp2
 go_ret2
 exact⟨by rw[HE.out];rfl,hb3⟩
end
end Go.Proofs.YtoklolfaemhfnaaGreatDoor

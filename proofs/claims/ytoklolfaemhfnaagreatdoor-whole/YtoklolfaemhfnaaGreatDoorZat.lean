import Derived.Lib.BufferWrite
import Derived.Laws.MakeOwn
import Derived.Test.YtoklolfaemhfnaaGreatDoorZas
set_option maxRecDepth 100000
set_option maxHeartbeats 8000000
open Go.Proofs.Tryz (prog)
namespace Go.Proofs.YtoklolfaemhfnaaGreatDoor
section
open Go.RowKit
theorem cells5:prog.cellsOf 5=1:=by kernel_rfl
theorem qjj(s:ByteArray)(w:World)(hlim:s.size<=4000000) :
 Calls prog 233 #[.string s] w fun e w'=>e=.returned (.string s)/\Below w.heap.size w w':=by
 by_cases h0:s.size=0
 ·have hs:s=⟨#[]⟩:=by
   apply ByteArray.ext;exact Array.eq_empty_of_size_eq_zero h0
  subst hs;go_enter Tryz.func233,Tryz.ntmps233
  go_wp2
  go_ret;exact⟨rfl,yi _ _⟩
 ·obtain⟨i0,hi,hz0,hz1,hz2⟩:=info_parts info5;have hinfo:(prog.info? 5).map (·.size)=some 1:=by rw[hi];simp[hz1]
  obtain⟨M,hM⟩:∃M,M=madeCells (Value.int .u8 0).cells (((s.size:Nat):Int).toNat * i0.size):=⟨_,rfl⟩;have hMs:M.size=s.size:=by rw[hM,size_madeCells,hz1];simp
  have hmk:∀W:World,(Instr.makeSlice 175 (J (s.size:Int)) (J (s.size:Int))).run prog W=.ok (sT W.heap.size s.size s.size) (W.alloc (.cells M 5)):=fun W=>by
   have h:=run_make (P:=prog) W 175 5 i0 (.int .u8 0) Tryz.underlying175 hi hz0 .i64 .i64 (s.size:Int) (s.size:Int) (by omega) (by omega) (by rw[hz2];omega) (by omega);rw[<-hM] at h;simpa using h
  clear hM;have hcp:=Lib.run_copy_row_string (P:=prog) (w.alloc (.cells M 5)) 175 9 3 5 w.heap.size 0 s.size s.size s M 5 Tryz.underlying175 hinfo (heap_alloc_new w _) (yb _) (by omega);obtain⟨Y,hY⟩:∃Y,Y=(M.toList.take 0++Lib.byteCells s.data.toList++M.toList.drop (0+s.size)).toArray:=⟨_,rfl⟩;rw[<-hY] at hcp;have hYl:Y.toList=Lib.byteCells s.data.toList:=by
   rw[hY,List.toList_toArray,List.take_zero,List.nil_append,List.drop_of_length_le (by rw[yab];omega),ya0]
  have hYs:Y.size=s.size:=by rw[<-yab,hYl,Lib.byteCells_length,<-Lib.size_eq]
  have hgY:((w.alloc (.cells M 5)).setRow w.heap.size Y).heap[w.heap.size]?=some (.cells Y 5 (0,0)):=setRow_heap _ _ M _ 5 (0,0) (heap_alloc_new w _);have hne:s.data.toList≠[]:=fun e=>h0 (by rw[Lib.size_eq,e];rfl);have hUS:=Lib.run_unsafeString_row (P:=prog) ((w.alloc (.cells M 5)).setRow w.heap.size Y) 275 3 9 5 Tryz.underlying275 cells5 w.heap.size Y.size (by unfold World.shape?;rw[hgY]) s.data.toList hne (by rw[<-Lib.size_eq];omega) (by rw[<-Lib.size_eq];omega)
   (fun j x hx=>Lib.cells_of_row hgY Y.size j _ (by rw[yX (by rw[yab];exact yb _),hYl];simp[Lib.byteCells,hx]))
  rw[<-Lib.size_eq] at hUS;clear hY;go_enter Tryz.func233,Tryz.ntmps233
  go_wp2
  go_ret;have hb1:Below w.heap.size w (w.alloc (.cells M 5)):=(yi _ w).alloc (yb _) _;have hb2:Below w.heap.size (w.alloc (.cells M 5)) ((w.alloc (.cells M 5)).setRow w.heap.size Y):=⟨rfl,rfl,rfl,by simp,fun k hk=>setRow_other _ _ _ _ (by omega)⟩;exact⟨rfl,Lib.below_freeze (hb1.trans hb2) (p:=(aT w.heap.size 0)) (yb _) _⟩
theorem qcs(s:ByteArray)(w:World)(hlim:s.size<=4000000) :
 Calls prog 183 #[.string s] w fun e w'=>e=.returned (.string s)/\Below w.heap.size w w':=by
 go_enter Tryz.func183,Tryz.ntmps183
 go_wp2_with (go_at_call 233;refine(qjj s _ hlim).mono ?_;rintro e w1 ⟨rfl,hb1⟩)
 go_ret;exact⟨rfl,hb1⟩
theorem RdTo.later{w w' w'':World}{rb:Nat}{l:List UInt8}(h:RdTo w w' rb l)(hb:Below w'.heap.size w' w''):RdTo w w'' rb l:=
 ⟨⟨(hb.cell (p := (aT rb 0)) h.1.lt).trans h.1.1, (hb.frozen (p := (aT rb 0)) h.1.lt).trans h.1.2⟩, hb.os.trans h.2.os, hb.tape.trans h.2.tape, hb.output.trans h.2.output, yr h.2.size hb.size,
   fun b hlt hne=>(hb.block b (yg hlt h.2.size)).trans (h.2.block b hlt hne)⟩
theorem RdTo.put{w w':World}{rb:Nat}{l:List UInt8}(h:RdTo w w' rb l)(l2:List UInt8):RdTo w (w'.setCell ⟨rb,0,none⟩ (.string ⟨l2.toArray⟩)) rb l2:=by
 refine h.trans ⟨⟨World.cell?_setCell_same _ _ _ h.1.1,by simpa using h.1.2⟩,rfl,rfl,rfl,by simp,fun k hk hne=>?_⟩;exact yT _ _ _ _ (fun e=>hne (congrArg some e))
theorem qbe(l:List UInt8)(n:Nat):(⟨l.toArray⟩:ByteArray).extract 0 n=⟨(l.take n).toArray⟩:=by
 apply ByteArray.ext;apply Array.ext';rw[Lib.extract_data];simp
theorem qib(l:List UInt8)(n m:Nat)(hm:l.length<=m):(⟨l.toArray⟩:ByteArray).extract n m=⟨(l.drop n).toArray⟩:=by
 apply ByteArray.ext;apply Array.ext';rw[Lib.extract_data];simp;rw[yX (by simp;omega)]
theorem qot(l l2:List UInt8)(x:ByteArray)(rb:Nat)(w:World)(hz:Codec.text l=(x,l2))(h:RdAt w rb l)(hl:l.length<=140737488351232) :
 Calls prog 245 #[pT rb 0] w fun e w'=>e=.returned (.string x)/\RdTo w w' rb l2:=by
 obtain⟨n,l1,hn⟩:∃n l1,Codec.oct l=(n,l1):=⟨_,_,rfl⟩;have hob:=qh l;rw[hn] at hob;obtain⟨hn0,hn1,hn2⟩:=hob;simp only at hn0 hn1 hn2;obtain⟨n,rfl⟩:=yal hn0;have hz':=hz;rw[Codec.text,hn] at hz';simp only[yai,yau] at hz';obtain⟨hx,hl2⟩:=hz';have HX:Hid (_=_):=hx;have HL2:Hid (_=_):=hl2;have HN:Hid (_=_):=hn;have hrlt:=h.lt;clear hz hn hn0 hx hl2;by_cases hle:n<=l1.length
 ·go_enter Tryz.func245,Tryz.ntmps245
  go_wp2_with fail
  refine(qak l _ l1 rb _ HN.out h hl).mono ?_;rintro e w1 ⟨rfl,hr1⟩;obtain⟨q1,q2⟩:=hr1.1;go_wp2_with fail
  refine(qcs _ _ (by rw[qbe];show (List.toArray _).size<=_;simp;omega)).mono ?_;rintro e w2 ⟨rfl,hb2⟩;have hr2:=hr1.later hb2;obtain⟨p1,p2⟩:=hr2.1;go_wp2
  go_ret;refine⟨?_,?_⟩
  ·show Ending.returned (.string ((⟨l1.toArray⟩:ByteArray).extract 0 n))=_;rw[qbe,HX.out]
  ·rw[qib _ _ _ (yb _),HL2.out];exact hr2.put l2
 ·go_enter Tryz.func245,Tryz.ntmps245
  go_wp2_with fail
  refine(qak l _ l1 rb _ HN.out h hl).mono ?_;rintro e w1 ⟨rfl,hr1⟩;obtain⟨q1,q2⟩:=hr1.1;go_wp2_with fail
  refine(qcs _ _ (by rw[qbe];show (List.toArray _).size<=_;simp;omega)).mono ?_;rintro e w2 ⟨rfl,hb2⟩;have hr2:=hr1.later hb2;obtain⟨p1,p2⟩:=hr2.1;go_wp2
  go_ret;refine⟨?_,?_⟩
  ·show Ending.returned (.string ((⟨l1.toArray⟩:ByteArray).extract 0 l1.length))=_;rw[qbe,<-HX.out,yaT,yX (by omega)]
  ·rw[<-HL2.out,List.drop_of_length_le (by omega)];exact hr2.put []
theorem qcl(l:List UInt8):(Codec.nums l).1.length<256/\(Codec.nums l).2.length<=l.length:=by
 have h:=qh l;have g:∀(m:Nat) (s:List UInt8),(Codec.octs m s).2.length<=s.length:=by
  intro m;induction m with
  |zero=>intro s;exact yb _
  |succ m ih=>intro s;rw[Codec.octs];exact yr (ih _) (qh s).2.2
 unfold Codec.nums;exact⟨by rw[qji];omega,yr (g _ _) h.2.2⟩
theorem qld(l:List UInt8):(Codec.text l).2.length<=l.length:=by
 have h:=qh l;simp[Codec.text];omega
theorem qdn(l:List UInt8):(Codec.word l).2.length<=l.length:=by
 unfold Codec.word;exact yr (qh _).2.2 (yr (qh _).2.2 (yr (qh _).2.2 (qh _).2.2))
theorem qjk(l l2:List UInt8)(z:Int)(rb:Nat)(w:World)(hz:Codec.word l=(z,l2))(h:RdAt w rb l)(hl:l.length<=140737488351232) :
 Calls prog 201 #[pT rb 0] w fun e w'=>e=.returned (J z)/\RdTo w w' rb l2:=by
 have:=qos l rb w h hl;rw[hz] at this;exact this
theorem BlkAt.rd{w w':World}{X rb:Nat}{l:List UInt8}{T:TypeId}{cs:Array Value}(h:BlkAt w X T cs)(r:RdTo w w' rb l)(hne:X≠rb):BlkAt w' X T cs:=by
 unfold BlkAt;rw[r.2.block X h.lt (fun e=>hne (by injection e))];exact h
theorem BlkAt.grown{w w':World}{X:Nat}{T:TypeId}{cs:Array Value}(h:BlkAt w X T cs){row:Option Nat}(hg:w.grownBy w' row)(hne:row≠some X):BlkAt w' X T cs:=by
 unfold BlkAt;rw[hg.block X h.lt (Ne.symm hne)];exact h
theorem RdTo.setNew{w w':World}{rb:Nat}{l:List UInt8}(h:RdTo w w' rb l){X:Nat}(hX:w.heap.size<=X)(hne:X≠rb)(j:Nat)(u:Value):RdTo w (w'.setCell ⟨X,j,none⟩ u) rb l:=by
 have hb:(w'.setCell ⟨X,j,none⟩ u).heap[rb]?=w'.heap[rb]?:=yT _ _ _ _ (fun e=>hne e.symm);exact⟨⟨(yq (a:=(aT rb 0)) hb).trans h.1.1,(yae (a:=(aT rb 0)) hb).trans h.1.2⟩,h.2.os,h.2.tape,h.2.output,by simpa using h.2.size,
  fun b hlt hne'=>(yT _ _ _ _ (fun e=>by have:b=X:=e;omega)).trans (h.2.block b hlt hne')⟩
theorem qa3{w w':World}{rb base n:Nat}{l:List UInt8}{v:Value}{xs:List Value}{e:TypeId}{sz:Nat}(h:w.ownsRow base e sz v n xs)(r:RdTo w w' rb l)(hb:rb<base):w'.ownsRow base e sz v n xs:=by
 refine h.kept r.2 ?_;rcases ho:v.ownBlock with _|g
 ·exact .inl rfl
 ·right;intro e;injection e with e;have:=(h.lt g ho).1;omega
theorem qi{w:World}{base n:Nat}{v:Value}{xs:List Value}{e:TypeId}{sz:Nat}(h:w.ownsRow base e sz v n xs):∃ao k c,v=.slice ao k c:=by
 rcases h.2 with ⟨hv,_⟩|⟨g,cap,cur,hv,_⟩
 ·exact⟨_,_,_,hv⟩
 ·exact⟨_,_,_,hv⟩
theorem qqf(l l2:List UInt8)(m:Codec.Msg)(rb:Nat)(w:World)(hz:Codec.msg l=(m,l2))(h:RdAt w rb l)(hl:l.length<=140737488351232) :
 Calls prog 203 #[pT rb 0] w fun e w'=>∃tv,e=.returned (.agg #[J m.sender,J m.seq,tv,.string m.text])/\w'.ownsRow w.heap.size 3 1 tv m.time.length (ints m.time)/\RdTo w w' rb l2:=by
 obtain⟨a,l1,h1⟩:∃n l1,Codec.oct l=(n,l1):=⟨_,_,rfl⟩;obtain⟨b,l3,h3⟩:∃n l3,Codec.oct l1=(n,l3):=⟨_,_,rfl⟩;obtain⟨tm,l4,h4⟩:∃n l4,Codec.nums l3=(n,l4):=⟨_,_,rfl⟩;obtain⟨x,l5,h5⟩:∃n l5,Codec.text l4=(n,l5):=⟨_,_,rfl⟩;have b1:=(qh l).2.2;have b3:=(qh l1).2.2;have b4:=(qcl l3).2;rw[h1] at b1;rw[h3] at b3;rw[h4] at b4;simp only at b1 b3 b4;have e:Codec.msg l=(⟨a,b,tm,x⟩,l5):=by simp only[Codec.msg,h1,h3,h4,h5]
 rw[e] at hz;injection hz with hm hl5;subst hm;subst hl5;simp only;have H1:Hid (_=_):=h1;have H3:Hid (_=_):=h3;have H4:Hid (_=_):=h4;have H5:Hid (_=_):=h5;clear h1 h3 h4 h5 e;have hrlt:=h.lt;go_enter Tryz.func203,Tryz.ntmps203
 go_wp2_with fail
 refine(qak l a l1 rb _ H1.out ((h.alloc _).alloc _) hl).mono ?_;rintro e w1 ⟨rfl,r1⟩;have R0:RdTo w ((w.alloc (.cells #[J 0,J 0,sN,.string ⟨#[]⟩] 179)).alloc (.cells #[J 0,J 0,sN,.string ⟨#[]⟩] 179)) rb l:=((RdTo.refl h).alloc _).alloc _;have V0:=BlkAt.new (w.alloc (.cells #[J 0,J 0,sN,.string ⟨#[]⟩] 179)) (w.heap.size+1) (by simp) 179 #[J 0,J 0,sN,.string ⟨#[]⟩];have D0:=(BlkAt.new w w.heap.size rfl 179 #[J 0,J 0,sN,.string ⟨#[]⟩]).alloc (.cells #[J 0,J 0,sN,.string ⟨#[]⟩] 179);have nX:w.heap.size+1≠rb:=by omega
 have nD:w.heap.size≠rb:=by omega
 have nXD:w.heap.size+1≠w.heap.size:=by omega
 have R1:=R0.trans r1;have V1:=V0.rd r1 nX;have D1:=D0.rd r1 nD;clear R0 V0 D0 r1;have c:=V1.cell 0 _ rfl;have f:=V1.frozen 0;go_wp2_with fail
 replace R1:=R1.setNew (show w.heap.size<=w.heap.size+1 by omega) nX 0 (J a);replace V1:=V1.set 0 (J a);replace D1:=D1.other nXD.symm 0 (J a);refine(qak l1 b l3 rb _ H3.out R1.1 (by omega)).mono ?_;rintro e w2 ⟨rfl,r2⟩;have R2:=R1.trans r2;have V2:=V1.rd r2 nX;have D2:=D1.rd r2 nD;clear R1 V1 D1 r2 c f;have c:=V2.cell 1 _ rfl;have f:=V2.frozen 1;go_wp2_with fail
 replace R2:=R2.setNew (show w.heap.size<=w.heap.size+1 by omega) nX 1 (J b);replace V2:=V2.set 1 (J b);replace D2:=D2.other nXD.symm 1 (J b);refine(qg0 l3 l4 tm rb _ H4.out R2.1 (by omega)).mono ?_;rintro e w3 ⟨tv,rfl,O3,r3⟩;have R3:=R2.trans r3;have V3:=V2.rd r3 nX;have D3:=D2.rd r3 nD;have hX2:=V2.lt;clear R2 V2 D2 r3 c f;obtain⟨tao,tn,tc,rfl⟩:=qi O3;have c:=V3.cell 2 _ rfl;have f:=V3.frozen 2;go_wp2_with fail
 replace R3:=R3.setNew (show w.heap.size<=w.heap.size+1 by omega) nX 2 (.slice tao tn tc);replace V3:=V3.set 2 (.slice tao tn tc);replace D3:=D3.other nXD.symm 2 (.slice tao tn tc);replace O3:=ownsRow_setCell_below O3 (a:=⟨w.heap.size+1,2,none⟩) hX2 (.slice tao tn tc);refine(qot l4 _ x rb _ H5.out R3.1 (by omega)).mono ?_;rintro e w4 ⟨rfl,r4⟩;have R4:=R3.trans r4;have V4:=V3.rd r4 nX;have D4:=D3.rd r4 nD;have O4:=qa3 O3 r4 (by omega);clear R3 V3 D3 r4 c f O3;have c:=V4.cell 3 _ rfl;have f:=V4.frozen 3;have c0:=V4.cell 0 _ rfl;have c1:=V4.cell 1 _ rfl;have c2:=V4.cell 2 _ rfl;have g0:=D4.cell 0 _ rfl;have g1:=D4.cell 1 _ rfl;have g2:=D4.cell 2 _ rfl;have g3:=D4.cell 3 _ rfl;have q0:=D4.frozen 0;have q1:=D4.frozen 1;have q2:=D4.frozen 2;have q3:=D4.frozen 3;go_wp2
 have hD2:w.heap.size<(w2.setCell ⟨w.heap.size+1,1,none⟩ (J b)).heap.size:=by omega
 have R5:=((((R4.setNew (show w.heap.size<=w.heap.size+1 by omega) nX 3 (.string x)).setNew (yb _) nD 0 (J a)).setNew (yb _) nD 1 (J b)).setNew (yb _) nD 2 (.slice tao tn tc)).setNew (yb _) nD 3 (.string x);have O5:=ownsRow_setCell_below (ownsRow_setCell_below (ownsRow_setCell_below (ownsRow_setCell_below (ownsRow_setCell_below O4 (a:=⟨w.heap.size+1,3,none⟩) hX2 (.string x)) (a:=(aT w.heap.size 0)) hD2 (J a)) (a:=(aT w.heap.size 1)) hD2 (J b)) (a:=(aT w.heap.size 2)) hD2 (.slice tao tn tc)) (a:=(aT w.heap.size 3)) hD2 (.string x);exact bodyPost_ret (v:=.agg #[J a,J b,.slice tao tn tc,.string x]) (by simp[results,Tryz.results203,go_sem,g0,g1,g2,g3]) rfl ⟨_,rfl,qf O5 (by omega),R5⟩
end
end Go.Proofs.YtoklolfaemhfnaaGreatDoor

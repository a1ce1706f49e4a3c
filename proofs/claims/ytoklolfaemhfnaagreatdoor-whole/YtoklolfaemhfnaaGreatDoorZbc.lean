import Derived.BigRegion
import Derived.Deep.RegionWith
import Derived.ChangeAlike
import Derived.Test.YtoklolfaemhfnaaGreatDoorZba
import Derived.Test.YtoklolfaemhfnaaGreatDoorZbb
set_option maxRecDepth 100000
set_option maxHeartbeats 8000000
open Go.Proofs.Tryz (prog)
namespace Go.Proofs.YtoklolfaemhfnaaGreatDoor
section
open Go.RowKit
def Kn(kn:List (List Int)):Nat->Nat->Int:=fun q s=>(kn.getD q []).getD s 0
def mp(kn:List (List Int))(ms:List Codec.Msg)(evs:List Ev):Mo.MP:=⟨Kn kn,ms,evs⟩
theorem qc9:∀n,n<7->∀i,i<n->hasB (full n) i=true:=by decide
theorem qaa{n:Nat}(hn:n<=6){kn:List (List Int)}(hk:kn.length=n)(m:Codec.Msg):notStable (full n) kn m=true↔Mo.uns n (Kn kn) m:=by
 unfold notStable;rw[Bool.not_eq_true'];constructor
 ·intro h;apply Classical.byContradiction;intro hno;have:stableB (full n) kn m.sender.toNat m.seq=true:=qb0.2 fun i hi=>by
   rw[qc9 n (by omega) i (by omega),Bool.true_and,decide_eq_false_iff_not];intro hlt;exact hno ⟨i,by omega,hlt⟩
  rw[this] at h;cases h
 ·rintro⟨q,hq,hlt⟩;rw[<-yaV];intro h;have:=qb0.1 h q (by omega);rw[qc9 n (by omega) q hq,Bool.true_and,decide_eq_false_iff_not] at this;exact this hlt
def maxRow(a row:List Int):List Int:=(List.range a.length).map fun s=>max (a.getD s 0) (row.getD s 0)
theorem qg7(a row:List Int):(maxRow a row).length=a.length:=by simp[maxRow]
theorem qm2{a row:List Int}{s:Nat}(hs:s<a.length):(maxRow a row).getD s 0=max (a.getD s 0) (row.getD s 0):=by simp[maxRow,hs]
theorem qif{kn:List (List Int)}{q:Nat}(hq:q<kn.length)(r:List Int)(q' s:Nat):Kn (kn.set q r) q' s=if q'=q then r.getD s 0 else Kn kn q' s:=by
 unfold Kn;by_cases e:q'=q
 ·subst e;simp[hq]
 ·have:(kn.set q r).getD q' []=kn.getD q' []:=by rw[yj,yao (fun h=>e h.symm),<-yj]
  rw[if_neg e,this]
theorem qcb{l:List Codec.Msg}(f:Codec.Msg->Bool)(h:Mo.Apart l):Mo.Apart (l.filter f):=List.Pairwise.filter f h
theorem qow{n:Nat}(hn:n<=6){kn:List (List Int)}(hk:kn.length=n)(hr:∀r∈kn,r.length=n){q:Nat}(hq:q<n)(row:List Int)(ms:List Codec.Msg)(evs:List Ev):Mo.Learn n q row (mp kn ms evs) (mp (kn.set q (maxRow (kn.getD q []) row)) (ms.filter (notStable (full n) (kn.set q (maxRow (kn.getD q []) row)))) evs):=by
 refine⟨fun q' s hq' hs=>?_,fun m=>?_,rfl,qcb _⟩
 ·show Kn _ q' s=_;rw[qif (by omega)];have hl:(kn.getD q []).length=n:=by
   rw[yj,yh (by omega:q<kn.length)];exact hr _ (yaU _)
  split
  ·rename_i e;subst e;exact qm2 (by omega)
  ·rfl
 ·show m∈List.filter _ _↔_;rw[yM,qaa hn (by simpa using hk)];rfl
theorem qox{n:Nat}(hn:n<=6){kn:List (List Int)}(hk:kn.length=n){j s:Nat}(hj:j<n){m:Codec.Msg}(hsm:Mo.sn m=s){ms:List Codec.Msg}{evs:List Ev}(hr:(kn.getD j []).length=n)(hab:Mo.Able n j (mp kn ms evs) m) :
 Mo.Deliv n j m (mp kn ms evs) (mp (kn.set j ((kn.getD j []).set s m.seq)) (ms.filter (notStable (full n) (kn.set j ((kn.getD j []).set s m.seq)))) (evs++[⟨2,0,m.sender,m.seq,0,m.text⟩])):=by
 refine⟨hab,fun q' s' hq' hs'=>?_,fun x=>?_,rfl,qcb _⟩
 ·show Kn _ q' s'=if _ then _ else Kn kn q' s'
  rw[qif (by omega)];by_cases e:q'=j
  ·subst e;rw[if_pos rfl];by_cases e2:s'=s
   ·subst e2;rw[if_pos ⟨rfl,hsm.symm⟩];rw[yj,yaf (by omega)];rfl
   ·rw[if_neg (fun h=>e2 (h.2.trans hsm)),yj,yao (fun h=>e2 h.symm),<-yj];rfl
  ·rw[if_neg e,if_neg (fun h=>e h.1)]
 ·show x∈List.filter _ _↔_;rw[yM,qaa hn (by simpa using hk)];rfl
def qrm(k:Nat)(a row:List Int):List Int:=(List.range a.length).map fun s=>if s<k then max (a.getD s 0) (row.getD s 0) else a.getD s 0
theorem qg8(k:Nat)(a row:List Int):(qrm k a row).length=a.length:=by simp[qrm]
theorem qjq(a row:List Int):qrm 0 a row=a:=by
 refine ybp (by simp[qrm]) fun i h1 h2=>?_;simp[qrm,h2]
theorem qjr(a row:List Int):qrm a.length a row=maxRow a row:=by
 refine ybp (by simp[qrm,maxRow]) fun i h1 h2=>?_;have:i<a.length:=by simpa[qrm] using h1
 simp[qrm,maxRow,this]
theorem qlk{k:Nat}{a:List Int}(row:List Int):(qrm k a row).set k (max (a.getD k 0) (row.getD k 0))=qrm (k+1) a row:=by
 refine ybp (by simp[qrm]) fun i h1 h2=>?_;rw[List.getElem_set];have hi:i<a.length:=by simpa[qrm] using h2
 simp only[qrm,ybe,List.getElem_range];by_cases e:k=i
 ·subst e;simp
 ·rw[if_neg e];by_cases h3:i<k
  ·rw[if_pos h3,if_pos (by omega)]
  ·rw[if_neg h3,if_neg (by omega)]
theorem qm3{k:Nat}{a row:List Int}:(qrm k a row).getD k 0=a.getD k 0:=by
 by_cases hk:k<a.length
 ·simp[qrm,hk]
 ·simp[qrm,hk]
theorem qkr(l:List Int)(k:Nat)(x:Int):(ints l).toArray.setIfInBounds k (J x)=(ints (l.set k x)).toArray:=by simp[ints,List.map_set]
theorem qcc{l:List Int}{k:Nat}(hk:k<l.length):(ints l).toArray[k]?=some (J (l.getD k 0)):=by simp[ints,hk]
theorem Only.drew{X:Nat}{w w':World}(h:Only X w w'):Only X w w'.drew:=⟨h.os,h.tape,h.output,h.size,h.block⟩
theorem qq7(x y:Int):max x y=if x<y then y else x:=by split <;> omega
variable {w w':World}{F:Nat->Prop}{b:Nat}{h:Hd}{kn:List (List Int)}{l:Msgs}{evs:List Ev}{snt:List Par}{kb mb:Nat}{rbs:List Nat}{es:Array MapEntry}{clk:Nat}{ev sv:Value}
theorem PA.row_at(p:PA w F b h kn l evs snt kb mb rbs es clk ev sv){q:Nat}(hq:q<h.n):∃r,rbs[q]?=some r/\BlkAt w r 3 (ints (kn.getD q [])).toArray/\(kn.getD q []).length=h.n/\w.cell? (aT kb q)=some (sT r h.n h.n):=by
 obtain⟨r,hr,hc, -⟩:=p.known.cells hq;have hk:q<kn.length:=by rw[p.known.klen];exact hq
 have:=p.known.rows q r (kn.getD q []) hr (by simp[hk]);exact⟨r,hr,this.2,this.1,hc⟩
theorem qoy(p:PA w F b h kn l evs snt kb mb rbs es clk ev sv)(hn:h.n<=6)(hl:Fits h.n l)(q:Nat)(hq:q<h.n)(row:List Int)(g off cap:Nat)(hg:¬F g)(hrow:∀j,j<h.n->w.cell? ⟨g,off+j,none⟩=some (J (row.getD j 0))) :
 Calls prog 253 #[pT b 0,J q,.slice (some ⟨g,off,none⟩) h.n cap] w fun e w'=>e=.returned (.tuple #[])/\Chg F w w'/\∃es',PA w' F b h (kn.set q (maxRow (kn.getD q []) row)) (l.filter fun x=>notStable h.members (kn.set q (maxRow (kn.getD q []) row)) x.1) evs snt kb mb rbs es' clk ev sv:=by
 obtain⟨r,hr,hbr,hrl,hck⟩:=p.row_at hq;have hrm:r∈rbs:=yy hr;have hgr:g≠r:=fun e=>hg (e▸p.fr r hrm);have nkr:kb≠r:=qbf p.known.top hbr (by decide);have nbr:b≠r:=qbf p.blk hbr (by decide);have c14:=p.blk.cell 14 _ rfl;have HF:Hid (∀k wr,k<=h.n->Only r w wr->BlkAt wr r 3 (ints (qrm k (kn.getD q []) row)).toArray->wr.cell? (aT b 14)=some (sT kb h.n h.n)/\wr.cell? (aT kb q)=some (sT r h.n h.n)/\(k<h.n->wr.cell? ⟨g,off+k,none⟩=some (J (row.getD k 0))/\wr.cell? (aT r k)=some (J ((kn.getD q []).getD k 0)))/\wr.frozen? (aT r k)=false):=fun k wr hk hO hB=>
  ⟨(yq (a:=(aT b 14)) (hO.block b nbr)).trans c14,(yq (a:=(aT kb q)) (hO.block kb nkr)).trans hck,fun hkn=>⟨(yq (a:=⟨g,off+k,none⟩) (hO.block g hgr)).trans (hrow k hkn),hB.cell k _ (by rw[qcc (by rw[qg8];omega),qm3])⟩,hB.frozen k⟩
 have HS:Hid (∀k wr,k<h.n->Only r w wr->BlkAt wr r 3 (ints (qrm k (kn.getD q []) row)).toArray->BlkAt (wr.setCell ⟨r,k,none⟩ (J (max ((kn.getD q []).getD k 0) (row.getD k 0)))) r 3 (ints (qrm (k+1) (kn.getD q []) row)).toArray):=fun k wr hk hO hB=>by
  have:=hB.set k (J (max ((kn.getD q []).getD k 0) (row.getD k 0)));rw[qkr,qlk] at this;exact this
 have HE:Hid (∀wr,Only r w wr->BlkAt wr r 3 (ints (qrm h.n (kn.getD q []) row)).toArray->Calls prog 140 #[pT b 0] wr fun e w'=>e=.returned (.tuple #[])/\Chg F w w'/\∃es',PA w' F b h (kn.set q (maxRow (kn.getD q []) row)) (l.filter fun x=>notStable h.members (kn.set q (maxRow (kn.getD q []) row)) x.1) evs snt kb mb rbs es' clk ev sv):=fun wr hO hB=>by
  rw[show h.n=(kn.getD q []).length from hrl.symm,qjr] at hB;have p':=p.rerow (w':=wr) hr (row':=maxRow (kn.getD q []) row) (by rw[qg7];exact hrl) (fun x _ hx=>hO.block x hx) hB;refine(qc8 p' hn hl).mono ?_;rintro e w2 ⟨rfl,hG,es',p2⟩;exact⟨rfl,(Chg.of_only hO (p.fr r hrm)).trans ((Chg.of_grown hG (fun x hx=>by injection hx with hx;subst hx;exact .inl p.fm))),es',p2⟩
 have hB0:Hid (BlkAt w r 3 (ints (qrm 0 (kn.getD q []) row)).toArray):=by rw[Hid,qjq];exact hbr
 have hq0:(0:Int)<=(q:Int):=by omega
 have hq1:(q:Int)<(h.n:Int):=by omega
 clear hbr hrow c14 hck p hl;go_enter Tryz.func253,Tryz.ntmps253
 go_wp2_with fail
 go_loopw [10] (fun i wr=>∃k:Nat,k<=h.n/\i=J k/\Only r w wr/\BlkAt wr r 3 (ints (qrm k (kn.getD q []) row)).toArray) (fun i _=>h.n - (intOf i).toNat)
 case atStart=>exact⟨0,by omega,rfl,Only.refl _ _,hB0.out⟩
 case round=>
  obtain⟨k,hk,rfl,hO,hB⟩:=hrel;obtain⟨c14,ck,crw,cf⟩:=HF.out k wr hk hO hB;by_cases hlt:k<h.n
  ·obtain⟨cg,cr⟩:=crw hlt;have hlt1:(k:Int)<(h.n:Int):=by omega
   have hk0:(0:Int)<=(k:Int):=by omega
   have hS:=HS.out k wr hlt hO hB;have hO':Hid (Only r w wr):=hO;have hS':Hid (BlkAt (wr.setCell ⟨r,k,none⟩ (J (max ((kn.getD q []).getD k 0) (row.getD k 0)))) r 3 (ints (qrm (k+1) (kn.getD q []) row)).toArray):=hS;clear hS hO hB crw;generalize (kn.getD q []).getD k 0=x at cr hS';generalize row.getD k 0=y at cg hS';rw[qq7] at hS';go_wp2_with fail
   refine Ends.begin (fun w'=>w'.cell? (aT b 14)=some (sT kb h.n h.n)/\w'.cell? (aT kb q)=some (sT r h.n h.n)/\w'.cell? ⟨g,off+k,none⟩=some (J y)/\w'.cell? (aT r k)=some (J x)) 21 rfl ⟨c14,ck,cg,cr⟩ (fun hHeld=>?_);refine tk 0 ?_;refine tk 1 ?_;refine tk 2 ?_;refine tk 3 ?_;refine tk 4 ?_;refine tk 5 ?_;refine tk 6 ?_;refine tk 7 ?_;refine tk 8 ?_;refine tk 9 ?_;refine tk 10 ?_;refine tk 11 ?_;refine tk 12 ?_;refine tk 13 ?_;refine tk 14 ?_;refine tk 15 ?_;refine tk 16 ?_;refine tk 17 ?_;refine tk 18 ?_;refine tk 19 ?_;refine tk 20 ?_;refine te 21 fun K hK=>?_;go_simp;refine hK.out _ _ (fun h=>absurd rfl h) (fun _=>?_);clear hK K;try simp only[pU]
   refine Ends.done (by kernel_rfl) ?_ _;go_wp2_with fail
   go_roundw
   case rel=>exact⟨k+1,by omega,by go_num,(hO'.out.set _ _).drew,hS'.out⟩
   case measure=>simp[intOf];omega
  ·have hx:k=h.n:=by omega
   subst hx;have hge:¬(h.n:Int)<(h.n:Int):=by omega
   have hC:=HE.out wr hO hB;go_wp2_with fail
   refine hC.mono ?_;rintro e w2 ⟨rfl,hc,hes⟩;go_wp2_with fail
   go_end0
   exact⟨rfl,hc,hes⟩
end
section
open Go.RowKit
open Go.ChangeMaps (setBlock)
variable {w w':World}{F:Nat->Prop}{b:Nat}{h:Hd}{kn:List (List Int)}{l:Msgs}{evs:List Ev}{snt:List Par}{kb mb:Nat}{rbs:List Nat}{es:Array MapEntry}{clk:Nat}{ev sv:Value}
theorem qoz(p:PA w F b h kn l evs snt kb mb rbs es clk ev sv)(m:Codec.Msg)(ao:Option Addr)(tn tc:Nat)(x:Codec.Msg × Value)(hx:x∈l)(hxm:isK m.sender m.seq x.1=true) :
 Calls prog 254 #[pT b 0,msgV m (.slice ao tn tc)] w fun e w'=>e=.returned (.tuple #[])/\Below w.heap.size w w':=by
 obtain⟨ms,mq,mt,mx⟩:=m;obtain⟨xm,xv⟩:=x;obtain⟨vo,vn,vc,hv⟩:=(p.times _ hx).1.form3;simp only at hv hxm;subst hv;have hc15:=p.blk.cell 15 _ rfl;have HL:Hid (∀w',Below w.heap.size w w'->w'.cell? (aT b 15)=some (.map (some mb))/\(Instr.lookup 156 (.map (some mb)) (.agg #[J ms,J mq]) true).run prog w'=.ok (.tuple #[.agg #[J xm.sender,J xm.seq,.slice vo vn vc,.string xm.text],.bool true]) w'):=fun w' hw=>by
  refine⟨(yq (a:=(aT b 15)) (hw.block b p.blk.lt)).trans hc15,?_⟩;have:=qg4 w' ms mq ((hw.block mb p.ltm).trans p.map) p.mo p.apart hx hxm true;exact this
 have hBx:Hid (Below w.heap.size w (w.alloc (.cells #[J ms,J mq,.slice ao tn tc,.string mx] 179))):=(yi _ _).alloc (yb _) _;clear p hx hc15;unfold msgV;go_enter Tryz.func254,Tryz.ntmps254
 go_wp2_with fail
 refine(qed ⟨ms,mq,mt,mx⟩ (.slice ao tn tc) _).mono ?_;rintro e w2 ⟨rfl,hb2⟩;have hB2:Hid (Below w.heap.size w w2):=hBx.out.trans (hb2.mono (by simp));unfold keyV;simp only;go_wp2_with fail
 have HBk:Hid (∀w',Below (w2.alloc (.cells #[J ms,J mq] 186)).heap.size (w2.alloc (.cells #[J ms,J mq] 186)) w'->Below w.heap.size w w'/\w'.cell? (aT w2.heap.size 0)=some (J ms)/\w'.cell? (aT w2.heap.size 1)=some (J mq)):=fun w' hw=>by
  have hn:=(BlkAt.new w2 w2.heap.size rfl 186 #[J ms,J mq]).below hw (by simp);exact⟨(hB2.out.alloc hB2.out.size _).trans (hw.mono (by have:=hB2.out.size;simp;omega)),hn.cell 0 _ rfl,hn.cell 1 _ rfl⟩
 have hB3:Hid (Below w.heap.size w (w2.alloc (.cells #[J ms,J mq] 186))):=hB2.out.alloc hB2.out.size _;generalize hk2:w2.heap.size=k2 at HBk ⊢;generalize hw3:w2.alloc (.cells #[J ms,J mq] 186)=w3 at HBk hB3 ⊢;have HS:Hid (∀w',Below w3.heap.size w3 w'->w'.cell? (aT b 15)=some (.map (some mb))/\(Instr.lookup 156 (.map (some mb)) (.agg #[J ms,J mq]) true).run prog w'=.ok (.tuple #[.agg #[J xm.sender,J xm.seq,.slice vo vn vc,.string xm.text],.bool true]) w'/\w'.cell? (aT k2 0)=some (J ms)/\w'.cell? (aT k2 1)=some (J mq)):=fun w' hw=>⟨(HL.out w' (HBk.out w' hw).1).1,(HL.out w' (HBk.out w' hw).1).2,(HBk.out w' hw).2⟩;clear hw3 hk2 hb2 hB2 hBx HL;refine wp_region_held_drew (S:=fun w'=>w'.cell? (aT b 15)=some (.map (some mb))/\(Instr.lookup 156 (.map (some mb)) (.agg #[J ms,J mq]) true).run prog w'=.ok (.tuple #[.agg #[J xm.sender,J xm.seq,.slice vo vn vc,.string xm.text],.bool true]) w'/\w'.cell? (aT k2 0)=some (J ms)/\w'.cell? (aT k2 1)=some (J mq)) rfl (HS.out _ (yi _ _).drew) (fun hHeld=>?_);refine wk 0 ?_;refine wk 1 ?_;refine wk 2 ?_;refine wk 3 ?_;refine wk 4 ?_;refine wk 5 ?_;refine wk 6 ?_;refine wk 7 ?_;refine wk 8 ?_;refine we 9 fun K hK=>?_;go_simp;refine hK.out _ _ (HS.out _ ((yi _ _).drew.alloc (yb _) _)) (fun hHeld=>?_);clear hK K;try simp only[pU]
 refine we 10 fun K hK=>?_;go_simp;refine hK.out _ _ (HS.out _ ((yi _ _).alloc (yb _) _).drew) (fun hHeld=>?_);clear hK K;try simp only[pU]
 refine wk 11 ?_;refine wpAnyH_done (by kernel_rfl) ?_ _;have hB4:Hid (Below w.heap.size w (w3.alloc (.cells #[J xm.sender,J xm.seq,.slice vo vn vc,.string xm.text] 179)).drew):=(hB3.out.alloc hB3.out.size _).drew;generalize (w3.alloc (.cells #[J xm.sender,J xm.seq,.slice vo vn vc,.string xm.text] 179)).drew=w4 at hB4 ⊢;clear HS HBk hB3 hHeld;go_wp2_with fail
 refine wp_region_held_drew (S:=fun w'=>Below w.heap.size w w') rfl hB4.out.drew (fun hHeld=>?_);refine wk 0 ?_;refine wk 1 ?_;refine wu 2 ?_;refine wu 3 ?_;refine wu 4 ?_;refine wk 5 ?_;refine wk 6 ?_;refine wu 7 ?_;refine wu 8 ?_;refine wu 9 ?_;refine wu 10 ?_;refine wu 11 ?_;refine wu 12 ?_;refine wu 13 ?_;refine wu 14 ?_;refine wk 15 ?_;refine wpAnyH_done (by kernel_rfl) ?_ _;go_wp2_with fail
 (try simp only[Exit.inBlock,Exit.then])
 refine bodyPost_ret (results_none rfl _ _ _) rfl ?_;exact⟨rfl,hHeld⟩
theorem qjs(p:PA w F b h kn l evs snt kb mb rbs es clk ev sv)(hn:h.n<=6)(m:Codec.Msg)(ao:Option Addr)(tn tc:Nat)(s:Nat)(hs:s<h.n)(hms:m.sender=s)(hno:∀x∈l,isK m.sender m.seq x.1=false)(hst:stableB h.members kn s m.seq=true) :
 Calls prog 254 #[pT b 0,msgV m (.slice ao tn tc)] w fun e w'=>e=.returned (.tuple #[])/\Below w.heap.size w w':=by
 obtain⟨ms,mq,mt,mx⟩:=m;simp only at hms hno hst;subst hms;have hc15:=p.blk.cell 15 _ rfl;have HL:Hid (∀w',Below w.heap.size w w'->w'.cell? (aT b 15)=some (.map (some mb))/\(Instr.lookup 156 (.map (some mb)) (.agg #[J s,J mq]) true).run prog w'=.ok (.tuple #[.agg #[J 0,J 0,sN,.string ⟨#[]⟩],.bool false]) w'):=fun w' hw=>by
  refine⟨(yq (a:=(aT b 15)) (hw.block b p.blk.lt)).trans hc15,?_⟩;exact qjo w' s mq ((hw.block mb p.ltm).trans p.map) p.mo hno true
 have hBx:Hid (Below w.heap.size w (w.alloc (.cells #[J s,J mq,.slice ao tn tc,.string mx] 179))):=(yi _ _).alloc (yb _) _;have HST:Hid (∀w',Below w.heap.size w w'->Calls prog 186 #[pT b 0,.agg #[J s,J mq]] w' fun e w''=>e=.returned (.bool true)/\Below w'.heap.size w' w''):=fun w' hw=>by
  have p':=p.below hw;have:=qe5 b kb h (.map (some mb)) ev sv rbs kn w' p'.blk p'.known hn s hs mq;rw[hst] at this;exact this
 clear p hno hc15;unfold msgV;go_enter Tryz.func254,Tryz.ntmps254
 go_wp2_with fail
 refine(qed ⟨s,mq,mt,mx⟩ (.slice ao tn tc) _).mono ?_;rintro e w2 ⟨rfl,hb2⟩;have hB2:Hid (Below w.heap.size w w2):=hBx.out.trans (hb2.mono (by simp));unfold keyV;simp only;go_wp2_with fail
 have HBk:Hid (∀w',Below (w2.alloc (.cells #[J s,J mq] 186)).heap.size (w2.alloc (.cells #[J s,J mq] 186)) w'->Below w.heap.size w w'/\w'.cell? (aT w2.heap.size 0)=some (J s)/\w'.cell? (aT w2.heap.size 1)=some (J mq)):=fun w' hw=>by
  have hn:=(BlkAt.new w2 w2.heap.size rfl 186 #[J s,J mq]).below hw (by simp);exact⟨(hB2.out.alloc hB2.out.size _).trans (hw.mono (by have:=hB2.out.size;simp;omega)),hn.cell 0 _ rfl,hn.cell 1 _ rfl⟩
 have hB3:Hid (Below w.heap.size w (w2.alloc (.cells #[J s,J mq] 186))):=hB2.out.alloc hB2.out.size _;generalize hk2:w2.heap.size=k2 at HBk ⊢;generalize hw3:w2.alloc (.cells #[J s,J mq] 186)=w3 at HBk hB3 ⊢;have HS:Hid (∀w',Below w3.heap.size w3 w'->w'.cell? (aT b 15)=some (.map (some mb))/\(Instr.lookup 156 (.map (some mb)) (.agg #[J s,J mq]) true).run prog w'=.ok (.tuple #[.agg #[J 0,J 0,sN,.string ⟨#[]⟩],.bool false]) w'/\w'.cell? (aT k2 0)=some (J s)/\w'.cell? (aT k2 1)=some (J mq)):=fun w' hw=>⟨(HL.out w' (HBk.out w' hw).1).1,(HL.out w' (HBk.out w' hw).1).2,(HBk.out w' hw).2⟩;clear hw3 hk2 hb2 hB2 hBx HL;refine wp_region_held_drew (S:=fun w'=>w'.cell? (aT b 15)=some (.map (some mb))/\(Instr.lookup 156 (.map (some mb)) (.agg #[J s,J mq]) true).run prog w'=.ok (.tuple #[.agg #[J 0,J 0,sN,.string ⟨#[]⟩],.bool false]) w'/\w'.cell? (aT k2 0)=some (J s)/\w'.cell? (aT k2 1)=some (J mq)) rfl (HS.out _ (yi _ _).drew) (fun hHeld=>?_);refine wk 0 ?_;refine wk 1 ?_;refine wk 2 ?_;refine wk 3 ?_;refine wk 4 ?_;refine wk 5 ?_;refine wk 6 ?_;refine wk 7 ?_;refine wk 8 ?_;refine we 9 fun K hK=>?_;go_simp;refine hK.out _ _ (HS.out _ ((yi _ _).drew.alloc (yb _) _)) (fun hHeld=>?_);clear hK K;try simp only[pU]
 refine we 10 fun K hK=>?_;go_simp;refine hK.out _ _ (HS.out _ ((yi _ _).alloc (yb _) _).drew) (fun hHeld=>?_);clear hK K;try simp only[pU]
 refine wk 11 ?_;refine wpAnyH_done (by kernel_rfl) ?_ _;have hB4:Hid (Below w.heap.size w (w3.alloc (.cells #[J 0,J 0,sN,.string ⟨#[]⟩] 179)).drew):=(hB3.out.alloc hB3.out.size _).drew;have HB4:Hid (Below w3.heap.size w3 (w3.alloc (.cells #[J 0,J 0,sN,.string ⟨#[]⟩] 179)).drew):=((yi _ _).alloc (yb _) _).drew;generalize (w3.alloc (.cells #[J 0,J 0,sN,.string ⟨#[]⟩] 179)).drew=w4 at hB4 HB4 ⊢;have HS5:Hid (∀w',Below w4.heap.size w4 w'->Below w.heap.size w w'/\w'.cell? (aT k2 0)=some (J s)/\w'.cell? (aT k2 1)=some (J mq)):=fun w' hw=>⟨hB4.out.trans (hw.mono hB4.out.size),(HBk.out w' (HB4.out.trans (hw.mono HB4.out.size))).2⟩;clear HS HBk hB3 hHeld HB4;go_wp2_with fail
 refine wp_region_held_drew (S:=fun w'=>Below w.heap.size w w'/\w'.cell? (aT k2 0)=some (J s)/\w'.cell? (aT k2 1)=some (J mq)) rfl (HS5.out _ (yi _ _).drew) (fun hHeld=>?_);refine wk 0 ?_;refine wk 1 ?_;refine wk 2 ?_;refine wk 3 ?_;refine we 4 fun K hK=>?_;go_simp;refine(HST.out _ hHeld.1).mono ?_;rintro e w5 ⟨rfl,hb5⟩;go_wp2_with fail
 refine hK.out _ _ (HS5.out _ (((yi _ _).drew).trans (hb5.mono (by simp)))) (fun hHeld=>?_);clear hK K;try simp only[pU]
 refine wk 5 ?_;refine wk 6 ?_;refine wu 7 ?_;refine wu 8 ?_;refine wu 9 ?_;refine wu 10 ?_;refine wu 11 ?_;refine wu 12 ?_;refine wu 13 ?_;refine wu 14 ?_;refine wk 15 ?_;refine wpAnyH_done (by kernel_rfl) ?_ _;go_wp2_with fail
 (try simp only[Exit.inBlock,Exit.then])
 refine bodyPost_ret (results_none rfl _ _ _) rfl ?_;exact⟨rfl,hHeld.1⟩
theorem qe6{w:World}{mb:Nat}{o':Obj}(h:w.heap[mb]?=some o')(o:Obj):(setBlock w mb o).heap[mb]?=some o:=by
 show (w.heap.setIfInBounds mb _)[mb]?=_;rw[yR (yk.1 h).1]
theorem qo0(p:PA w F b h kn l evs snt kb mb rbs es clk ev sv)(hn:h.n<=6)(m:Codec.Msg)(ao:Option Addr)(tn tc:Nat)(s:Nat)(hs:s<h.n)(hms:m.sender=s)(hno:∀x∈l,isK m.sender m.seq x.1=false)(hst:stableB h.members kn s m.seq=false)(hhas:hasB h.members s=true)(ht:Row w F 3 1 (.slice ao tn tc) m.time.length (ints m.time))(hta:∀g,(Value.slice ao tn tc).ownBlock=some g->g ∉ rbs) :
 Calls prog 254 #[pT b 0,msgV m (.slice ao tn tc)] w fun e w'=>e=.returned (.tuple #[])/\w.grownBy w' (some mb)/\∃es',PA w' F b h kn (l++[(m,.slice ao tn tc)]) evs snt kb mb rbs es' (clk+1) ev sv:=by
 obtain⟨ms,mq,mt,mx⟩:=m;simp only at hms hno hst ht;subst hms;have hc15:=p.blk.cell 15 _ rfl;have HL:Hid (∀w',Below w.heap.size w w'->w'.cell? (aT b 15)=some (.map (some mb))/\(Instr.lookup 156 (.map (some mb)) (.agg #[J s,J mq]) true).run prog w'=.ok (.tuple #[.agg #[J 0,J 0,sN,.string ⟨#[]⟩],.bool false]) w'):=fun w' hw=>by
  refine⟨(yq (a:=(aT b 15)) (hw.block b p.blk.lt)).trans hc15,?_⟩;exact qjo w' s mq ((hw.block mb p.ltm).trans p.map) p.mo hno true
 have hBx:Hid (Below w.heap.size w (w.alloc (.cells #[J s,J mq,.slice ao tn tc,.string mx] 179))):=(yi _ _).alloc (yb _) _;have HST:Hid (∀w',Below w.heap.size w w'->Calls prog 186 #[pT b 0,.agg #[J s,J mq]] w' fun e w''=>e=.returned (.bool false)/\Below w'.heap.size w' w''):=fun w' hw=>by
  have p':=p.below hw;have:=qe5 b kb h (.map (some mb)) ev sv rbs kn w' p'.blk p'.known hn s hs mq;rw[hst] at this;exact this
 have hc7:=p.blk.cell 7 _ rfl;simp only[Hd.cells,yf,yd,ye] at hc7;have HC:Hid (∀w',Below w.heap.size w w'->w'.cell? (aT b 7)=some (J h.members)/\w'.cell? (aT b 15)=some (.map (some mb))/\w'.cell? (aT w.heap.size 0)=w'.cell? (aT w.heap.size 0)):=fun w' hw=>⟨(yq (a:=(aT b 7)) (hw.block b p.blk.lt)).trans hc7,(HL.out w' hw).1,rfl⟩;have HP:Hid (∀w' v,Below w.heap.size w w'->v=.agg #[J s,J mq,.slice ao tn tc,.string mx]->(Instr.mapUpdate 156 (.map (some mb)) (.agg #[J s,J mq]) v).run prog w'=.ok () (setBlock w' mb (.map (es.push { key:=.agg #[J s,J mq],val:=.agg #[J s,J mq,.slice ao tn tc,.string mx],born:=clk }) (clk+1)))/\w.grownBy (setBlock w' mb (.map (es.push { key:=.agg #[J s,J mq],val:=.agg #[J s,J mq,.slice ao tn tc,.string mx],born:=clk }) (clk+1))) (some mb)/\PA (setBlock w' mb (.map (es.push { key:=.agg #[J s,J mq],val:=.agg #[J s,J mq,.slice ao tn tc,.string mx],born:=clk }) (clk+1))) F b h kn (l++[(⟨s,mq,mt,mx⟩,.slice ao tn tc)]) evs snt kb mb rbs (es.push { key:=.agg #[J s,J mq],val:=.agg #[J s,J mq,.slice ao tn tc,.string mx],born:=clk }) (clk+1) ev sv):=fun w' v hw hv=>by
  subst hv;have hm':=(hw.block mb p.ltm).trans p.map;have hg:w.grownBy (setBlock w' mb (.map (es.push { key:=.agg #[J s,J mq],val:=.agg #[J s,J mq,.slice ao tn tc,.string mx],born:=clk }) (clk+1))) (some mb):=by
   have g2:=qbi hm' (.map (es.push { key:=.agg #[J s,J mq],val:=.agg #[J s,J mq,.slice ao tn tc,.string mx],born:=clk }) (clk+1));exact⟨g2.os.trans hw.os,g2.tape.trans hw.tape,g2.output.trans hw.output,yr hw.size g2.size,fun k hk hne=>(g2.block k (yg hk hw.size) hne).trans (hw.block k hk)⟩
  refine⟨qm1 w' s mq _ hm' p.mo hno,hg,p.remap hg ?_ (p.mo.put ⟨s,mq,mt,mx⟩ (.slice ao tn tc)) ?_ ?_⟩
  ·exact qe6 hm' _
  ·refine List.pairwise_append.2 ⟨p.apart,by simp,fun x hx y hy=>?_⟩;rw[yu] at hy;subst hy;have:=hno x hx;rw[<-yaV] at this ⊢;intro e;rw[qag] at e this;exact this ⟨e.1.symm,e.2.symm⟩
  ·intro x hx hxl;rcases yz.1 hx with hx|hx
   ·exact absurd hx hxl
   ·rw[yu] at hx;subst hx;refine⟨ht.kept fun g hgg=>?_,hta⟩;have hlt:=ht.lt hgg;obtain⟨cur,hcur⟩:=ht.tag hgg;exact hg.block g hlt fun e=>qy hcur p.map (by injection e)
 have hbx:=BlkAt.new w w.heap.size rfl 179 #[J s,J mq,.slice ao tn tc,.string mx];have HX:Hid (∀w',Below (w.heap.size+1) (w.alloc (.cells #[J s,J mq,.slice ao tn tc,.string mx] 179)) w'->w'.cell? (aT w.heap.size 0)=some (J s)/\w'.cell? (aT w.heap.size 1)=some (J mq)/\w'.cell? (aT w.heap.size 2)=some (.slice ao tn tc)/\w'.cell? (aT w.heap.size 3)=some (.string mx)):=fun w' hw=>by
  have:=hbx.below hw (by omega);exact⟨this.cell 0 _ rfl,this.cell 1 _ rfl,this.cell 2 _ rfl,this.cell 3 _ rfl⟩
 have HHAS:Hid (∀w',Calls prog 173 #[J h.members,J s] w' fun e w''=>e=.returned (.bool true)/\w''=w'):=fun w'=>by
  have:=qe3 h.members s w' (by omega);rw[hhas] at this;exact this
 clear p hno hc15 hc7 ht hta hbx;unfold msgV;go_enter Tryz.func254,Tryz.ntmps254
 go_wp2_with fail
 refine(qed ⟨s,mq,mt,mx⟩ (.slice ao tn tc) _).mono ?_;rintro e w2 ⟨rfl,hb2⟩;have hB2:Hid (Below w.heap.size w w2):=hBx.out.trans (hb2.mono (by simp));have hX2:Hid (Below (w.heap.size+1) (w.alloc (.cells #[J s,J mq,.slice ao tn tc,.string mx] 179)) w2):=hb2.mono (by simp);unfold keyV;simp only;go_wp2_with fail
 have HBk:Hid (∀w',Below (w2.alloc (.cells #[J s,J mq] 186)).heap.size (w2.alloc (.cells #[J s,J mq] 186)) w'->Below w.heap.size w w'/\w'.cell? (aT w2.heap.size 0)=some (J s)/\w'.cell? (aT w2.heap.size 1)=some (J mq)):=fun w' hw=>by
  have hn:=(BlkAt.new w2 w2.heap.size rfl 186 #[J s,J mq]).below hw (by simp);exact⟨(hB2.out.alloc hB2.out.size _).trans (hw.mono (by have:=hB2.out.size;simp;omega)),hn.cell 0 _ rfl,hn.cell 1 _ rfl⟩
 have hB3:Hid (Below w.heap.size w (w2.alloc (.cells #[J s,J mq] 186))):=hB2.out.alloc hB2.out.size _;have hX3:Hid (Below (w.heap.size+1) (w.alloc (.cells #[J s,J mq,.slice ao tn tc,.string mx] 179)) (w2.alloc (.cells #[J s,J mq] 186))):=hX2.out.alloc (by have:=hb2.size;simpa using this) _;generalize hk2:w2.heap.size=k2 at HBk ⊢;generalize hw3:w2.alloc (.cells #[J s,J mq] 186)=w3 at HBk hB3 hX3 ⊢;have HS:Hid (∀w',Below w3.heap.size w3 w'->w'.cell? (aT b 15)=some (.map (some mb))/\(Instr.lookup 156 (.map (some mb)) (.agg #[J s,J mq]) true).run prog w'=.ok (.tuple #[.agg #[J 0,J 0,sN,.string ⟨#[]⟩],.bool false]) w'/\w'.cell? (aT k2 0)=some (J s)/\w'.cell? (aT k2 1)=some (J mq)):=fun w' hw=>⟨(HL.out w' (HBk.out w' hw).1).1,(HL.out w' (HBk.out w' hw).1).2,(HBk.out w' hw).2⟩;clear hw3 hk2 hb2 hB2 hBx HL hX2;refine wp_region_held_drew (S:=fun w'=>w'.cell? (aT b 15)=some (.map (some mb))/\(Instr.lookup 156 (.map (some mb)) (.agg #[J s,J mq]) true).run prog w'=.ok (.tuple #[.agg #[J 0,J 0,sN,.string ⟨#[]⟩],.bool false]) w'/\w'.cell? (aT k2 0)=some (J s)/\w'.cell? (aT k2 1)=some (J mq)) rfl (HS.out _ (yi _ _).drew) (fun hHeld=>?_);refine wk 0 ?_;refine wk 1 ?_;refine wk 2 ?_;refine wk 3 ?_;refine wk 4 ?_;refine wk 5 ?_;refine wk 6 ?_;refine wk 7 ?_;refine wk 8 ?_;refine we 9 fun K hK=>?_;go_simp;refine hK.out _ _ (HS.out _ ((yi _ _).drew.alloc (yb _) _)) (fun hHeld=>?_);clear hK K;try simp only[pU]
 refine we 10 fun K hK=>?_;go_simp;refine hK.out _ _ (HS.out _ ((yi _ _).alloc (yb _) _).drew) (fun hHeld=>?_);clear hK K;try simp only[pU]
 refine wk 11 ?_;refine wpAnyH_done (by kernel_rfl) ?_ _;have hB4:Hid (Below w.heap.size w (w3.alloc (.cells #[J 0,J 0,sN,.string ⟨#[]⟩] 179)).drew):=(hB3.out.alloc hB3.out.size _).drew;have HB4:Hid (Below w3.heap.size w3 (w3.alloc (.cells #[J 0,J 0,sN,.string ⟨#[]⟩] 179)).drew):=((yi _ _).alloc (yb _) _).drew;generalize (w3.alloc (.cells #[J 0,J 0,sN,.string ⟨#[]⟩] 179)).drew=w4 at hB4 HB4 ⊢;have hX4:Hid (Below (w.heap.size+1) (w.alloc (.cells #[J s,J mq,.slice ao tn tc,.string mx] 179)) w4):=hX3.out.trans (HB4.out.mono (by have:=hX3.out.size;simpa using this));have HS5:Hid (∀w',Below w4.heap.size w4 w'->Below w.heap.size w w'/\w'.cell? (aT b 7)=some (J h.members)/\w'.cell? (aT b 15)=some (.map (some mb))/\w'.cell? (aT k2 0)=some (J s)/\w'.cell? (aT k2 1)=some (J mq)/\w'.cell? (aT w.heap.size 0)=some (J s)/\w'.cell? (aT w.heap.size 1)=some (J mq)/\w'.cell? (aT w.heap.size 2)=some (.slice ao tn tc)/\w'.cell? (aT w.heap.size 3)=some (.string mx)):=fun w' hw=>by
  have hB:=hB4.out.trans (hw.mono hB4.out.size);exact⟨hB,(HC.out w' hB).1,(HC.out w' hB).2.1,(HBk.out w' (HB4.out.trans (hw.mono HB4.out.size))).2.1,(HBk.out w' (HB4.out.trans (hw.mono HB4.out.size))).2.2,HX.out w' (hX4.out.trans (hw.mono (by have:=hX4.out.size;simpa using this)))⟩
 clear HS HBk hB3 hHeld HB4 HX hX3 hX4 HC;go_wp2_with fail
 refine wp_region_held_drew (S:=fun w'=>Below w.heap.size w w'/\w'.cell? (aT b 7)=some (J h.members)/\w'.cell? (aT k2 0)=some (J s)/\w'.cell? (aT k2 1)=some (J mq)/\w'.cell? (aT w.heap.size 0)=some (J s)) rfl (by have:=HS5.out _ (yi _ _).drew;exact⟨this.1,this.2.1,this.2.2.2.1,this.2.2.2.2.1,this.2.2.2.2.2.1⟩) (fun hHeld=>?_);refine wk 0 ?_;refine wk 1 ?_;refine wk 2 ?_;refine wk 3 ?_;refine we 4 fun K hK=>?_;go_simp;refine(HST.out _ hHeld.1).mono ?_;rintro e w5 ⟨rfl,hb5⟩;have HB5:Hid (Below w4.heap.size w4 w5):=((yi _ _).drew).trans (hb5.mono (by simp));go_wp2_with fail
 refine hK.out _ _ (by have:=HS5.out _ HB5.out;exact⟨this.1,this.2.1,this.2.2.2.1,this.2.2.2.2.1,this.2.2.2.2.2.1⟩) (fun hHeld=>?_);clear hK K;try simp only[pU]
 refine wk 5 ?_;refine wk 6 ?_;refine wk 7 ?_;refine wk 8 ?_;refine wk 9 ?_;refine wk 10 ?_;refine wk 11 ?_;refine wk 12 ?_;refine we 13 fun K hK=>?_;go_simp;refine(HHAS.out _).mono ?_;rintro e w6 ⟨rfl,rfl⟩;go_wp2_with fail
 refine hK.out _ _ (by have:=HS5.out _ HB5.out;exact⟨this.1,this.2.1,this.2.2.2.1,this.2.2.2.2.1,this.2.2.2.2.2.1⟩) (fun hHeld=>?_);clear hK K;try simp only[pU]
 refine wk 14 ?_;refine wk 15 ?_;refine wpAnyH_done (by kernel_rfl) ?_ _;obtain⟨hB5,c7,c15,k0,k1,x0,x1,x2,x3⟩:=HS5.out _ HB5.out;have hP:=HP.out _ _ hB5.drew rfl;have hU:Hid (_/\_/\_):=hP;obtain⟨hU1,hU2⟩:=hP;clear HP HS5 HHAS HST HB5 hb5 hHeld hB4;clear hU2;go_wp2_with fail
 refine Ends.begin (fun w'=>w'=w6.drew) 6 rfl rfl (fun hHeld=>?_);refine tk 0 ?_;refine tk 1 ?_;refine tk 2 ?_;refine tk 3 ?_;refine tk 4 ?_;refine tk 5 ?_;refine te 6 fun K hK=>?_;go_simp;refine hK.out _ _ (fun h=>absurd rfl h) (fun _=>?_);clear hK K;try simp only[pU]
 refine Ends.done (by kernel_rfl) ?_ _;go_wp2_with fail
 go_end0
 exact⟨rfl,hU.out.2.1,_,hU.out.2.2⟩
theorem qig(l:List Ev)(e:Ev):evCells (l++[e])=evCells l++e.cells:=by simp[evCells]
theorem qda(l:List Par)(e:Par):parCells (l++[e])=parCells l++[J e.1,.string e.2]:=by simp[parCells]
theorem PA.notes(p:PA w F b h kn l evs snt kb mb rbs es clk ev sv){w3 w4:World}(h3:Below w.heap.size w w3)(h4:w3.grownBy w4 ev.ownBlock){g cap:Nat}{e:Ev}(hown:w4.ownsRow 0 64 6 (sT g (evs.length+1) cap) (evs.length+1) (evCells evs++e.cells))(hg:ev.ownBlock=some g\/w.heap.size<=g) :
 Chg F w (w4.setCell ⟨b,17,none⟩ (sT g (evs.length+1) cap))/\PA (w4.setCell ⟨b,17,none⟩ (sT g (evs.length+1) cap)) (Plus F w) b h kn l (evs++[e]) snt kb mb rbs es clk (sT g (evs.length+1) cap) sv:=by
 have p3:=p.below h3;have far:∀x,x<w3.heap.size->(∀cur,w3.heap[x]?≠some (.cells cur 64 (0,0)))->w4.heap[x]?=w3.heap[x]?:=fun x hx hn=>h4.block x hx fun e'=>by
  obtain⟨cur,hc⟩:=p3.event.tag e'.symm;exact hn cur hc
 have nb64:∀cur,w3.heap[b]?≠some (.cells cur 64 (0,0)):=fun cur hc=>by
  have:=p3.blk;unfold BlkAt at this;rw[hc] at this;injection this with this;injection this with _ this;exact absurd this (by decide)
 have hb4:BlkAt w4 b 159 _:=(far b p3.blk.lt nb64).trans p3.blk;have hb5:=hb4.set 17 (sT g (evs.length+1) cap);have hgb:g≠b:=by
  rcases hg with hg|hg
  ·exact p.event.ne hg p.blk (by decide)
  ·have:=p.blk.lt;omega
 refine⟨⟨h4.os.trans h3.os,h4.tape.trans h3.tape,h4.output.trans h3.output,by simpa using yr h3.size h4.size,fun x hx hF=>?_⟩,?_⟩
 ·rw[yT _ _ _ _ (fun e'=>hF (by rw[show x=b from e'];exact p.fb))];refine(h4.block x (yg hx h3.size) fun e'=>hF (p.event.foot x e'.symm)).trans (h3.block x hx)
 ·refine(p3.wide (F':=Plus F w) Plus.sub).rehead (h':=h) rfl hb5 (fun x hx hxb h64 _=>?_) ?_ ?_
  ·rw[yT _ _ _ _ hxb];exact far x hx h64
  ·rw[yC,qig];refine⟨qd hown fun g' hg'=>?_,fun g' hg'=>?_⟩
   ·have:g'=g:=by simpa[Value.ownBlock] using hg'.symm
    subst this;exact yT _ _ _ _ hgb
   ·have:g'=g:=by simpa[Value.ownBlock] using hg'.symm
    subst this;rcases hg with hg|hg
    ·exact .inl (p.event.foot _ hg)
    ·exact .inr hg
  ·refine⟨qd p3.sent.row fun g' hg'=>?_,fun g' hg'=>.inl (p.sent.foot g' hg')⟩;obtain⟨cur,hc⟩:=p3.sent.tag hg';have hne:g'≠b:=qbf hc p3.blk (by decide);rw[yT _ _ _ _ hne];refine far g' (p3.sent.lt hg') fun cur' hc'=>?_;rw[hc] at hc';injection hc' with hc';injection hc' with _ hc';exact absurd hc' (by decide)
theorem PA.sends(p:PA w F b h kn l evs snt kb mb rbs es clk ev sv){w3 w4:World}(h3:Below w.heap.size w w3)(h4:w3.grownBy w4 sv.ownBlock){g cap:Nat}{e:Par}(hown:w4.ownsRow 0 111 2 (sT g (snt.length+1) cap) (snt.length+1) (parCells snt++[J e.1,.string e.2]))(hg:sv.ownBlock=some g\/w.heap.size<=g) :
 Chg F w (w4.setCell ⟨b,18,none⟩ (sT g (snt.length+1) cap))/\PA (w4.setCell ⟨b,18,none⟩ (sT g (snt.length+1) cap)) (Plus F w) b h kn l evs (snt++[e]) kb mb rbs es clk ev (sT g (snt.length+1) cap):=by
 have p3:=p.below h3;have far:∀x,x<w3.heap.size->(∀cur,w3.heap[x]?≠some (.cells cur 111 (0,0)))->w4.heap[x]?=w3.heap[x]?:=fun x hx hn=>h4.block x hx fun e'=>by
  obtain⟨cur,hc⟩:=p3.sent.tag e'.symm;exact hn cur hc
 have nb64:∀cur,w3.heap[b]?≠some (.cells cur 111 (0,0)):=fun cur hc=>by
  have:=p3.blk;unfold BlkAt at this;rw[hc] at this;injection this with this;injection this with _ this;exact absurd this (by decide)
 have hb4:BlkAt w4 b 159 _:=(far b p3.blk.lt nb64).trans p3.blk;have hb5:=hb4.set 18 (sT g (snt.length+1) cap);have hgb:g≠b:=by
  rcases hg with hg|hg
  ·exact p.sent.ne hg p.blk (by decide)
  ·have:=p.blk.lt;omega
 refine⟨⟨h4.os.trans h3.os,h4.tape.trans h3.tape,h4.output.trans h3.output,by simpa using yr h3.size h4.size,fun x hx hF=>?_⟩,?_⟩
 ·rw[yT _ _ _ _ (fun e'=>hF (by rw[show x=b from e'];exact p.fb))];refine(h4.block x (yg hx h3.size) fun e'=>hF (p.sent.foot x e'.symm)).trans (h3.block x hx)
 ·refine(p3.wide (F':=Plus F w) Plus.sub).rehead (h':=h) rfl hb5 (fun x hx hxb _ h111=>?_) ?_ ?_
  ·rw[yT _ _ _ _ hxb];exact far x hx h111
  ·refine⟨qd p3.event.row fun g' hg'=>?_,fun g' hg'=>.inl (p.event.foot g' hg')⟩;obtain⟨cur,hc⟩:=p3.event.tag hg';have hne:g'≠b:=qbf hc p3.blk (by decide);rw[yT _ _ _ _ hne];refine far g' (p3.event.lt hg') fun cur' hc'=>?_;rw[hc] at hc';injection hc' with hc';injection hc' with _ hc';exact absurd hc' (by decide)
  ·rw[yC,qda];refine⟨qd hown fun g' hg'=>?_,fun g' hg'=>?_⟩
   ·have:g'=g:=by simpa[Value.ownBlock] using hg'.symm
    subst this;exact yT _ _ _ _ hgb
   ·have:g'=g:=by simpa[Value.ownBlock] using hg'.symm
    subst this;rcases hg with hg|hg
    ·exact .inl (p.sent.foot _ hg)
    ·exact .inr hg
theorem infoEv64:(prog.info? 64).map (fun i=>(i.zero,i.size,i.bytes))=some (some (.agg #[J 0,J 0,J 0,J 0,J 0,.string ⟨#[]⟩]),6,56):=by kernel_rfl
theorem qar(p:PA w F b h kn l evs snt kb mb rbs es clk ev sv){r:Nat}(hr:rbs[h.num]?=some r):Calls prog 119 #[pT b 0] w fun e w'=>e=.returned (sT r h.n h.n)/\Below w.heap.size w w'/\w'.heap=w.heap:=(qq6 b kb h _ ev sv rbs kn w p.blk p.known r hr).mono fun e w' hh=>by
 obtain⟨rfl,m,rfl⟩:=hh;exact⟨rfl,below_drewN (yi _ _) m,by simp⟩
theorem qg9(p:PA w F b h kn l evs snt kb mb rbs es clk ev sv)(m:Codec.Msg)(ao:Option Addr)(tn tc:Nat)(kind:Int)(s:Nat)(hs:s<h.n)(hms:m.sender=s)(hnum:h.num<h.n)(hev:evs.length<=1000000) :
 Calls prog 138 #[pT b 0,msgV m (.slice ao tn tc),J kind] w fun e w'=>e=.returned (.tuple #[])/\Chg F w w'/\∃ev',PA w' (Plus F w) b h (kn.set h.num ((kn.getD h.num []).set s m.seq)) l (evs++[⟨kind,h.view,m.sender,m.seq,0,m.text⟩]) snt kb mb rbs es clk ev' sv:=by
 obtain⟨ms,mq,mt,mx⟩:=m;simp only at hms;subst hms;simp only;obtain⟨r,hr,hbr,hrl, -⟩:=p.row_at hnum;obtain⟨i0,hi0,hz0,hz1,hz2⟩:=info_parts infoEv64;have HBX:Hid (BlkAt (w.alloc (.cells #[J s,J mq,.slice ao tn tc,.string mx] 179)) w.heap.size 179 #[J s,J mq,.slice ao tn tc,.string mx]):=BlkAt.new w w.heap.size rfl 179 _;have hBx:Hid (Below w.heap.size w (w.alloc (.cells #[J s,J mq,.slice ao tn tc,.string mx] 179))):=(yi _ _).alloc (yb _) _;have HR:Hid (∀w',Below w.heap.size w w'->Calls prog 119 #[pT b 0] w' fun e w''=>e=.returned (sT r h.n h.n)/\Below w'.heap.size w' w''/\w''.heap=w'.heap):=fun w' hw=>qar (p.below hw) hr;have HRW:Hid (∀w',Below w.heap.size w w'->w'.frozen? (aT r s)=false/\∃c,w'.cell? (aT r s)=some c):=fun w' hw=>by
  have hb':=hbr.below hw hbr.lt;exact⟨hb'.frozen s,_,hb'.cell s _ (qcc (by omega))⟩
 have HPA:Hid (∀w',Below w.heap.size w w'->PA (w'.setCell ⟨r,s,none⟩ (J mq)) F b h (kn.set h.num ((kn.getD h.num []).set s mq)) l evs snt kb mb rbs es clk ev sv/\Chg F w (w'.setCell ⟨r,s,none⟩ (J mq))):=fun w' hw=>by
  have hb':=(hbr.below hw hbr.lt).set s (J mq);rw[qkr] at hb';refine⟨(p.below hw).rerow hr (by simpa using hrl) (fun x _ hx=>yT _ _ _ _ hx) hb',⟨hw.os,hw.tape,hw.output,by simpa using hw.size,fun x hx hF=>?_⟩⟩;rw[yT _ _ _ _ (fun e=>hF (by rw[show x=r from e];exact p.fr r (yy hr)))];exact hw.block x hx
 have hs0:(0:Int)<=(s:Int):=by omega
 have hs1:(s:Int)<(h.n:Int):=by omega
 have hrlt:r<w.heap.size:=hbr.lt;have hevlt:Hid (∀g,ev.ownBlock=some g->g<w.heap.size):=fun g hg=>p.event.lt hg;clear p hbr hr;unfold msgV;go_enter Tryz.func138,Tryz.ntmps138
 go_wp2_with fail
 have HX:Hid (∀w',Below (w.heap.size+1) (w.alloc (.cells #[J s,J mq,.slice ao tn tc,.string mx] 179)) w'->w'.cell? (aT w.heap.size 0)=some (J s)/\w'.cell? (aT w.heap.size 1)=some (J mq)/\w'.cell? (aT w.heap.size 3)=some (.string mx)):=fun w' hw=>by
  have hb':=HBX.out.below hw (by omega);exact⟨hb'.cell 0 _ rfl,hb'.cell 1 _ rfl,hb'.cell 3 _ rfl⟩
 have hX0:Hid (Below (w.heap.size+1) (w.alloc (.cells #[J s,J mq,.slice ao tn tc,.string mx] 179)) (w.alloc (.cells #[J s,J mq,.slice ao tn tc,.string mx] 179))):=yi _ _;have hs1:Hid ((w.alloc (.cells #[J s,J mq,.slice ao tn tc,.string mx] 179)).heap.size=w.heap.size+1):=by simp[Hid]
 generalize hw1:w.alloc (.cells #[J s,J mq,.slice ao tn tc,.string mx] 179)=w1 at hBx HX hX0 hs1 ⊢;clear HBX hw1;refine Ends.begin (fun w'=>Below (w.heap.size+1) w1 w'/\w'.cell? (aT w.heap.size 0)=some (J s)/\w'.cell? (aT w.heap.size 1)=some (J mq)) 7 rfl (by have:=HX.out _ hX0.out.drew;exact⟨(yi _ _).drew,this.1,this.2.1⟩) (fun hHeld=>?_);refine tk 0 ?_;refine tk 2 ?_;refine tk 3 ?_;refine tk 4 ?_;refine tk 5 ?_;refine te 1 fun K hK=>?_;go_simp;refine(HR.out _ (hBx.out.drew)).mono ?_;rintro e w2 ⟨rfl,hb2,hh2⟩;have hB2:Hid (Below (w.heap.size+1) w1 w2):=((yi _ _).drew).trans (hb2.mono (by simp[hs1.out]));have hBw2:Hid (Below w.heap.size w w2):=hBx.out.trans (hB2.out.mono (by omega));go_wp2_with fail
 refine hK.out _ _ (fun _=>by have:=HX.out _ hB2.out;exact⟨hB2.out,this.1,this.2.1⟩) (fun hHeld=>?_);clear hK K;try simp only[pU]
 have hHeld:=hHeld (by decide);refine tk 6 ?_;obtain⟨hfz,cc,hcc⟩:=HRW.out w2 hBw2.out;refine te 7 fun K hK=>?_;go_simp;refine hK.out _ _ (fun h=>absurd rfl h) (fun _=>?_);clear hK K;try simp only[pU]
 refine Ends.done (by kernel_rfl) ?_ _;obtain⟨p3,hC3⟩:=HPA.out w2 hBw2.out;have x3:=HX.out w2 hB2.out;have y0:(w2.setCell ⟨r,s,none⟩ (J mq)).cell? (aT w.heap.size 0)=some (J s):=(World.cell?_setCell_far _ _ _ _ (by show r≠w.heap.size;omega)).trans x3.1;have y1:(w2.setCell ⟨r,s,none⟩ (J mq)).cell? (aT w.heap.size 1)=some (J mq):=(World.cell?_setCell_far _ _ _ _ (by show r≠w.heap.size;omega)).trans x3.2.1;have y3:(w2.setCell ⟨r,s,none⟩ (J mq)).cell? (aT w.heap.size 3)=some (.string mx):=(World.cell?_setCell_far _ _ _ _ (by show r≠w.heap.size;omega)).trans x3.2.2;have hsz3:Hid (w.heap.size<(w2.setCell ⟨r,s,none⟩ (J mq)).heap.size):=by have:=hB2.out.size;have:=hs1.out;simp[Hid];omega
 generalize (w2.setCell ⟨r,s,none⟩ (J mq))=w3 at p3 hC3 y0 y1 y3 hsz3 ⊢;clear HX HPA HR HRW hcc hfz hHeld hB2 hBw2 hb2 hh2 x3 hX0 hBx hs1;have P3:Hid (PA w3 F b h (kn.set h.num ((kn.getD h.num []).set s mq)) l evs snt kb mb rbs es clk ev sv):=p3;have c6:=p3.blk.cell 6 _ rfl;have c17:=p3.blk.cell 17 _ rfl;simp only[Hd.cells,yf,yd,ye] at c6 c17;have HC3:Hid (Chg F w w3):=hC3;clear p3 hC3;have HS:Hid (∀w',Below w3.heap.size w3 w'->w'.cell? (aT b 6)=some (J h.view)/\w'.cell? (aT b 17)=some ev/\w'.cell? (aT w.heap.size 0)=some (J s)/\w'.cell? (aT w.heap.size 1)=some (J mq)/\w'.cell? (aT w.heap.size 3)=some (.string mx)):=fun w' hw=>
  ⟨(hw.cell (p:=(aT b 6)) P3.out.blk.lt).trans c6,(hw.cell (p:=(aT b 17)) P3.out.blk.lt).trans c17,(hw.cell (p:=(aT w.heap.size 0)) hsz3.out).trans y0,(hw.cell (p:=(aT w.heap.size 1)) hsz3.out).trans y1,(hw.cell (p:=(aT w.heap.size 3)) hsz3.out).trans y3⟩
 clear c6 c17 y0 y1 y3;go_wp2_with fail
 refine Ends.begin (fun w'=>w'.cell? (aT b 6)=some (J h.view)/\w'.cell? (aT b 17)=some ev/\w'.cell? (aT w.heap.size 0)=some (J s)/\w'.cell? (aT w.heap.size 1)=some (J mq)/\w'.cell? (aT w.heap.size 3)=some (.string mx)) 21 rfl (HS.out _ (yi _ _).drew) (fun hHeld=>?_);refine tk 0 ?_;refine tk 1 ?_;refine tk 2 ?_;refine tk 3 ?_;refine tk 4 ?_;refine tk 5 ?_;refine tk 6 ?_;refine tk 7 ?_;refine tk 8 ?_;refine tk 9 ?_;refine tk 10 ?_;refine tk 11 ?_;refine tk 12 ?_;refine tk 13 ?_;refine tk 14 ?_;refine tk 15 ?_;refine tk 16 ?_;refine te 17 fun K hK=>?_;go_simp;have hBE:Hid (Below w3.heap.size w3 (w3.alloc (.cells #[J kind,J h.view,J s,J mq,J 0,.string mx] 64)).drew):=((yi _ _).alloc (yb _) _).drew;refine hK.out _ _ (fun _=>HS.out _ hBE.out) (fun hHeld=>?_);clear hK K;try simp only[pU]
 have HE:Hid (BlkAt (w3.alloc (.cells #[J kind,J h.view,J s,J mq,J 0,.string mx] 64)).drew w3.heap.size 64 #[J kind,J h.view,J s,J mq,J 0,.string mx]):=(BlkAt.new w3 w3.heap.size rfl 64 _).drew;have hsE:Hid ((w3.alloc (.cells #[J kind,J h.view,J s,J mq,J 0,.string mx] 64)).drew.heap.size=w3.heap.size+1):=by simp[Hid]
 generalize (w3.alloc (.cells #[J kind,J h.view,J s,J mq,J 0,.string mx] 64)).drew=w4 at hBE HE hsE hHeld ⊢;refine te 18 fun K hK=>?_;refine step_append_lies w4 rfl (.tmp 17) (.tmp 30) 35 rfl 0 64 i0 _ 6 56 Tryz.underlying35 hi0 hz0 hz1 hz2 rfl (by decide) ev evs.length (evCells evs) rfl (qo P3.out.event.row hBE.out) (aT w3.heap.size 0) 1 1 (Ev.cells ⟨kind,h.view,s,mq,0,mx⟩) rfl rfl (yaB HE.out) (by intro u hu;simp only[Ev.cells,yF,yU,or_false] at hu;rcases hu with rfl|rfl|rfl|rfl|rfl|rfl <;> rfl) (by omega) (by simp[maxLen];omega) (by omega) (yaA _) (w3.heap.size+1) hsE.out ?_;intro g cap w5 hown hgr hor hlt;have hSf:Hid (w5.cell? (aT b 6)=some (J h.view)/\w5.cell? (aT b 17)=some ev/\w5.cell? (aT w.heap.size 0)=some (J s)/\w5.cell? (aT w.heap.size 1)=some (J mq)/\w5.cell? (aT w.heap.size 3)=some (.string mx)):=by
  have h4:=HS.out _ hBE.out;have hb4:b<w4.heap.size:=yg P3.out.blk.lt hBE.out.size;have hx4:w.heap.size<w4.heap.size:=yg hsz3.out hBE.out.size;have nb:some b≠ev.ownBlock:=fun e=>by
   exact P3.out.event.ne e.symm P3.out.blk (by decide) rfl
  have nx:some w.heap.size≠ev.ownBlock:=fun e=>by have:=hevlt.out _ e.symm;omega
  exact⟨(hgr.cell_far ⟨b,6,none⟩ hb4 nb).trans h4.1,(hgr.cell_far ⟨b,17,none⟩ hb4 nb).trans h4.2.1,(hgr.cell_far ⟨w.heap.size,0,none⟩ hx4 nx).trans h4.2.2.1,(hgr.cell_far ⟨w.heap.size,1,none⟩ hx4 nx).trans h4.2.2.2.1,(hgr.cell_far ⟨w.heap.size,3,none⟩ hx4 nx).trans h4.2.2.2.2⟩
 have hfin:=P3.out.notes hBE.out hgr (e:=⟨kind,h.view,s,mq,0,mx⟩) hown (hor.imp id (fun e=>by omega));have HFIN:Hid (Chg F w3 (w5.setCell ⟨b,17,none⟩ (sT g (evs.length+1) cap))/\_):=hfin;have hfz:w5.frozen? (aT b 17)=false:=by
  have nb:some b≠ev.ownBlock:=fun e=>P3.out.event.ne e.symm P3.out.blk (by decide) rfl;rw[hgr.frozen_far ⟨b,17,none⟩ (yg P3.out.blk.lt hBE.out.size) nb];exact(P3.out.blk.below hBE.out P3.out.blk.lt).frozen 17
 clear hfin hown hgr hor hlt hHeld HE hsE hBE HS;refine hK.out _ _ (fun _=>hSf.out) (fun hHeld=>?_);clear hK K;try simp only[pU]
 have hHeld:=hHeld (by decide);refine te 19 fun K hK=>?_;go_simp;refine hK.out _ _ (fun _=>hSf.out) (fun hHeld=>?_);clear hK K;try simp only[pU]
 refine te 20 fun K hK=>?_;go_simp;refine hK.out _ _ (fun _=>hSf.out) (fun hHeld=>?_);clear hK K;try simp only[pU]
 have hHeld:=hHeld (by decide);refine te 21 fun K hK=>?_;go_simp;refine hK.out _ _ (fun h=>absurd rfl h) (fun _=>?_);clear hK K;try simp only[pU]
 refine Ends.done (by kernel_rfl) ?_ _;go_wp2_with fail
 go_end0
 refine⟨rfl,HC3.out.trans (HFIN.out.1.mono fun x _ hx=>.inl hx),_,HFIN.out.2.wide fun x hx=>hx.elim .inl fun hx=>.inr ?_⟩;have:=HC3.out.size;omega
theorem qll(cb n cc:Nat)(m:Codec.Msg)(ao:Option Addr)(tn tc:Nat)(s:Nat)(x:Int)(hs:s<n)(hms:m.sender=s)(hc:w.cell? (aT cb s)=some (J x)) :
 Calls prog 273 #[sT cb n cc,msgV m (.slice ao tn tc)] w fun e w'=>e=.returned (.bool (decide (m.seq<=x)))/\Below w.heap.size w w':=by
 obtain⟨ms,mq,mt,mx⟩:=m;simp only at hms;subst hms;simp only;have hlt:cb<w.heap.size:=yI w _ hc;have hBx:Hid (Below w.heap.size w (w.alloc (.cells #[J s,J mq,.slice ao tn tc,.string mx] 179))):=(yi _ _).alloc (yb _) _;have hc1:=(hBx.out.cell (p:=(aT cb s)) hlt).trans hc;have HX:=BlkAt.new w w.heap.size rfl 179 #[J s,J mq,.slice ao tn tc,.string mx];have d0:=HX.cell 0 _ rfl;have d1:=HX.cell 1 _ rfl;simp only[yf,yd,ye] at d0 d1;have hs0:(0:Int)<=(s:Int):=by omega
 have hs1:(s:Int)<(n:Int):=by omega
 clear hc HX;unfold msgV;go_enter Tryz.func273,Tryz.ntmps273
 go_wp2_with fail
 generalize w.alloc (.cells #[J s,J mq,.slice ao tn tc,.string mx] 179)=w1 at hBx hc1 d0 d1 ⊢;go_quiet (fail)
 go_wp2_with fail
 go_ret;exact⟨qg rfl,below_drewN hBx.out _⟩
def seenB(row time:List Int)(s:Nat):Bool:=(List.range row.length).all fun q=>decide (q=s) || decide (time.getD q 0<=row.getD q 0)
theorem qdb{row time:List Int}{s:Nat}:seenB row time s=true↔∀q,q<row.length->q≠s->time.getD q 0<=row.getD q 0:=by
 unfold seenB;rw[y5];constructor
 ·intro hh q hq hne;have:=hh q (by simpa using hq);simpa[hne] using this
 ·intro hh q hq;by_cases e:q=s
  ·simp[e]
  ·have:=hh q (by simpa using hq) e;rw[decide_eq_true this];simp
theorem qql(p:PA w F b h kn l evs snt kb mb rbs es clk ev sv)(hn:h.n<=6)(hnum:h.num<h.n)(m:Codec.Msg)(tb tc:Nat)(s:Nat)(hms:m.sender=s)(hlen:m.time.length=h.n)(ht:∀q,q<h.n->w.cell? (aT tb q)=some (J (m.time.getD q 0))) :
 Calls prog 304 #[pT b 0,msgV m (sT tb h.n tc)] w fun e w'=>e=.returned (.bool (seenB (kn.getD h.num []) m.time s))/\Below w.heap.size w w':=by
 obtain⟨ms,mq,mt,mx⟩:=m;simp only at hms hlen ht;subst hms;simp only;obtain⟨r,hr,hbr,hrl, -⟩:=p.row_at hnum;have htb:tb<w.heap.size:=yI w ⟨tb,h.num,none⟩ (ht h.num hnum);have HR:Hid (∀w',Below w.heap.size w w'->Calls prog 119 #[pT b 0] w' fun e w''=>e=.returned (sT r h.n h.n)/\Below w'.heap.size w' w''/\w''.heap=w'.heap):=fun w' hw=>qar (p.below hw) hr;have HC:Hid (∀w',Below w.heap.size w w'->∀q,q<h.n->w'.cell? (aT r q)=some (J ((kn.getD h.num []).getD q 0))/\w'.cell? (aT tb q)=some (J (mt.getD q 0))):=fun w' hw q hq=>⟨(hbr.below hw hbr.lt).cell q _ (qcc (by omega)),(hw.cell (p:=(aT tb q)) htb).trans (ht q hq)⟩;have HX:=BlkAt.new w w.heap.size rfl 179 #[J s,J mq,sT tb h.n tc,.string mx];have HXX:Hid (∀w',Below (w.heap.size+1) (w.alloc (.cells #[J s,J mq,sT tb h.n tc,.string mx] 179)) w'->Below w.heap.size w w'/\w'.cell? (aT w.heap.size 0)=some (J s)/\w'.cell? (aT w.heap.size 2)=some (sT tb h.n tc)):=fun w' hw=>⟨((yi _ _).alloc (yb _) _).trans (hw.mono (by omega)),(HX.below hw (by omega)).cell 0 _ rfl,(HX.below hw (by omega)).cell 2 _ rfl⟩;have hX0:Hid (Below (w.heap.size+1) (w.alloc (.cells #[J s,J mq,sT tb h.n tc,.string mx] 179)) (w.alloc (.cells #[J s,J mq,sT tb h.n tc,.string mx] 179))):=yi _ _;have hs1:Hid ((w.alloc (.cells #[J s,J mq,sT tb h.n tc,.string mx] 179)).heap.size=w.heap.size+1):=by simp[Hid]
 have HEND:Hid (∀k,(k=h.n->(∀q,q<k->q≠s->mt.getD q 0<=(kn.getD h.num []).getD q 0)->true=seenB (kn.getD h.num []) mt s)/\(k<h.n->k≠s->(kn.getD h.num []).getD k 0<mt.getD k 0->false=seenB (kn.getD h.num []) mt s)):=fun k=>by
  refine⟨fun hk hall=>?_,fun hk hne hno=>?_⟩
  ·subst hk;exact(qdb.2 fun q hq hne=>hall q (by omega) hne).symm
  ·cases hsb:seenB (kn.getD h.num []) mt s
   ·rfl
   ·exact absurd (qdb.1 hsb k (by omega) hne) (by omega)
 clear p hbr hr ht HX;unfold msgV;go_enter Tryz.func304,Tryz.ntmps304
 go_wp2_with fail
 generalize w.alloc (.cells #[J s,J mq,sT tb h.n tc,.string mx] 179)=w1 at HXX hX0 hs1 ⊢;refine(HR.out w1 (HXX.out w1 hX0.out).1).mono ?_;rintro e w2 ⟨rfl,hb2, -⟩;have hB2:Hid (Below (w.heap.size+1) w1 w2):=hb2.mono (by rw[hs1.out];omega);clear hb2;go_wp2_with fail
 go_loopw [10] (fun i wr=>∃k:Nat,k<=h.n/\i=J k/\(∀q,q<k->q≠s->mt.getD q 0<=(kn.getD h.num []).getD q 0)/\Below (w.heap.size+1) w1 wr) (fun i _=>h.n - (intOf i).toNat)
 case atStart=>exact⟨0,by omega,rfl,fun q hq=>absurd hq (by omega),hB2.out⟩
 case round=>
  obtain⟨k,hk,rfl,hall,hbel⟩:=hrel;have HBL:Hid (Below (w.heap.size+1) w1 wr):=hbel;obtain⟨hw,x0,x2⟩:=HXX.out wr hbel;have HBW:Hid (Below w.heap.size w wr):=hw;by_cases hlt:k<h.n
  ·obtain⟨cr,ct⟩:=HC.out wr hw k hlt;have hlt1:(k:Int)<(h.n:Int):=by omega
   have hk0:(0:Int)<=(k:Int):=by omega
   have hE:=(HEND.out k).2 hlt;have HN:Hid ((k≠s->mt.getD k 0<=(kn.getD h.num []).getD k 0)->∀q,q<k+1->q≠s->mt.getD q 0<=(kn.getD h.num []).getD q 0):=fun hh q hq hne=>by
    rcases yaS.1 hq with hq|rfl
    ·exact hall q hq hne
    ·exact hh hne
   have HE:Hid (k≠s->(kn.getD h.num []).getD k 0<mt.getD k 0->false=seenB (kn.getD h.num []) mt s):=hE;clear hall hE hbel hw;generalize (kn.getD h.num []).getD k 0=x at cr HN HE;generalize mt.getD k 0=y at ct HN HE;by_cases hks:k=s
   ·have hks':(k:Int)=(s:Int):=by omega
    subst hks;go_wp2_with fail
    go_roundw
    case rel=>exact⟨k+1,by omega,by go_num,HN.out (fun hh=>absurd rfl hh),HBL.out⟩
    case measure=>simp[intOf];omega
   ·have hks':¬(k:Int)=(s:Int):=by omega
    by_cases hxy:x<y
    ·go_wp2_with fail
     go_ret;exact⟨qg (HE.out hks hxy),HBW.out⟩
    ·go_wp2_with fail
     go_roundw
     case rel=>exact⟨k+1,by omega,by go_num,HN.out (fun _=>by omega),HBL.out⟩
     case measure=>simp[intOf];omega
  ·have hx:k=h.n:=by omega
   have hge:¬(k:Int)<(h.n:Int):=by omega
   have hE:Hid (true=seenB (kn.getD h.num []) mt s):=(HEND.out k).1 hx hall;go_wp2_with fail
   go_ret;exact⟨qg hE.out,HBW.out⟩
theorem store4{w:World}{X:Nat}{T:TypeId}{x0 x1 x2 x3:Value}(h:BlkAt w X T #[x0,x1,x2,x3])(a0 a1 a2 a3:Value) :
 BlkAt ((((w.setCell ⟨X,0,none⟩ a0).setCell ⟨X,1,none⟩ a1).setCell ⟨X,2,none⟩ a2).setCell ⟨X,3,none⟩ a3) X T #[a0,a1,a2,a3]/\Only X w ((((w.setCell ⟨X,0,none⟩ a0).setCell ⟨X,1,none⟩ a1).setCell ⟨X,2,none⟩ a2).setCell ⟨X,3,none⟩ a3):=by
 have b0:BlkAt _ X T #[a0,x1,x2,x3]:=h.set 0 a0;have b1:BlkAt _ X T #[a0,a1,x2,x3]:=b0.set 1 a1;have b2:BlkAt _ X T #[a0,a1,a2,x3]:=b1.set 2 a2;have b3:BlkAt _ X T #[a0,a1,a2,a3]:=b2.set 3 a3;exact⟨b3,((((Only.refl X w).set 0 a0).set 1 a1).set 2 a2).set 3 a3⟩
def Held(n:Nat)(l:Msgs):Prop:=∀x∈l,∃s:Nat,s<n/\x.1.sender=s/\x.1.time.length=n/\0<=x.1.seq/\x.1.seq<=20
def CanD(row:List Int)(m:Codec.Msg):Prop:=m.seq=row.getD m.sender.toNat 0+1/\seenB row m.time m.sender.toNat=true
theorem qo1{l:Msgs}(h:qrj l){x y:Codec.Msg × Value}(hx:x∈l)(hy:y∈l)(hne:x≠y):¬isK x.1.sender x.1.seq y.1=true:=by
 intro e;obtain⟨i,hi,rfl⟩:=y4 hx;obtain⟨j,hj,rfl⟩:=y4 hy;have hp:=ya8.1 h;rcases yaX i j with hij|hij|hij
 ·rw[hp i j hi hj hij] at e;cases e
 ·subst hij;exact hne rfl
 ·have h2:=hp j i hj hi hij;rw[qag] at e;rw[<-yaV,qag] at h2;exact h2 ⟨e.1.symm,e.2.symm⟩
theorem qgb(p:PA w F b h kn l evs snt kb mb rbs es clk ev sv)(hn0:0<h.n){x:Codec.Msg × Value}(hx:x∈l)(hlen:x.1.time.length=h.n):∃tb tc,x.2=sT tb h.n tc/\∀q,q<h.n->w.cell? (aT tb q)=some (J (x.1.time.getD q 0)):=by
 have r:=(p.times x hx).1.row;rcases r.2 with h0|⟨g,cap,cur,hv, -⟩
 ·have:=h0.2;omega
 ·have hc:=r.cells (g:=g) (by rw[hv];rfl);refine⟨g,cap,by rw[hv,hlen],fun q hq=>?_⟩;have:=hc q (J (x.1.time.getD q 0)) (by simp[ints,hlen,hq]);have hadd:(⟨g,0,none⟩:Addr).add q=(aT g q):=by unfold Addr.add;split <;> simp_all
  rw[hadd] at this;exact this
theorem qfy(p:PA w F b h kn l evs snt kb mb rbs es clk ev sv)(hn:h.n<=6)(hnum:h.num<h.n)(hl:Held h.n l)(cb cc:Nat)(hcut:∀q,q<h.n->w.cell? (aT cb q)=some (J 20))(hrow:∀q,q<h.n->0<=(kn.getD h.num []).getD q 0/\(kn.getD h.num []).getD q 0<=20) :
 Calls prog 301 #[pT b 0,sT cb h.n cc] w fun e w'=>Below w.heap.size w w'/\((∃x∈l,e=.returned (.tuple #[msgV x.1 x.2,.bool true])/\CanD (kn.getD h.num []) x.1)\/(e=.returned (.tuple #[.agg #[J 0,J 0,sN,.string ⟨#[]⟩],.bool false])/\∀x∈l,¬CanD (kn.getD h.num []) x.1)):=by
 obtain⟨r,hr,hbr,hrl, -⟩:=p.row_at hnum;have hcb:cb<w.heap.size:=yI w ⟨cb,h.num,none⟩ (hcut h.num hnum);have HR:Hid (∀w',Below w.heap.size w w'->Calls prog 119 #[pT b 0] w' fun e w''=>e=.returned (sT r h.n h.n)/\Below w'.heap.size w' w''/\w''.heap=w'.heap):=fun w' hw=>qar (p.below hw) hr;have HC:Hid (∀w',Below w.heap.size w w'->w'.cell? (aT b 15)=some (.map (some mb))/\∀q,q<h.n->w'.cell? (aT r q)=some (J ((kn.getD h.num []).getD q 0))):=fun w' hw=>⟨(p.blk.below hw p.blk.lt).cell 15 _ rfl,fun q hq=>(hbr.below hw hbr.lt).cell q _ (qcc (by omega))⟩;have HNO:Hid (∀w' (s q:Int),Below w.heap.size w w'->(∀x∈l,isK s q x.1=false)->(Instr.lookup 156 (.map (some mb)) (.agg #[J s,J q]) true).run prog w'=.ok (.tuple #[.agg #[J 0,J 0,sN,.string ⟨#[]⟩],.bool false]) w'):=fun w' s q hw hno=>qjo w' s q ((hw.block mb p.ltm).trans p.map) p.mo hno true;have HYES:Hid (∀w' (s q:Int) (x:Codec.Msg × Value),Below w.heap.size w w'->x∈l->isK s q x.1=true->(Instr.lookup 156 (.map (some mb)) (.agg #[J s,J q]) true).run prog w'=.ok (.tuple #[msgV x.1 x.2,.bool true]) w'):=fun w' s q x hw hx hk=>qg4 w' s q ((hw.block mb p.ltm).trans p.map) p.mo p.apart hx hk true;have HT:Hid (∀x∈l,∃tb tc,x.2=sT tb h.n tc):=fun x hx=>by
  obtain⟨s, -, -,hlen, -⟩:=hl x hx;obtain⟨tb,tc,e, -⟩:=qgb p (by omega) hx hlen;exact⟨tb,tc,e⟩
 have HSEEN:Hid (∀w' (m:Codec.Msg) (tb tc s:Nat),Below w.heap.size w w'->(m,Value.slice (some ⟨tb,0,none⟩) h.n tc)∈l->m.sender=s->Calls prog 304 #[pT b 0,msgV m (sT tb h.n tc)] w' fun e w''=>e=.returned (.bool (seenB (kn.getD h.num []) m.time s))/\Below w'.heap.size w' w''):=fun w' m tb tc s hw hx hms=>by
  obtain⟨-, -, -,hlen, -⟩:=hl _ hx;have p':=p.below hw;obtain⟨tb',tc',e,hc⟩:=qgb p' (by omega) hx hlen;injection e with e1 e2 e3;injection e1 with e1;injection e1 with e1;subst e1;exact qql p' hn hnum m tb tc s hms hlen hc
 have HW:Hid (∀w' (m:Codec.Msg) (tb tc s:Nat),Below w.heap.size w w'->s<h.n->m.sender=s->m.seq<=20->Calls prog 273 #[sT cb h.n cc,msgV m (sT tb h.n tc)] w' fun e w''=>e=.returned (.bool true)/\Below w'.heap.size w' w''):=fun w' m tb tc s hw hs hms hq=>by
  have:=qll (w:=w') cb h.n cc m (some ⟨tb,0,none⟩) h.n tc s 20 hs hms ((hw.cell (p:=(aT cb s)) hcb).trans (hcut s hs));rw[decide_eq_true hq] at this;exact this
 have HX:=BlkAt.new w w.heap.size rfl 179 #[J 0,J 0,sN,.string ⟨#[]⟩];have HXX:Hid (∀w',Below (w.heap.size+1) (w.alloc (.cells #[J 0,J 0,sN,.string ⟨#[]⟩] 179)) w'->Below w.heap.size w w'/\BlkAt w' w.heap.size 179 #[J 0,J 0,sN,.string ⟨#[]⟩]):=fun w' hw=>⟨((yi _ _).alloc (yb _) _).trans (hw.mono (by omega)),HX.below hw (by omega)⟩;have hX0:Hid (Below (w.heap.size+1) (w.alloc (.cells #[J 0,J 0,sN,.string ⟨#[]⟩] 179)) (w.alloc (.cells #[J 0,J 0,sN,.string ⟨#[]⟩] 179))):=yi _ _;have hs1:Hid ((w.alloc (.cells #[J 0,J 0,sN,.string ⟨#[]⟩] 179)).heap.size=w.heap.size+1):=by simp[Hid]
 have HROW:Hid (∀q,q<h.n->0<=(kn.getD h.num []).getD q 0/\(kn.getD h.num []).getD q 0<=20):=hrow;have HL:Hid (Held h.n l):=hl;have HAP:Hid (qrj l):=p.apart;clear p hbr hr hcut HX hrow hl;go_enter Tryz.func301,Tryz.ntmps301
 go_wp2_with fail
 generalize w.alloc (.cells #[J 0,J 0,sN,.string ⟨#[]⟩] 179)=w1 at HXX hX0 hs1 ⊢;refine(HR.out w1 (HXX.out w1 hX0.out).1).mono ?_;rintro e w2 ⟨rfl,hb2, -⟩;have hB2:Hid (Below (w.heap.size+1) w1 w2):=hb2.mono (by rw[hs1.out];omega);clear hb2;go_wp2_with fail
 go_loopw [13] (fun i wr=>∃k:Nat,k<=h.n/\i=J k/\(∀x∈l,x.1.sender.toNat<k->¬CanD (kn.getD h.num []) x.1)/\Below (w.heap.size+1) w1 wr) (fun i _=>h.n - (intOf i).toNat)
 case atStart=>exact⟨0,by omega,rfl,fun x _ hq=>absurd hq (by omega),hB2.out⟩
 case round=>
  obtain⟨k,hk,rfl,hall,hbel⟩:=hrel;have HBL:Hid (Below (w.heap.size+1) w1 wr):=hbel;obtain⟨hw,hx4⟩:=HXX.out wr hbel;have HBW:Hid (Below w.heap.size w wr):=hw;have HX4:Hid (BlkAt wr w.heap.size 179 #[J 0,J 0,sN,.string ⟨#[]⟩]):=hx4;have HALL:Hid (∀x∈l,x.1.sender.toNat<k->¬CanD (kn.getD h.num []) x.1):=hall;by_cases hlt:k<h.n
  ·obtain⟨c15,crow⟩:=HC.out wr hw;have cr:=crow k hlt;have hlt1:(k:Int)<(h.n:Int):=by omega
   have hk0:(0:Int)<=(k:Int):=by omega
   have hb:=HROW.out k hlt;have HXR:Hid (∀x∈l,x.1.sender.toNat=k->CanD (kn.getD h.num []) x.1->isK k ((kn.getD h.num []).getD k 0+1) x.1=true):=fun x hx hxk hcd=>by
    obtain⟨s, -,hs, -⟩:=HL.out x hx;rw[qag];refine⟨by omega,?_⟩;have:=hcd.1;rw[hxk] at this;exact this
   have HXR2:Hid (∀x∈l,isK k ((kn.getD h.num []).getD k 0+1) x.1=true->x.1.seq=(kn.getD h.num []).getD x.1.sender.toNat 0+1):=fun x hx hxk=>by
    rw[qag] at hxk;rw[hxk.1,hxk.2];rfl
   have hwr:wrap64 ((kn.getD h.num []).getD k 0+1)=(kn.getD h.num []).getD k 0+1:=by
    unfold wrap64;omega
   by_cases hno:∀x∈l,isK k ((kn.getD h.num []).getD k 0+1) x.1=false
   ·have hlook:=HNO.out wr k ((kn.getD h.num []).getD k 0+1) hw hno;have HNEXT:Hid (∀x∈l,x.1.sender.toNat<k+1->¬CanD (kn.getD h.num []) x.1):=fun x hx hxk hcd=>by
     rcases yaS.1 hxk with hxk|hxk
     ·exact HALL.out x hx hxk hcd
     ·have:=HXR.out x hx hxk hcd;rw[hno x hx] at this;cases this
    clear hall hbel hw hx4 crow hb hno HXR HXR2;generalize (kn.getD h.num []).getD k 0=y at cr hwr hlook;go_wp2_with fail
    refine⟨⟨k+1,by omega,by go_num,HNEXT.out,HBL.out.alloc (by have:=HBL.out.size;rw[hs1.out] at this;exact this) _⟩,by simp[intOf];omega⟩
   ·obtain⟨x,hx⟩:=Classical.not_forall.1 hno;obtain⟨hxl,hxk0⟩:=Classical.not_imp.1 hx;have hxk:=Bool.of_not_eq_false hxk0;clear hxk0;obtain⟨tb,tc,hxv⟩:=HT.out x hxl;obtain⟨xm,xv⟩:=x;simp only at hxv hxk;subst hxv;have hlook:=HYES.out wr k ((kn.getD h.num []).getD k 0+1) _ hw hxl hxk;simp only at hlook;have hxs:xm.sender=(k:Int):=(qag.1 hxk).1;have hq20:xm.seq<=20:=by obtain⟨s, -, -, -, -,hq⟩:=HL.out _ hxl;exact hq
    have hXM:Hid (xm.seq=(kn.getD h.num []).getD xm.sender.toNat 0+1):=HXR2.out _ hxl hxk;have HNEXT:Hid (seenB (kn.getD h.num []) xm.time k=false->∀x∈l,x.1.sender.toNat<k+1->¬CanD (kn.getD h.num []) x.1):=fun hsb x hx hxk' hcd=>by
     rcases yaS.1 hxk' with hxk'|hxk'
     ·exact HALL.out x hx hxk' hcd
     ·have hk2:=HXR.out x hx hxk' hcd;have hk3:x.1.time=xm.time:=by
       by_cases e:x=(xm,sT tb h.n tc)
       ·rw[e]
       ·exfalso
        have ha:=HAP.out;have h1:=qag.1 hk2;have h2:=qag.1 hxk;exact qo1 ha hx hxl e (by rw[qag];exact⟨h2.1.trans h1.1.symm,h2.2.trans h1.2.symm⟩)
      have:=hcd.2;rw[hxk',hk3,hsb] at this;cases this
    have HYS:Hid (seenB (kn.getD h.num []) xm.time k=true->CanD (kn.getD h.num []) xm):=fun hsb=>⟨hXM.out,by rw[hxs];exact hsb⟩;have HSN:Hid (∀w',Below w.heap.size w w'->Calls prog 304 #[pT b 0,msgV xm (sT tb h.n tc)] w' fun e w''=>e=.returned (.bool (seenB (kn.getD h.num []) xm.time k))/\Below w'.heap.size w' w''):=fun w' hw=>HSEEN.out w' xm tb tc k hw hxl hxs;have HWI:Hid (∀w',Below w.heap.size w w'->Calls prog 273 #[sT cb h.n cc,msgV xm (sT tb h.n tc)] w' fun e w''=>e=.returned (.bool true)/\Below w'.heap.size w' w''):=fun w' hw=>HW.out w' xm tb tc k hw hlt hxs hq20;have HXL:Hid ((xm,Value.slice (some ⟨tb,0,none⟩) h.n tc)∈l):=hxl;have hsz:Hid (w.heap.size+1<=wr.heap.size):=by have:=HBL.out.size;rw[hs1.out] at this;exact this
    clear hall hbel hw hx4 crow hb hno HXR HXR2 HW HSEEN HT HALL hxl hxk hx HYES HNO HC HROW HL hxs hq20 hXM;generalize (kn.getD h.num []).getD k 0=y at cr hwr hlook;generalize seenB (kn.getD h.num []) xm.time k=sb at HNEXT HYS HSN;unfold msgV at hlook HSN HWI;go_wp2_with fail
    have hB3:Hid (Below (w.heap.size+1) w1 (wr.alloc (.cells #[J xm.sender,J xm.seq,sT tb h.n tc,.string xm.text] 179))):=HBL.out.alloc hsz.out _;have HX8:Hid (BlkAt (wr.alloc (.cells #[J xm.sender,J xm.seq,sT tb h.n tc,.string xm.text] 179)) wr.heap.size 179 #[J xm.sender,J xm.seq,sT tb h.n tc,.string xm.text]):=BlkAt.new wr wr.heap.size rfl 179 _;have hB8:Hid (Below (wr.heap.size+1) (wr.alloc (.cells #[J xm.sender,J xm.seq,sT tb h.n tc,.string xm.text] 179)) (wr.alloc (.cells #[J xm.sender,J xm.seq,sT tb h.n tc,.string xm.text] 179))):=yi _ _;have hs3:Hid ((wr.alloc (.cells #[J xm.sender,J xm.seq,sT tb h.n tc,.string xm.text] 179)).heap.size=wr.heap.size+1):=by simp[Hid]
    generalize wr.alloc (.cells #[J xm.sender,J xm.seq,sT tb h.n tc,.string xm.text] 179)=w3 at hB3 HX8 hB8 hs3 ⊢;refine(HWI.out _ (HXX.out _ hB3.out).1).mono ?_;rintro e w4 ⟨rfl,hb4⟩;have hB4:Hid (Below (w.heap.size+1) w1 w4):=hB3.out.trans (hb4.mono (by have:=hs3.out;have:=hsz.out;omega));have HX84:Hid (BlkAt w4 wr.heap.size 179 #[J xm.sender,J xm.seq,sT tb h.n tc,.string xm.text]):=HX8.out.below hb4 (by rw[hs3.out];omega);have hs4:Hid (wr.heap.size+1<=w4.heap.size):=by have:=hb4.size;rw[hs3.out] at this;exact this
    have d0:=HX84.out.cell 0 _ rfl;have d1:=HX84.out.cell 1 _ rfl;have d2:=HX84.out.cell 2 _ rfl;have d3:=HX84.out.cell 3 _ rfl;simp only[yf,yd,ye] at d0 d1 d2 d3;clear hb4;go_wp2_with fail
    refine(HSN.out _ (HXX.out _ hB4.out).1).mono ?_;rintro e w5 ⟨rfl,hb5⟩;have hB5:Hid (Below (w.heap.size+1) w1 w5):=hB4.out.trans (hb5.mono (by have:=hs4.out;have:=hsz.out;omega));have HX85:Hid (BlkAt w5 wr.heap.size 179 #[J xm.sender,J xm.seq,sT tb h.n tc,.string xm.text]):=HX84.out.below hb5 (by have:=hs4.out;omega);clear d0 d1 d2 d3;have d0:=HX85.out.cell 0 _ rfl;have d1:=HX85.out.cell 1 _ rfl;have d2:=HX85.out.cell 2 _ rfl;have d3:=HX85.out.cell 3 _ rfl;have HX4:Hid (BlkAt w5 w.heap.size 179 #[J 0,J 0,sN,.string ⟨#[]⟩]):=(HXX.out _ hB5.out).2;have f0:=HX4.out.frozen 0;have f1:=HX4.out.frozen 1;have f2:=HX4.out.frozen 2;have f3:=HX4.out.frozen 3;have z0:=HX4.out.cell 0 _ rfl;have z1:=HX4.out.cell 1 _ rfl;have z2:=HX4.out.cell 2 _ rfl;have z3:=HX4.out.cell 3 _ rfl;simp only[yf,yd,ye] at d0 d1 d2 d3 z0 z1 z2 z3;have hBW5:Hid (Below w.heap.size w w5):=(HXX.out _ hB5.out).1;clear hb5;cases sb with
    | false =>
      go_wp2_with fail
      refine⟨⟨k+1,by omega,by go_num,HNEXT.out trivial,hB5.out⟩,by simp[intOf];omega⟩
    | true =>
      go_wp2_with fail
      obtain⟨hS4,hO4⟩:=store4 HX4.out (J xm.sender) (J xm.seq) (sT tb h.n tc) (.string xm.text);generalize ((((w5.setCell ⟨w.heap.size,0,none⟩ (J xm.sender)).setCell ⟨w.heap.size,1,none⟩ (J xm.seq)).setCell ⟨w.heap.size,2,none⟩ (sT tb h.n tc)).setCell ⟨w.heap.size,3,none⟩ (.string xm.text))=w6 at hS4 hO4 ⊢;have e0:=hS4.cell 0 _ rfl;have e1:=hS4.cell 1 _ rfl;have e2:=hS4.cell 2 _ rfl;have e3:=hS4.cell 3 _ rfl;simp only[yf,yd,ye] at e0 e1 e2 e3
      (try simp only[Exit.inBlock,Exit.then])
      refine bodyPost_ret (v:=.tuple #[.agg #[J xm.sender,J xm.seq,sT tb h.n tc,.string xm.text],.bool true]) (by simp[results,Tryz.results301,go_sem,e0,e1,e2,e3]) rfl ?_;exact⟨hBW5.out.trans (hO4.below (yb _)),.inl ⟨_,HXL.out,rfl,HYS.out trivial⟩⟩
  ·have hx:k=h.n:=by omega
   have hge:¬(k:Int)<(h.n:Int):=by omega
   have HE:Hid (∀x∈l,¬CanD (kn.getD h.num []) x.1):=fun x hx2 hcd=>by
    obtain⟨s,hs,hsx, -⟩:=HL.out x hx2;exact HALL.out x hx2 (by omega) hcd
   clear hall hbel hw hx4 HC HNO HYES HSEEN HW HT HALL HROW HL;have f0:=HX4.out.frozen 0;have f1:=HX4.out.frozen 1;have f2:=HX4.out.frozen 2;have f3:=HX4.out.frozen 3;have z0:=HX4.out.cell 0 _ rfl;have z1:=HX4.out.cell 1 _ rfl;have z2:=HX4.out.cell 2 _ rfl;have z3:=HX4.out.cell 3 _ rfl;simp only[yf,yd,ye] at z0 z1 z2 z3;go_wp2_with fail
   obtain⟨hS4,hO4⟩:=store4 HX4.out (J 0) (J 0) (sN) (.string ⟨#[]⟩);generalize ((((wr.setCell ⟨w.heap.size,0,none⟩ (J 0)).setCell ⟨w.heap.size,1,none⟩ (J 0)).setCell ⟨w.heap.size,2,none⟩ (sN)).setCell ⟨w.heap.size,3,none⟩ (.string ⟨#[]⟩))=w6 at hS4 hO4 ⊢;have e0:=hS4.cell 0 _ rfl;have e1:=hS4.cell 1 _ rfl;have e2:=hS4.cell 2 _ rfl;have e3:=hS4.cell 3 _ rfl;simp only[yf,yd,ye] at e0 e1 e2 e3
   (try simp only[Exit.inBlock,Exit.then])
   refine bodyPost_ret (v:=.tuple #[.agg #[J 0,J 0,sN,.string ⟨#[]⟩],.bool false]) (by simp[results,Tryz.results301,go_sem,e0,e1,e2,e3]) rfl ?_;exact⟨HBW.out.trans (hO4.below (yb _)),.inr ⟨rfl,fun a v hx=>HE.out (a,v) hx⟩⟩
end
end Go.Proofs.YtoklolfaemhfnaaGreatDoor

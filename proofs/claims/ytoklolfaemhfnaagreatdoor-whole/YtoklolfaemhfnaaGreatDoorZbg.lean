import Derived.Test.YtoklolfaemhfnaaGreatDoorZbd
import Derived.Test.YtoklolfaemhfnaaGreatDoorZbf
set_option maxRecDepth 100000
set_option maxHeartbeats 8000000
open Go.Proofs.Tryz (prog)
namespace Go.Proofs.YtoklolfaemhfnaaGreatDoor
section
open Go.RowKit
open Go.ChangeMaps (setBlock)
theorem qo3(n:Nat)(hn:n<=6)(w:World):Calls prog 306 #[.int .u64 1,.int .u64 n] w fun e w'=>e=.returned (.tuple #[.int .u64 0,.int .u64 n])/\w'=w:=by
 have hcs:n=0\/n=1\/n=2\/n=3\/n=4\/n=5\/n=6:=by omega
 rcases hcs with rfl|rfl|rfl|rfl|rfl|rfl|rfl <;>
 ·go_enter Tryz.func306,Tryz.ntmps306
  go_wp2
  go_ret2
  exact⟨rfl,rfl⟩
theorem qq8(n:Nat)(hn:n<=6)(w:World):Calls prog 302 #[.int .u64 1,.int .u64 n] w fun e w'=>e=.returned (.tuple #[.int .u64 0,.int .u64 n])/\w'=w:=by
 go_enter Tryz.func302,Tryz.ntmps302
 go_wp2_with fail
 refine(qo3 n hn w).mono ?_;rintro e w2 ⟨rfl,rfl⟩;go_wp2_with fail
 go_ret2
 exact⟨rfl,rfl⟩
def qro(k n:Nat):List Value:=List.replicate k (J 20)++List.replicate (n - k) (J 0)
theorem qhb{k n:Nat}(m:Nat):splice (qro k n) k (List.replicate m (J 20))=qro (k+m) n:=by
 unfold splice qro;rw[List.take_left' (by simp),yaQ,List.drop_append,yaQ,show k+m - k=m by omega,ybg (by simp:(List.replicate k (Value.int .i64 20)).length<=k+m),List.nil_append,List.drop_replicate,show n - k - m=n - (k+m) by omega,<-yav,List.replicate_append_replicate]
theorem qih(w w0:World)(B g k n m:Nat)(src:Addr)(sLen sCap dCap:Nat)(hg:w.heap[g]?=some (.cells (qro k n).toArray 3 (0,0)))(hk:k<=n)(hm:m=Nat.min sLen (n - k))(hsrc:∀j,j<m->w.cell? (src.add j)=some (J 20))(hb:Below B w0 w)(hBg:B<=g) :
 ∃w',(Builtin.copy_ #[69,69] 3 #[.slice (some ⟨g,k,none⟩) (n - k) dCap,.slice (some src) sLen sCap]).run prog w=.ok (J m) w'/\w'.heap[g]?=some (.cells (qro (k+m) n).toArray 3 (0,0))/\Below B w0 w':=by
 have hsz3:(prog.info? 3).map (·.size)=some 1:=by kernel_rfl
 have hmk:k+m<=n:=by have:Nat.min sLen (n - k)<=n - k:=Nat.min_le_right _ _;omega
 have hl:(qro k n).length=n:=by simp[qro];omega
 have hrun:=run_copy_row (P:=prog) w 69 69 3 3 g k (n - k) dCap src sLen sCap (qro k n).toArray 3 (List.replicate m (J 20)) Tryz.underlying69 hsz3 hg (by rw[yaQ];exact hm) (fun j v hj=>by
  have hlt:j<m:=by have:=(ym.1 hj).1;simpa using this
  rw[yaW,if_pos hlt] at hj;injection hj with hj;rw[<-hj];exact hsrc j hlt) (by simp[hl];omega) (by intro v hv;rw[List.eq_of_mem_replicate hv];rfl)
 have h2:=qhb (k:=k) (n:=n) m;unfold splice at h2;rw[yaQ] at hrun h2;have e:(qro k n).toArray.toList.take k++List.replicate m (Value.int .i64 20)++(qro k n).toArray.toList.drop (k+m)=qro (k+m) n:=by simpa using h2
 rw[e] at hrun;exact⟨_,hrun,setRow_heap w g _ _ 3 _ hg,below_setRow hb hBg _⟩
theorem qm6(n xb xc:Nat)(hn:n<=6)(hn0:0<n)(w:World)(hx:w.cell? (aT xb 0)=some (J 20)) :
 Calls prog 288 #[sT xb 1 xc,J n] w fun e w'=>∃g,w.heap.size<=g/\e=.returned (sT g n n)/\Below w.heap.size w w'/\∀q,q<n->w'.cell? (aT g q)=some (J 20):=by
 have hxb:xb<w.heap.size:=yI w _ hx;have hn0':¬(n:Int)<0:=by omega
 have hm:=qq8 n hn w;go_enter Tryz.func288,Tryz.ntmps288
 go_wp2_with fail
 refine hm.mono ?_;rintro e w2 ⟨rfl,rfl⟩;have hbig:¬(9223372036854775807:Int)<(n:Int):=by omega
 have hmk:=qm5 n hn w2;have hz:Hid ((w2.alloc (.cells (ints (List.replicate n 0)).toArray 3)).heap[w2.heap.size]?=some (.cells (qro 0 n).toArray 3 (0,0))):=by
  have:=BlkAt.new w2 w2.heap.size rfl 3 (ints (List.replicate n 0)).toArray;unfold BlkAt at this;rw[Hid,this];simp[qro,ints]
 have hx2:Hid ((w2.alloc (.cells (ints (List.replicate n 0)).toArray 3)).cell? (aT xb 0)=some (J 20)):=(yax _ _ _ hxb).trans hx;have hB0:Hid (Below w2.heap.size w2 (w2.alloc (.cells (ints (List.replicate n 0)).toArray 3))):=(yi _ _).alloc (yb _) _;obtain⟨w3,hcp,hg3,hb3⟩:=qih _ w2 w2.heap.size w2.heap.size 0 n 1 ⟨xb,0,none⟩ 1 xc n hz.out (yaA _) (by show 1=min 1 (n - 0);omega) (fun j hj=>by obtain rfl:j=0:=(by omega);exact hx2.out) hB0.out (yb _);simp only[Nat.sub_zero,yS] at hcp hg3;have HG3:Hid (w3.heap[w2.heap.size]?=some (.cells (qro 1 n).toArray 3 (0,0))):=hg3;have HB3:Hid (Below w2.heap.size w2 w3):=hb3;clear hm hx hg3 hb3 hz hx2 hB0;go_wp2_with fail
 go_loopw [8] (fun i wr=>∃k:Nat,1<=k/\k<=n/\i=J k/\wr.heap[w2.heap.size]?=some (.cells (qro k n).toArray 3 (0,0))/\Below w2.heap.size w2 wr) (fun i _=>n - (intOf i).toNat)
 case atStart=>exact⟨1,by omega,by omega,rfl,HG3.out,HB3.out⟩
 case round=>
  obtain⟨k,hk1,hk,rfl,hg,hb⟩:=hrel;have HG:Hid (wr.heap[w2.heap.size]?=some (.cells (qro k n).toArray 3 (0,0))):=hg;have HB:Hid (Below w2.heap.size w2 wr):=hb;clear hg hb;by_cases hlt:k<n
  ·have hlt1:(k:Int)<(n:Int):=by omega
   have hk0:(0:Int)<=(k:Int):=by omega
   have hkn:(k:Int)<=(n:Int):=by omega
   obtain⟨w4,hcp4,hg4,hb4⟩:=qih wr.drew w2 w2.heap.size w2.heap.size k n (Nat.min k (n - k)) (aT w2.heap.size 0) k n (n - k) HG.out hk rfl (fun j hj=>by
    have hadd:(⟨w2.heap.size,0,none⟩:Addr).add j=(aT w2.heap.size j):=by unfold Addr.add;split <;> simp_all
    have hjk:j<k:=yg hj (Nat.min_le_left _ _);rw[hadd];show wr.cell? _=_;rw[cell_of_row wr _ j _ 3 (0,0) HG.out];unfold qro;rw[ya7,y7 (by simpa using hjk),yaW,if_pos hjk]) HB.out.drew (yb _)
   have HG4:Hid (w4.heap[w2.heap.size]?=some (.cells (qro (k+Nat.min k (n - k)) n).toArray 3 (0,0))):=hg4;have HB4:Hid (Below w2.heap.size w2 w4):=hb4;have hmn:Hid (1<=Nat.min k (n - k)/\Nat.min k (n - k)<=n - k):=⟨by show 1<=min k (n - k);omega,Nat.min_le_right _ _⟩;generalize Nat.min k (n - k)=m at hcp4 HG4 hmn;clear hg4 hb4;have hnk:¬n=k:=by omega
   go_wp2_with fail
   refine wp_region_held_drew (S:=fun _=>True) rfl trivial (fun hHeld=>?_);refine wk 0 ?_;refine wk 1 ?_;refine wk 2 ?_;refine wk 3 ?_;refine wk 4 ?_;refine wk 5 ?_;refine wk 6 ?_;refine we 7 fun K hK=>?_;go_simp;refine hK.out _ _ trivial (fun hHeld=>?_);clear hK K;try simp only[pU]
   refine wk 8 ?_;refine wk 9 ?_;refine wpAnyH_done (by kernel_rfl) ?_ _;go_wp2_with fail
   have hmm:=hmn.out;have hwrap:IntKind.i64.wrap ((k:Int)+(m:Int))=((k+m:Nat):Int):=by rw[yat];omega
   rw[hwrap];exact⟨⟨k+m,by omega,by omega,rfl,HG4.out,HB4.out⟩,by simp[intOf];omega⟩
  ·have hge:¬(k:Int)<(n:Int):=by omega
   have hkn:k=n:=by omega
   go_wp2_with fail
   go_ret;refine⟨w2.heap.size,yb _,rfl,HB.out,fun q hq=>?_⟩;rw[cell_of_row wr _ q _ 3 (0,0) HG.out];simp[qro,hkn,hq]
variable {w w':World}{F:Nat->Prop}{b:Nat}{h:Hd}{kn:List (List Int)}{l:Msgs}{evs:List Ev}{snt:List Par}{kb mb:Nat}{rbs:List Nat}{es:Array MapEntry}{clk:Nat}{ev sv:Value}
theorem qhc(hc:CalmHd h)(p:PA w F b h kn l evs snt kb mb rbs es clk ev sv)(hF:∀x,F x->x<w.heap.size)(hl:Held h.n l)(hrow:RowOk h.n (kn.getD h.num []))(C:Nat)(hC:evs.length+room (kn.getD h.num [])=C)(hC2:C<=1000000) :
 Calls prog 255 #[pT b 0] w fun e w'=>e=.returned (.tuple #[])/\∃kn' l' evs' es' ev',DelivTo w F b h kn l evs snt kb mb rbs clk sv C w' kn' l' evs' es' ev'/\Mo.Stuck h.n h.num (mp kn' (l'.map Prod.fst) evs'):=by
 have hB:Below w.heap.size w (w.alloc (.cells #[J 20] 3)):=(yi _ _).alloc (yb _) _;have c1:=(p.blk.below hB p.blk.lt).cell 1 _ rfl;simp only[Hd.cells,yf,yd,ye] at c1;have hn0:0<h.n:=Nat.lt_of_le_of_lt (yaA _) hc.num;have HR:=qm6 h.n w.heap.size 1 hc.n1 hn0 (w.alloc (.cells #[J 20] 3)) ((BlkAt.new w w.heap.size rfl 3 #[J 20]).cell 0 _ rfl);have HR':Hid (Calls prog 288 _ _ _):=HR;have HD:Hid (∀w' g cc,Below w.heap.size w w'->w.heap.size<=g->(∀q,q<h.n->w'.cell? (aT g q)=some (J 20))->Calls prog 287 #[pT b 0,sT g h.n cc] w' fun e w'=>e=.returned (.tuple #[])/\∃kn' l' evs' es' ev',DelivTo w F b h kn l evs snt kb mb rbs clk sv C w' kn' l' evs' es' ev'/\Mo.Stuck h.n h.num (mp kn' (l'.map Prod.fst) evs')):=fun w' g cc hb hg hcut=>by
  refine(qd8 hc (p.below hb) hl hrow g cc (fun hx=>by have:=hF g hx;omega) hcut C hC hC2).mono ?_;rintro e w2 ⟨rfl,kn',l',evs',es',ev',d,hs⟩;refine⟨rfl,kn',l',evs',es',ev',⟨d.pa.wide fun x hx=>hx.elim .inl fun hx=>.inr (by have:=hb.size;omega),(Chg.of_below hb).trans (d.chg.mono fun x _ hx=>.inl hx),d.dl,d.held,d.row,d.bound⟩,hs⟩
 clear p hl hrow hC HR hc;go_enter Tryz.func255,Tryz.ntmps255
 go_wp2_with fail
 refine HR'.out.mono ?_;rintro e w2 ⟨g,hg,rfl,hb2,hcut⟩;have hd:=HD.out w2 g h.n (hB.trans (hb2.mono (by simp))) (by have:=hg;simp at this;omega) hcut;clear hcut HR' HD;go_wp2_with fail
 refine hd.mono ?_;rintro e w3 ⟨rfl,hres⟩;have HRES:Hid (∃kn' l' evs' es' ev',DelivTo w F b h kn l evs snt kb mb rbs clk sv C w3 kn' l' evs' es' ev'/\Mo.Stuck h.n h.num (mp kn' (l'.map Prod.fst) evs')):=hres;clear hd hres;go_wp2_with fail
 go_end0
 exact⟨rfl,HRES.out⟩
end
section
open Go.RowKit
open Go.ChangeMaps (setBlock)
variable {w w':World}{F:Nat->Prop}{b:Nat}{h:Hd}{kn:List (List Int)}{l:Msgs}{evs:List Ev}{snt:List Par}{kb mb:Nat}{rbs:List Nat}{es:Array MapEntry}{clk:Nat}{ev sv:Value}
theorem qii{l:Msgs}:qrj l↔Mo.Apart (l.map Prod.fst):=by
 unfold qrj Mo.Apart;rw[List.pairwise_map];constructor
 ·intro hp;refine hp.imp fun {x y} hxy e=>?_;rw[<-yaV,qag] at hxy;exact hxy ⟨e.1.symm,e.2.symm⟩
 ·intro hp;refine hp.imp fun {x y} hxy=>?_;rw[<-yaV,qag];exact fun e=>hxy ⟨e.1.symm,e.2.symm⟩
theorem PA.klen(p:PA w F b h kn l evs snt kb mb rbs es clk ev sv):kn.length=h.n:=p.known.klen
theorem PA.rlen(p:PA w F b h kn l evs snt kb mb rbs es clk ev sv):∀r∈kn,r.length=h.n:=fun r hr=>by
 obtain⟨q,hq,rfl⟩:=y4 hr;have hq':q<rbs.length:=by rw[p.known.len,<-p.klen];exact hq
 exact(p.known.rows q _ _ (yh hq') (yh hq)).1
theorem qqm(hc:CalmHd h)(p:PA w F b h kn l evs snt kb mb rbs es clk ev sv)(m:Codec.Msg)(ao:Option Addr)(tn tc:Nat)(s:Nat)(hs:s<h.n)(hms:m.sender=s)(ht:Row w F 3 1 (.slice ao tn tc) m.time.length (ints m.time))(hta:∀g,(Value.slice ao tn tc).ownBlock=some g->g ∉ rbs) :
 Calls prog 254 #[pT b 0,msgV m (.slice ao tn tc)] w fun e w'=>e=.returned (.tuple #[])/\Chg F w w'/\∃l' es' clk',PA w' F b h kn l' evs snt kb mb rbs es' clk' ev sv/\Mo.Hold h.n m (mp kn (l.map Prod.fst) evs) (mp kn (l'.map Prod.fst) evs)/\∀x∈l',x∈l\/x.1=m:=by
 have hsn:m.sender.toNat=s:=by rw[hms];rfl
 by_cases hpre:∃x∈l,isK m.sender m.seq x.1=true
 ·obtain⟨x,hx,hxk⟩:=hpre;refine(qoz p m ao tn tc x hx hxk).mono ?_;rintro e w' ⟨rfl,hb⟩;refine⟨rfl,Chg.of_below hb,l,es,clk,p.below hb,⟨fun _ _ _ _=>rfl,fun y=>?_,rfl,id⟩,fun y hy=>.inl hy⟩;refine⟨.inl,fun hor=>hor.elim id fun hy=>?_⟩;have h2:=qag.1 hxk;exact absurd h2 (hy.2.2 x.1 (yaC hx))
 ·have hno:∀x∈l,isK m.sender m.seq x.1=false:=fun x hx=>by
   rw[<-yaV];exact fun e=>hpre ⟨x,hx,e⟩
  cases hst:stableB h.members kn s m.seq with
  | true =>
    refine(qjs p hc.n1 m ao tn tc s hs hms hno hst).mono ?_;rintro e w' ⟨rfl,hb⟩;refine⟨rfl,Chg.of_below hb,l,es,clk,p.below hb,⟨fun _ _ _ _=>rfl,fun y=>?_,rfl,id⟩,fun y hy=>.inl hy⟩;refine⟨.inl,fun hor=>hor.elim id fun hy=>?_⟩;have hu:=(qaa hc.n1 p.klen m).2 hy.2.1;unfold notStable at hu;rw[hsn,<-hc.members,hst] at hu;cases hu
  | false =>
    have hhas:hasB h.members s=true:=by rw[hc.members];exact qc9 h.n (by have:=hc.n1;omega) s hs
    refine(qo0 p hc.n1 m ao tn tc s hs hms hno hst hhas ht hta).mono ?_;rintro e w' ⟨rfl,hg,es',p'⟩;have hun:Mo.uns h.n (Kn kn) m:=(qaa hc.n1 p.klen m).1 (by unfold notStable;rw[hsn,<-hc.members,hst];rfl);refine⟨rfl,Chg.of_grown hg (fun x hx=>by injection hx with hx;subst hx;exact p.fm),_,es',_,p',⟨fun _ _ _ _=>rfl,fun y=>?_,rfl,fun _=>qii.1 p'.apart⟩,fun y hy=>?_⟩
    ·show y∈List.map _ _↔_;rw[y8,yz];constructor
     ·rintro(hy|hy)
      ·exact .inl hy
      ·rw[yN,yaK,yu] at hy;refine .inr ⟨hy,hun,fun z hz e=>?_⟩;obtain⟨x,hx,rfl⟩:=yW.1 hz;have:=hno x hx;rw[<-yaV,qag] at this;exact this e
     ·rintro(hy|hy)
      ·exact .inl hy
      ·exact .inr (by rw[hy.1];simp)
    ·rcases yz.1 hy with hy|hy
     ·exact .inl hy
     ·rw[yu] at hy;exact .inr (by rw[hy])
structure Ok (h:Hd) (kn:List (List Int)) (ms:List Codec.Msg) (evs:List Ev):Prop where
 held:∀m∈ms,∃s:Nat,s<h.n/\m.sender=s/\m.time.length=h.n/\0<=m.seq/\m.seq<=20
 row:RowOk h.n (kn.getD h.num [])
 bound:evs.length+room (kn.getD h.num [])<=1000
theorem Ok.lists{ms:List Codec.Msg}(o:Ok h kn ms evs)(hl:l.map Prod.fst=ms):Held h.n l:=fun x hx=>o.held x.1 (by rw[<-hl];exact yaC hx)
def From(F:Nat->Prop)(base:Nat):Nat->Prop:=fun x=>F x\/base<=x
theorem qdz{kn:List (List Int)}{q j:Nat}(hne:j≠q)(r:List Int):(kn.set q r).getD j []=kn.getD j []:=by
 rw[yj,yao (fun e=>hne e.symm),<-yj]
def frV(f:Codec.Frame)(rv cv mv:Value):Value:=.agg #[J f.kind,J f.src,J f.dst,J f.members,J f.view,J f.ballot,J f.voted,rv,cv,mv]
theorem qks(hc:CalmHd h)(p:PA w F b h kn l evs snt kb mb rbs es clk ev sv)(o:Ok h kn (l.map Prod.fst) evs)(q:Nat)(hq:q<h.n)(hqj:q≠h.num)(row:List Int)(g cap:Nat)(hg:¬F g)(hrow:∀j,j<h.n->w.cell? ⟨g,0+j,none⟩=some (J (row.getD j 0))) :
 Calls prog 253 #[pT b 0,J q,sT g h.n cap] w fun e w'=>e=.returned (.tuple #[])/\Chg F w w'/\∃kn' l' es',PA w' F b h kn' l' evs snt kb mb rbs es' clk ev sv/\Mo.Learn h.n q row (mp kn (l.map Prod.fst) evs) (mp kn' (l'.map Prod.fst) evs)/\Ok h kn' (l'.map Prod.fst) evs:=by
 refine(qoy p hc.n1 (o.lists rfl).fits q hq row g 0 cap hg hrow).mono ?_;rintro e w' ⟨rfl,hch,es',p'⟩;refine⟨rfl,hch,_,_,es',p',?_,?_⟩
 ·rw[qu,hc.members];exact qow hc.n1 p.klen p.rlen hq row _ _
 ·rw[qu];refine⟨fun m hm=>o.held m (yM.1 hm).1,?_,?_⟩
  ·rw[qdz (Ne.symm hqj)];exact o.row
  ·rw[qdz (Ne.symm hqj)];exact o.bound
theorem qhd(hc:CalmHd h)(p:PA w F b h kn l evs snt kb mb rbs es clk ev sv)(hF:∀x,F x->x<w.heap.size)(o:Ok h kn (l.map Prod.fst) evs)(f:Codec.Frame)(q:Nat)(hq:q<h.n)(hqj:q≠h.num)(hsrc:f.src=q)(hbal:f.ballot=0)(hkind:f.kind=2)(g cap:Nat)(hg:¬F g)(hrow:∀j,j<h.n->w.cell? ⟨g,0+j,none⟩=some (J (f.row.getD j 0)))(co mo:Option Addr)(cn cc mn mc:Nat) :
 Calls prog 210 #[pT b 0,frV f (sT g h.n cap) (.slice co cn cc) (.slice mo mn mc)] w fun e w'=>e=.returned (.tuple #[])/\Chg F w w'/\∃kn' l' es',PA w' F b h kn' l' evs snt kb mb rbs es' clk ev sv/\Mo.Come h.n h.num q f (mp kn (l.map Prod.fst) evs) (mp kn' (l'.map Prod.fst) evs)/\Ok h kn' (l'.map Prod.fst) evs:=by
 obtain⟨fk,fs,fd,fm,fv,fb,fo,fr,fc,fg⟩:=f;simp only at hsrc hbal hrow hkind;subst hsrc hbal hkind;have hglt:g<w.heap.size:=yI w ⟨g,0+h.num,none⟩ (hrow h.num hc.num);have HB:Hid (Below w.heap.size w (w.alloc (.cells #[J 2,J q,J fd,J fm,J fv,J 0,J fo,sT g h.n cap,.slice co cn cc,.slice mo mn mc] 165))):=(yi _ _).alloc (yb _) _;have HX:BlkAt (w.alloc (.cells #[J 2,J q,J fd,J fm,J fv,J 0,J fo,sT g h.n cap,.slice co cn cc,.slice mo mn mc] 165)) w.heap.size 165 _:=BlkAt.new w w.heap.size rfl 165 _;have d1:=HX.cell 1 _ rfl;have d7:=HX.cell 7 _ rfl;have HD5:Hid (∀w',Chg F (w.alloc (.cells #[J 2,J q,J fd,J fm,J fv,J 0,J fo,sT g h.n cap,.slice co cn cc,.slice mo mn mc] 165)) w'->w'.cell? (aT w.heap.size 5)=some (J 0)):=fun w' hw=>(yq (a:=(aT w.heap.size 5)) (hw.block w.heap.size (by simp) (fun e=>by have:=hF _ e;omega))).trans (HX.cell 5 _ rfl);have HL:Hid (Calls prog 253 _ _ _):=qks hc (p.below HB.out) o q hq hqj fr g cap hg (fun j hj=>(HB.out.cell (p:=⟨g,0+j,none⟩) hglt).trans (hrow j hj));simp only[yf,yd,ye] at d1 d7;have HC9:Hid (∀w' kn' l' es',PA w' F b h kn' l' evs snt kb mb rbs es' clk ev sv->w'.cell? (aT b 9)=some (J 0)):=fun w' kn' l' es' p'=>by
  have:=p'.blk.cell 9 _ rfl;simp only[Hd.cells,yf,yd,ye,hc.promised] at this;exact this
 clear p hrow HX hc;unfold frV;go_enter Tryz.func210,Tryz.ntmps210
 go_wp2_with fail
 refine HL.out.mono ?_;rintro e w2 ⟨rfl,hch,kn',l',es',p',hle,ho⟩;have c9:=HC9.out _ _ _ _ p';have d5:=HD5.out _ hch;have HCH:Hid (Chg F w w2):=(Chg.of_below HB.out).trans (hch.mono fun x _ hx=>.inl hx);have HP:Hid (PA w2 F b h kn' l' evs snt kb mb rbs es' clk ev sv):=p';have HLE:Hid (Mo.Learn h.n q fr (mp kn (l.map Prod.fst) evs) (mp kn' (l'.map Prod.fst) evs)):=hle;have HO:Hid (Ok h kn' (l'.map Prod.fst) evs):=ho;clear hch p' hle ho HL HC9 HD5;go_wp2_with fail
 go_quiet (fail)
 go_wp2_with fail
 go_end0
 exact⟨rfl,⟨HCH.out.os,HCH.out.tape,HCH.out.output,HCH.out.size,HCH.out.block⟩,kn',l',es',HP.out.kept (fun _ _ _=>rfl),.gossip rfl HLE.out,HO.out⟩
theorem qjt(hc:CalmHd h)(p:PA w F b h kn l evs snt kb mb rbs es clk ev sv)(base:Nat)(hbase:base<=w.heap.size)(hF:∀x,F x->x<base)(o:Ok h kn (l.map Prod.fst) evs)(f:Codec.Frame)(q:Nat)(hq:q<h.n)(hqj:q≠h.num)(hsrc:f.src=q)(hkind:f.kind=1)(m:Codec.Msg)(hmsgs:f.msgs=[m])(g cap:Nat)(hg:base<=g)(hrow:∀j,j<h.n->w.cell? ⟨g,0+j,none⟩=some (J (f.row.getD j 0)))
 (s:Nat) (hs:s<h.n) (hms:m.sender=s) (hmt:m.time.length=h.n) (hm0:0<=m.seq) (hm20:m.seq<=20) (ao:Option Addr) (tn tc:Nat) (ht:Row w (fun x=>base<=x) 3 1 (.slice ao tn tc) m.time.length (ints m.time)) (g2 mc:Nat) (hg2:base<=g2) (e0:w.cell? (aT g2 0)=some (J m.sender)) (e1:w.cell? (aT g2 1)=some (J m.seq)) (e2:w.cell? (aT g2 2)=some (.slice ao tn tc)) (e3:w.cell? (aT g2 3)=some (.string m.text)) (co:Option Addr) (cn cc:Nat) :
 Calls prog 209 #[pT b 0,frV f (sT g h.n cap) (.slice co cn cc) (sT g2 1 mc)] w fun e w'=>e=.returned (.tuple #[])/\Chg (From F base) w w'/\∃kn' l' evs' es' clk' ev',PA w' (From F base) b h kn' l' evs' snt kb mb rbs es' clk' ev' sv/\Mo.Come h.n h.num q f (mp kn (l.map Prod.fst) evs) (mp kn' (l'.map Prod.fst) evs')/\Ok h kn' (l'.map Prod.fst) evs':=by
 obtain⟨fk,fs,fd,fm,fv,fb,fo,fr,fc,fg⟩:=f;simp only at hsrc hrow hkind hmsgs;obtain⟨ms,mq,mt,mx⟩:=m;simp only at hms hmt hm0 hm20 ht e0 e1 e3;subst hsrc hkind hmsgs hms;have hglt:g<w.heap.size:=yI w ⟨g,0+h.num,none⟩ (hrow h.num hc.num);have hg2lt:g2<w.heap.size:=yI w ⟨g2,0,none⟩ e0;have HB:Hid (Below w.heap.size w (w.alloc (.cells #[J 1,J q,J fd,J fm,J fv,J fb,J fo,sT g h.n cap,.slice co cn cc,sT g2 1 mc] 165))):=(yi _ _).alloc (yb _) _;have HX:BlkAt (w.alloc (.cells #[J 1,J q,J fd,J fm,J fv,J fb,J fo,sT g h.n cap,.slice co cn cc,sT g2 1 mc] 165)) w.heap.size 165 _:=BlkAt.new w w.heap.size rfl 165 _;have d1:=HX.cell 1 _ rfl;have d7:=HX.cell 7 _ rfl;have hsz1:(w.alloc (.cells #[J 1,J q,J fd,J fm,J fv,J fb,J fo,sT g h.n cap,.slice co cn cc,sT g2 1 mc] 165)).heap.size=w.heap.size+1:=by simp
 have HD9:Hid (∀w',Chg F (w.alloc (.cells #[J 1,J q,J fd,J fm,J fv,J fb,J fo,sT g h.n cap,.slice co cn cc,sT g2 1 mc] 165)) w'->w'.cell? (aT w.heap.size 9)=some (sT g2 1 mc)/\w'.cell? (aT g2 0)=some (J s)/\w'.cell? (aT g2 1)=some (J mq)/\w'.cell? (aT g2 2)=some (.slice ao tn tc)/\w'.cell? (aT g2 3)=some (.string mx)):=fun w' hw=>by
  have k2:w'.heap[g2]?=w.heap[g2]?:=(hw.block g2 (by rw[hsz1];omega) (fun e=>by have:=hF _ e;omega)).trans (HB.out.block g2 hg2lt);exact⟨(yq (a:=(aT w.heap.size 9)) (hw.block w.heap.size (by rw[hsz1];omega) (fun e=>by have:=hF _ e;omega))).trans (HX.cell 9 _ rfl),(yq (a:=(aT g2 0)) k2).trans e0,(yq (a:=(aT g2 1)) k2).trans e1,(yq (a:=(aT g2 2)) k2).trans e2,(yq (a:=(aT g2 3)) k2).trans e3⟩
 have HL:Hid (Calls prog 253 _ _ _):=qks hc (p.below HB.out) o q hq hqj fr g cap (fun e=>by have:=hF _ e;omega) (fun j hj=>(HB.out.cell (p:=⟨g,0+j,none⟩) hglt).trans (hrow j hj));simp only[yf,yd,ye] at d1 d7;have HH:Hid (∀w' kn' l' es',Chg F (w.alloc (.cells #[J 1,J q,J fd,J fm,J fv,J fb,J fo,sT g h.n cap,.slice co cn cc,sT g2 1 mc] 165)) w'->PA w' F b h kn' l' evs snt kb mb rbs es' clk ev sv->Ok h kn' (l'.map Prod.fst) evs->Calls prog 254 #[pT b 0,.agg #[J s,J mq,.slice ao tn tc,.string mx]] w' fun e w''=>e=.returned (.tuple #[])/\Chg (From F base) w w''/\∃l'' es'' clk'',PA w'' (fun x=>F x\/(base<=x/\x<w''.heap.size)) b h kn' l'' evs snt kb mb rbs es'' clk'' ev sv/\Mo.Hold h.n ⟨s,mq,mt,mx⟩ (mp kn' (l'.map Prod.fst) evs) (mp kn' (l''.map Prod.fst) evs)/\Ok h kn' (l''.map Prod.fst) evs):=fun w' kn' l' es' hw p' o'=>by
  have hkeep:∀x,base<=x->x<w.heap.size->w'.heap[x]?=w.heap[x]?:=fun x hx hlt=>(hw.block x (by rw[hsz1];omega) (fun e=>by have:=hF _ e;omega)).trans (HB.out.block x hlt);have hsz:w.heap.size<w'.heap.size:=by have:=hw.size;rw[hsz1] at this;omega
  have ht':Row w' (fun x=>F x\/(base<=x/\x<w'.heap.size)) 3 1 (.slice ao tn tc) mt.length (ints mt):=by
   have:=ht.kept (w':=w') fun g hg=>hkeep g (ht.foot g hg) (ht.lt hg);exact⟨this.row,fun g hg=>.inr ⟨ht.foot g hg,this.lt hg⟩⟩
  refine(qqm hc (p'.wide (F':=fun x=>F x\/(base<=x/\x<w'.heap.size)) fun x hx=>.inl hx) ⟨s,mq,mt,mx⟩ ao tn tc s hs rfl ht' (fun g hg hr=>?_)).mono ?_
  ·have:=hF g (p'.fr g hr);have:=ht.foot g hg;omega
  ·rintro e w'' ⟨rfl,hch,l'',es'',clk'',p'',hho,hsub⟩;refine⟨rfl,(Chg.of_below HB.out).trans ((hw.mono fun x _ hx=>.inl (.inl hx)).trans (hch.mono fun x _ hx=>?_)),l'',es'',clk'',p''.wide fun x hx=>?_,hho,⟨fun y hy=>?_,o'.row,o'.bound⟩⟩
   ·rcases hx with hx|hx
    ·exact .inl (.inl (.inl hx))
    ·exact .inl (.inl (.inr hx.1))
   ·rcases hx with hx|hx
    ·exact .inl hx
    ·exact .inr ⟨hx.1,yg hx.2 hch.size⟩
   ·obtain⟨z,hz,rfl⟩:=yW.1 hy;rcases hsub z hz with hz|hz
    ·exact o'.held _ (yaC hz)
    ·rw[hz];exact⟨s,hs,rfl,hmt,hm0,hm20⟩
 have HDEL:Hid (∀w' kn' l' es' clk',PA w' (fun x=>F x\/(base<=x/\x<w'.heap.size)) b h kn' l' evs snt kb mb rbs es' clk' ev sv->Ok h kn' (l'.map Prod.fst) evs->w'.cell? (aT b 5)=some (.bool false)/\(Chg (From F base) w w'->Calls prog 255 #[pT b 0] w' fun e w''=>e=.returned (.tuple #[])/\Chg (From F base) w w''/\∃kn'' l'' evs'' es'' ev'',PA w'' (From F base) b h kn'' l'' evs'' snt kb mb rbs es'' clk' ev'' sv/\Mo.Delivs h.n h.num (mp kn' (l'.map Prod.fst) evs) (mp kn'' (l''.map Prod.fst) evs'')/\Mo.Stuck h.n h.num (mp kn'' (l''.map Prod.fst) evs'')/\Ok h kn'' (l''.map Prod.fst) evs'')):=fun w' kn' l' es' clk' p' o'=>by
  have c5:=p'.blk.cell 5 _ rfl;simp only[Hd.cells,yf,yd,ye,hc.blocked] at c5;refine⟨c5,fun hch=>?_⟩;refine(qhc hc p' (fun x hx=>?_) (o'.lists rfl) o'.row _ rfl (by have:=o'.bound;omega)).mono ?_
  ·rcases hx with hx|hx
   ·have h1:=hF x hx;have h2:=hch.size;omega
   ·exact hx.2
  ·rintro e w'' ⟨rfl,kn'',l'',evs'',es'',ev'',d,hst⟩;refine⟨rfl,hch.trans (d.chg.mono fun x _ hx=>?_),kn'',l'',evs'',es'',ev'',d.pa.wide fun x hx=>?_,d.dl,hst,⟨fun y hy=>?_,d.row,?_⟩⟩
   ·rcases hx with hx|hx
    ·exact .inl (.inl hx)
    ·exact .inl (.inr hx.1)
   ·rcases hx with (hx|hx)|hx
    ·exact .inl hx
    ·exact .inr hx.1
    ·exact .inr (by have:=hch.size;omega)
   ·obtain⟨z,hz,rfl⟩:=yW.1 hy;exact d.held z hz
   ·have:=d.bound;have:=o'.bound;omega
 clear p hrow HX hc hsz1 e0 e1 e2 e3 ht hmt hm0 hm20 o hF hbase hg hg2 hglt hg2lt hs hq hqj;unfold frV;go_enter Tryz.func209,Tryz.ntmps209
 go_wp2_with fail
 refine HL.out.mono ?_;rintro e w2 ⟨rfl,hch,kn1,l1,es1,p1,hle,ho⟩;obtain⟨d9,e0,e1,e2,e3⟩:=HD9.out _ hch;have HC2:=HH.out _ _ _ _ hch p1 ho;have HC2':Hid (Calls prog 254 _ _ _):=HC2;have HLE:Hid (Mo.Learn h.n q fr (mp kn (l.map Prod.fst) evs) (mp kn1 (l1.map Prod.fst) evs)):=hle;clear hch p1 hle ho HL HH HD9 HC2;go_wp2_with fail
 refine HC2'.out.mono ?_;rintro e w3 ⟨rfl,hch3,l2,es2,clk2,p2,hho,ho2⟩;obtain⟨c5,hdel⟩:=HDEL.out _ _ _ _ _ p2 ho2;have HD:=hdel hch3;have HD':Hid (Calls prog 255 _ _ _):=HD;have HHO:Hid (Mo.Hold h.n ⟨s,mq,mt,mx⟩ (mp kn1 (l1.map Prod.fst) evs) (mp kn1 (l2.map Prod.fst) evs)):=hho;clear hch3 p2 hho ho2 HD hdel HDEL HC2';go_wp2_with fail
 refine HD'.out.mono ?_;rintro e w4 ⟨rfl,hch4,kn4,l4,evs4,es4,ev4,p4,hdl,hst,ho4⟩;have HE:Hid (Chg (From F base) w w4/\PA w4 (From F base) b h kn4 l4 evs4 snt kb mb rbs es4 clk2 ev4 sv/\Mo.Delivs h.n h.num (mp kn1 (l2.map Prod.fst) evs) (mp kn4 (l4.map Prod.fst) evs4)/\Mo.Stuck h.n h.num (mp kn4 (l4.map Prod.fst) evs4)/\Ok h kn4 (l4.map Prod.fst) evs4):=⟨hch4,p4,hdl,hst,ho4⟩;clear hch4 p4 hdl hst ho4 HD';go_wp2_with fail
 go_end0
 obtain⟨hch4,p4,hdl,hst,ho4⟩:=HE.out;exact⟨rfl,hch4,kn4,l4,evs4,es4,clk2,ev4,p4,.data ⟨s,mq,mt,mx⟩ _ _ rfl rfl HLE.out HHO.out hdl hst,ho4⟩
end
section
open Go.RowKit
open Go.ChangeMaps (setBlock)
theorem qe7(n:Nat)(ao:Option Addr)(c:Nat)(w:World):Calls prog 169 #[.slice ao n c,J n] w fun e w'=>e=.returned (.bool true)/\w'=w:=by
 go_enter Tryz.func169,Tryz.ntmps169
 go_wp2
 go_ret;exact⟨rfl,rfl⟩
theorem qe8(n:Nat)(ao:Option Addr)(c:Nat)(w:World):Calls prog 169 #[.slice ao 0 c,J n] w fun e w'=>e=.returned (.bool true)/\w'=w:=by
 by_cases hn:(0:Int)=(n:Int)
 ·go_enter Tryz.func169,Tryz.ntmps169
  go_wp2
  go_ret;exact⟨rfl,rfl⟩
 ·go_enter Tryz.func169,Tryz.ntmps169
  go_wp2
  go_ret;exact⟨rfl,rfl⟩
theorem qju(n:Nat)(ao:Option Addr)(c:Nat)(w:World):Calls prog 170 #[.slice ao 0 c,J n] w fun e w'=>e=.returned (.bool true)/\Below w.heap.size w w':=by
 go_enter Tryz.func170,Tryz.ntmps170
 go_wp2_with fail
 go_loopw [9] (fun i wr=>i=J 0/\wr=w) (fun _ _=>0)
 case atStart=>exact⟨rfl,rfl⟩
 case round=>
  obtain⟨rfl,rfl⟩:=hrel;go_wp2_with fail
  go_ret;exact⟨rfl,yi _ _⟩
theorem qjv(n:Nat)(m:Codec.Msg)(g2 mc:Nat)(tb tc:Nat)(s:Nat)(hs:s<n)(hms:m.sender=s)(w:World)(e0:w.cell? (aT g2 0)=some (J m.sender))(e1:w.cell? (aT g2 1)=some (J m.seq))(e2:w.cell? (aT g2 2)=some (sT tb n tc))(e3:w.cell? (aT g2 3)=some (.string m.text))(ht:w.cell? (aT tb s)=some (J m.seq)) :
 Calls prog 170 #[sT g2 1 mc,J n] w fun e w'=>e=.returned (.bool true)/\Below w.heap.size w w':=by
 obtain⟨ms,mq,mt,mx⟩:=m;simp only at hms e0 e1 e3 ht;subst hms;have htb:tb<w.heap.size:=yI w _ ht;have hs0:(0:Int)<=(s:Int):=by omega
 have hs1:(s:Int)<(n:Int):=by omega
 have hs2:¬(n:Int)<=(s:Int):=by omega
 have HT:Hid ((w.alloc (.cells #[J s,J mq,sT tb n tc,.string mx] 179)).cell? (aT tb s)=some (J mq)):=(yax _ _ _ htb).trans ht;have HX:=BlkAt.new w w.heap.size rfl 179 #[J s,J mq,sT tb n tc,.string mx];have d0:=HX.cell 0 _ rfl;have d1:=HX.cell 1 _ rfl;have d2:=HX.cell 2 _ rfl;simp only[yf,yd,ye] at d0 d1 d2;have HB:Hid (Below w.heap.size w (w.alloc (.cells #[J s,J mq,sT tb n tc,.string mx] 179))):=(yi _ _).alloc (yb _) _;clear HX;go_enter Tryz.func170,Tryz.ntmps170
 go_wp2_with fail
 go_loopw [9] (fun i wr=>(i=J 0/\wr=w)\/(i=J 1/\Below w.heap.size w wr)) (fun i _=>1 - (intOf i).toNat)
 case atStart=>exact .inl ⟨rfl,rfl⟩
 case round=>
  rcases hrel with ⟨rfl,rfl⟩|⟨rfl,hb⟩
  ·go_wp2_with fail
   have ht:=HT.out;generalize wr.alloc (.cells #[J s,J mq,sT tb n tc,.string mx] 179)=w1 at HB d0 d1 d2 ht ⊢;go_quiet (fail)
   go_wp2_with fail
   exact⟨.inr ⟨rfl,below_drewN HB.out _⟩,by simp[intOf]⟩
  ·go_wp2_with fail
   go_ret;exact⟨rfl,hb⟩
theorem qd0(n:Nat)(f:Codec.Frame)(hk:f.kind=1\/f.kind=2)(ro co mo:Option Addr)(rc cn cc mn mc:Nat)(hm:f.kind=1->mn=1)(w:World) :
 Calls prog 171 #[frV f (.slice ro n rc) (.slice co cn cc) (.slice mo mn mc),J n] w fun e w'=>e=.returned (.bool true)/\Below w.heap.size w w':=by
 obtain⟨fk,fs,fd,fm,fv,fb,fo,fr,fc,fg⟩:=f;simp only at hk hm;have HX:=BlkAt.new w w.heap.size rfl 165 #[J fk,J fs,J fd,J fm,J fv,J fb,J fo,.slice ro n rc,.slice co cn cc,.slice mo mn mc];have d0:=HX.cell 0 _ rfl;have d5:=HX.cell 5 _ rfl;have d7:=HX.cell 7 _ rfl;have d8:=HX.cell 8 _ rfl;have d9:=HX.cell 9 _ rfl;simp only[yf,yd,ye] at d0 d5 d7 d8 d9;have HB:Hid (Below w.heap.size w (w.alloc (.cells #[J fk,J fs,J fd,J fm,J fv,J fb,J fo,.slice ro n rc,.slice co cn cc,.slice mo mn mc] 165))):=(yi _ _).alloc (yb _) _;clear HX;unfold frV;rcases hk with rfl|rfl
 ·obtain rfl:=hm rfl;clear hm;go_enter Tryz.func171,Tryz.ntmps171
  go_wp2_with fail
  generalize w.alloc (.cells #[J 1,J fs,J fd,J fm,J fv,J fb,J fo,.slice ro n rc,.slice co cn cc,.slice mo 1 mc] 165)=w1 at HB d0 d5 d7 d8 d9 ⊢;go_quiet (fail)
  go_wp2_with fail
  go_ret;exact⟨rfl,below_drewN HB.out _⟩
 ·clear hm;go_enter Tryz.func171,Tryz.ntmps171
  go_wp2_with fail
  generalize w.alloc (.cells #[J 2,J fs,J fd,J fm,J fv,J fb,J fo,.slice ro n rc,.slice co cn cc,.slice mo mn mc] 165)=w1 at HB d0 d5 d7 d8 d9 ⊢;go_quiet (fail)
  go_wp2_with fail
  go_ret;exact⟨rfl,below_drewN HB.out _⟩
theorem qjw(x:Int):bits .andNot .i64 0 x=0:=by
 show IntKind.i64.wrap ((BitVec.ofInt 64 0 &&& ~~~ BitVec.ofInt 64 x).toNat:Nat)=0;rw[show BitVec.ofInt 64 0=0#64 from rfl,BitVec.zero_and];rfl
theorem qqn(n j k:Nat)(hn:n<=6)(hk:k<n)(hkj:k≠j)(f:Codec.Frame)(hsrc:f.src=k)(hdst:f.dst=j)(hmem:f.members=0)(ro co mo:Option Addr)(rc cc mn mc:Nat)(w:World)
 (hM:∀w',Below w.heap.size w w'->Calls prog 170 #[.slice mo mn mc,J n] w' fun e w''=>e=.returned (.bool true)/\Below w'.heap.size w' w'')
 (hK:∀w',Calls prog 171 #[frV f (.slice ro n rc) (.slice co 0 cc) (.slice mo mn mc),J n] w' fun e w''=>e=.returned (.bool true)/\Below w'.heap.size w' w'') :
 Calls prog 116 #[frV f (.slice ro n rc) (.slice co 0 cc) (.slice mo mn mc),J j,J n] w fun e w'=>e=.returned (.bool true)/\Below w.heap.size w w':=by
 obtain⟨fk,fs,fd,fm,fv,fb,fo,fr,fc,fg⟩:=f;simp only at hsrc hdst hmem;subst hsrc hdst hmem;unfold frV at hK ⊢;simp only at hK ⊢;have HM:Hid (∀w',Below w.heap.size w w'->Calls prog 170 #[.slice mo mn mc,J n] w' fun e w''=>e=.returned (.bool true)/\Below w'.heap.size w' w''):=hM;have HK:Hid (∀w',Calls prog 171 #[.agg #[J fk,J k,J j,J 0,J fv,J fb,J fo,.slice ro n rc,.slice co 0 cc,.slice mo mn mc],J n] w' fun e w''=>e=.returned (.bool true)/\Below w'.heap.size w' w''):=hK;have HX:=BlkAt.new w w.heap.size rfl 165 #[J fk,J k,J j,J 0,J fv,J fb,J fo,.slice ro n rc,.slice co 0 cc,.slice mo mn mc];have HS:Hid (∀w',Below (w.heap.size+1) (w.alloc (.cells #[J fk,J k,J j,J 0,J fv,J fb,J fo,.slice ro n rc,.slice co 0 cc,.slice mo mn mc] 165)) w'->w'.cell? (aT w.heap.size 0)=some (J fk)/\w'.cell? (aT w.heap.size 1)=some (J k)/\w'.cell? (aT w.heap.size 2)=some (J j)/\w'.cell? (aT w.heap.size 3)=some (J 0)/\w'.cell? (aT w.heap.size 4)=some (J fv)/\w'.cell? (aT w.heap.size 5)=some (J fb)/\w'.cell? (aT w.heap.size 6)=some (J fo)/\w'.cell? (aT w.heap.size 7)=some (.slice ro n rc)/\w'.cell? (aT w.heap.size 8)=some (.slice co 0 cc)/\w'.cell? (aT w.heap.size 9)=some (.slice mo mn mc)):=fun w' hw=>by
  have:=HX.below hw (by omega);exact⟨this.cell 0 _ rfl,this.cell 1 _ rfl,this.cell 2 _ rfl,this.cell 3 _ rfl,this.cell 4 _ rfl,this.cell 5 _ rfl,this.cell 6 _ rfl,this.cell 7 _ rfl,this.cell 8 _ rfl,this.cell 9 _ rfl⟩
 have HB:Hid (∀w',Below (w.heap.size+1) (w.alloc (.cells #[J fk,J k,J j,J 0,J fv,J fb,J fo,.slice ro n rc,.slice co 0 cc,.slice mo mn mc] 165)) w'->Below w.heap.size w w'):=fun w' hw=>((yi _ _).alloc (yb _) _).trans (hw.mono (by omega));have hs1:Hid ((w.alloc (.cells #[J fk,J k,J j,J 0,J fv,J fb,J fo,.slice ro n rc,.slice co 0 cc,.slice mo mn mc] 165)).heap.size=w.heap.size+1):=by simp[Hid]
 have hne:¬(k:Int)=(j:Int):=by omega
 have hne2:((k:Int) != (j:Int))=true:=by rw[bne_iff_ne];exact hne
 have hlt:(k:Int)<(n:Int):=by omega
 have hand:=qjw;clear HX hM hK;go_enter Tryz.func116,Tryz.ntmps116
 go_wp2_with fail
 generalize w.alloc (.cells #[J fk,J k,J j,J 0,J fv,J fb,J fo,.slice ro n rc,.slice co 0 cc,.slice mo mn mc] 165)=w1 at HS HB hs1 ⊢;refine wp_region_held_drew (S:=fun w'=>w'.cell? (aT w.heap.size 0)=some (J fk)/\w'.cell? (aT w.heap.size 1)=some (J k)/\w'.cell? (aT w.heap.size 2)=some (J j)/\w'.cell? (aT w.heap.size 3)=some (J 0)/\w'.cell? (aT w.heap.size 4)=some (J fv)/\w'.cell? (aT w.heap.size 5)=some (J fb)/\w'.cell? (aT w.heap.size 6)=some (J fo)/\w'.cell? (aT w.heap.size 7)=some (.slice ro n rc)/\w'.cell? (aT w.heap.size 8)=some (.slice co 0 cc)/\w'.cell? (aT w.heap.size 9)=some (.slice mo mn mc)) rfl (HS.out _ (yi _ _).drew) (fun hHeld=>?_);refine wk 0 ?_;refine wk 1 ?_;refine wk 2 ?_;refine wk 3 ?_;refine wk 4 ?_;refine wk 5 ?_;refine wk 6 ?_;refine wk 7 ?_;refine wk 8 ?_;refine wk 9 ?_;refine wk 10 ?_;refine wk 11 ?_;refine wk 12 ?_;refine wk 13 ?_;refine wk 14 ?_;refine wk 15 ?_;refine wk 16 ?_;refine wk 17 ?_;refine wk 18 ?_;refine wk 19 ?_;refine we 20 fun K hK=>?_;go_simp;refine(qdx n _ hn).mono ?_;rintro e w2 ⟨rfl,rfl⟩;go_wp2_with fail
 refine hK.out _ _ (HS.out _ (yi _ _).drew) (fun hHeld=>?_);clear hK K;try simp only[pU]
 refine wk 21 ?_;refine wk 22 ?_;refine wk 23 ?_;refine wk 24 ?_;refine wk 25 ?_;refine wk 26 ?_;refine wk 27 ?_;refine we 28 fun K hK=>?_;go_simp;refine(qe7 n ro rc _).mono ?_;rintro e w2 ⟨rfl,rfl⟩;go_wp2_with fail
 refine hK.out _ _ (HS.out _ (yi _ _).drew) (fun hHeld=>?_);clear hK K;try simp only[pU]
 refine wk 29 ?_;refine wk 30 ?_;refine wk 31 ?_;refine wk 32 ?_;refine wk 33 ?_;refine we 34 fun K hK=>?_;go_simp;refine(qe8 n co cc _).mono ?_;rintro e w2 ⟨rfl,rfl⟩;go_wp2_with fail
 refine hK.out _ _ (HS.out _ (yi _ _).drew) (fun hHeld=>?_);clear hK K;try simp only[pU]
 refine wk 35 ?_;refine wk 36 ?_;refine wk 37 ?_;refine wk 38 ?_;refine wk 39 ?_;refine we 40 fun K hK=>?_;go_simp;refine(HM.out _ (HB.out _ (yi _ _).drew)).mono ?_;rintro e w2 ⟨rfl,hb2⟩;have HB2:Hid (Below (w.heap.size+1) w1 w2):=((yi _ _).drew).trans (hb2.mono (by simp[hs1.out]));clear hb2;go_wp2_with fail
 refine hK.out _ _ (HS.out _ HB2.out) (fun hHeld=>?_);clear hK K;try simp only[pU]
 refine wk 41 ?_;refine wk 42 ?_;refine wk 43 ?_;refine wk 44 ?_;refine we 45 fun K hK=>?_;go_simp;refine(HK.out _).mono ?_;rintro e w3 ⟨rfl,hb3⟩;have HB3:Hid (Below (w.heap.size+1) w1 w3):=HB2.out.trans (hb3.mono (by have:=HB2.out.size;rw[hs1.out] at this;exact this));clear hb3;go_wp2_with fail
 refine hK.out _ _ (HS.out _ HB3.out) (fun hHeld=>?_);clear hK K;try simp only[pU]
 refine wk 46 ?_;refine wk 47 ?_;refine wpAnyH_done (by kernel_rfl) ?_ _;go_wp2_with fail
 go_ret;exact⟨rfl,HB.out _ HB3.out⟩
end
section
open Go.RowKit
open Go.ChangeMaps (setBlock)
variable {w w':World}{F:Nat->Prop}{b:Nat}{h:Hd}{kn:List (List Int)}{l:Msgs}{evs:List Ev}{snt:List Par}{kb mb:Nat}{rbs:List Nat}{es:Array MapEntry}{clk:Nat}{ev sv:Value}
theorem qbs(f:Codec.Frame)(hk:f.kind=1\/f.kind=2)(ro co mo:Option Addr)(rn rc cn cc mn mc:Nat)(Q:World->Prop)(w:World)
 (H1:f.kind=1->∀w',Below w.heap.size w w'->Calls prog 209 #[pT b 0,frV f (.slice ro rn rc) (.slice co cn cc) (.slice mo mn mc)] w' fun e w''=>e=.returned (.tuple #[])/\Q w'')
 (H2:f.kind=2->∀w',Below w.heap.size w w'->Calls prog 210 #[pT b 0,frV f (.slice ro rn rc) (.slice co cn cc) (.slice mo mn mc)] w' fun e w''=>e=.returned (.tuple #[])/\Q w'') :
 Calls prog 174 #[pT b 0,frV f (.slice ro rn rc) (.slice co cn cc) (.slice mo mn mc)] w fun e w'=>e=.returned (.tuple #[])/\Q w':=by
 obtain⟨fk,fs,fd,fm,fv,fb,fo,fr,fc,fg⟩:=f;simp only at hk H1 H2;have HX:=BlkAt.new w w.heap.size rfl 165 #[J fk,J fs,J fd,J fm,J fv,J fb,J fo,.slice ro rn rc,.slice co cn cc,.slice mo mn mc];have d0:=HX.cell 0 _ rfl;have d1:=HX.cell 1 _ rfl;have d2:=HX.cell 2 _ rfl;have d3:=HX.cell 3 _ rfl;have d4:=HX.cell 4 _ rfl;have d5:=HX.cell 5 _ rfl;have d6:=HX.cell 6 _ rfl;have d7:=HX.cell 7 _ rfl;have d8:=HX.cell 8 _ rfl;have d9:=HX.cell 9 _ rfl;simp only[yf,yd,ye] at d0 d1 d2 d3 d4 d5 d6 d7 d8 d9;have HB:Hid (Below w.heap.size w (w.alloc (.cells #[J fk,J fs,J fd,J fm,J fv,J fb,J fo,.slice ro rn rc,.slice co cn cc,.slice mo mn mc] 165))):=(yi _ _).alloc (yb _) _;clear HX;unfold frV at H1 H2 ⊢;simp only at H1 H2 ⊢;rcases hk with rfl|rfl
 ·have HH:Hid (Calls prog 209 _ _ _):=H1 rfl _ HB.out;clear H1 H2;go_enter Tryz.func174,Tryz.ntmps174
  go_wp2_with fail
  refine HH.out.mono ?_;rintro e w2 ⟨rfl,hq⟩;have HQ:Hid (Q w2):=hq;clear hq HH;go_wp2_with fail
  go_end0
  exact⟨rfl,HQ.out⟩
 ·have HH:Hid (Calls prog 210 _ _ _):=H2 rfl _ HB.out;clear H1 H2;go_enter Tryz.func174,Tryz.ntmps174
  go_wp2_with fail
  refine HH.out.mono ?_;rintro e w2 ⟨rfl,hq⟩;have HQ:Hid (Q w2):=hq;clear hq HH;go_wp2_with fail
  go_end0
  exact⟨rfl,HQ.out⟩
theorem qgc(hc:CalmHd h)(p:PA w F b h kn l evs snt kb mb rbs es clk ev sv)(f:Codec.Frame)(hv:f.view=0)(q:Nat)(hq:q<h.n)(hsrc:f.src=q)(ro co mo:Option Addr)(rn rc cn cc mn mc:Nat)(Q:World->Prop)
 (H:∀w',Below w.heap.size w w'->Calls prog 174 #[pT b 0,frV f (.slice ro rn rc) (.slice co cn cc) (.slice mo mn mc)] w' fun e w''=>e=.returned (.tuple #[])/\Q w'') :
 Calls prog 117 #[pT b 0,frV f (.slice ro rn rc) (.slice co cn cc) (.slice mo mn mc)] w fun e w'=>e=.returned (.tuple #[])/\Q w':=by
 obtain⟨fk,fs,fd,fm,fv,fb,fo,fr,fc,fg⟩:=f;simp only at hv hsrc H;subst hv hsrc;unfold frV at H ⊢;simp only at H ⊢;have HX:=BlkAt.new w w.heap.size rfl 165 #[J fk,J q,J fd,J fm,J 0,J fb,J fo,.slice ro rn rc,.slice co cn cc,.slice mo mn mc];have d0:=HX.cell 0 _ rfl;have d1:=HX.cell 1 _ rfl;have d2:=HX.cell 2 _ rfl;have d3:=HX.cell 3 _ rfl;have d4:=HX.cell 4 _ rfl;have d5:=HX.cell 5 _ rfl;have d6:=HX.cell 6 _ rfl;have d7:=HX.cell 7 _ rfl;have d8:=HX.cell 8 _ rfl;have d9:=HX.cell 9 _ rfl;have hB:Below w.heap.size w (w.alloc (.cells #[J fk,J q,J fd,J fm,J 0,J fb,J fo,.slice ro rn rc,.slice co cn cc,.slice mo mn mc] 165)):=(yi _ _).alloc (yb _) _;have c6:=(p.blk.below hB p.blk.lt).cell 6 _ rfl;have c7:=(p.blk.below hB p.blk.lt).cell 7 _ rfl;simp only[Hd.cells,yf,yd,ye,hc.view] at d0 d1 d2 d3 d4 d5 d6 d7 d8 d9 c6 c7;have HB:Hid (Below w.heap.size w (w.alloc (.cells #[J fk,J q,J fd,J fm,J 0,J fb,J fo,.slice ro rn rc,.slice co cn cc,.slice mo mn mc] 165))):=hB;have HH:Hid (∀w',Below w.heap.size w w'->Calls prog 174 #[pT b 0,.agg #[J fk,J q,J fd,J fm,J 0,J fb,J fo,.slice ro rn rc,.slice co cn cc,.slice mo mn mc]] w' fun e w''=>e=.returned (.tuple #[])/\Q w''):=H;have hh:Hid (hasB h.members q=true):=by rw[Hid,hc.members];exact qc9 h.n (by have:=hc.n1;omega) q hq
 have hq63:q<=63:=by have:=hc.n1;omega
 clear HX p hc hB H;go_enter Tryz.func117,Tryz.ntmps117
 go_wp2_with fail
 generalize w.alloc (.cells #[J fk,J q,J fd,J fm,J 0,J fb,J fo,.slice ro rn rc,.slice co cn cc,.slice mo mn mc] 165)=w1 at HB d0 d1 d2 d3 d4 d5 d6 d7 d8 d9 c6 c7 ⊢;go_quiet (fail)
 go_wp2_with fail
 go_quiet (fail)
 go_wp2_with fail
 refine wp_region_held_drew (S:=fun w'=>w'.cell? (aT b 7)=some (J h.members)/\w'.cell? (aT w.heap.size 1)=some (J q)) rfl (by constructor <;> simpa) (fun hHeld=>?_);refine wk 0 ?_;refine wk 1 ?_;refine wk 2 ?_;refine wk 3 ?_;refine wk 4 ?_;refine wk 5 ?_;refine we 6 fun K hK=>?_;go_simp;refine(qe3 _ _ _ hq63).mono ?_;rintro e w2 ⟨rfl,rfl⟩;rw[hh.out];go_wp2_with fail
 refine hK.out _ _ (by constructor <;> simpa) (fun hHeld=>?_);clear hK K;try simp only[pU]
 refine wk 7 ?_;refine wpAnyH_done (by kernel_rfl) ?_ _;go_wp2_with fail
 refine(HH.out _ (below_drewN HB.out _)).mono ?_;rintro e w2 ⟨rfl,hq⟩;have HQ:Hid (Q w2):=hq;clear hq HH;go_wp2_with fail
 go_end0
 exact⟨rfl,HQ.out⟩
theorem qm7(hc:CalmHd h)(p:PA w F b h kn l evs snt kb mb rbs es clk ev sv)(s:List UInt8)(hl:s.length<=140737488351232)(hno:Codec.isFrame s=false) :
 Calls prog 74 #[pT b 0,.string ⟨s.toArray⟩] w fun e w'=>e=.returned (.tuple #[])/\Below w.heap.size w w':=by
 have HA:Hid (Calls prog 105 _ _ _):=qe4 b h _ _ _ _ w p.blk hc.crashed hc.out;have HD:Hid (Calls prog 115 _ _ _):=qm0 s w hl hno;clear p hc hno hl;go_enter Tryz.func74,Tryz.ntmps74
 go_wp2_with fail
 refine HA.out.mono ?_;rintro e w2 ⟨rfl,rfl⟩;go_wp2_with fail
 refine HD.out.mono ?_;rintro e w3 ⟨rfl,hb3⟩;have HB3:Hid (Below w2.heap.size w2 w3):=hb3;clear hb3 HA HD;go_wp2_with fail
 have HB4:Hid (Below w2.heap.size w2 (w3.alloc (.cells #[J 0,J 0,J 0,J 0,J 0,J 0,J 0,sN,sN,sN] 165))):=HB3.out.alloc HB3.out.size _;generalize w3.alloc (.cells #[J 0,J 0,J 0,J 0,J 0,J 0,J 0,sN,sN,sN] 165)=w4 at HB4 ⊢;refine wp_region_held_drew (S:=fun _=>True) rfl trivial (fun hHeld=>?_);refine wk 0 ?_;refine wk 1 ?_;refine wk 2 ?_;refine wu 3 ?_;refine wu 4 ?_;refine wu 5 ?_;refine wu 6 ?_;refine wu 7 ?_;refine wu 8 ?_;refine wu 9 ?_;refine wu 10 ?_;refine wu 11 ?_;refine wu 12 ?_;refine wu 13 ?_;refine wk 14 ?_;refine wpAnyH_done (by kernel_rfl) ?_ _;go_wp2_with fail
 (try simp only[Exit.inBlock,Exit.then])
 refine bodyPost_ret (results_none rfl _ _ _) rfl ?_;exact⟨rfl,HB4.out.drew⟩
theorem qln(hc:CalmHd h)(p:PA w F b h kn l evs snt kb mb rbs es clk ev sv)(f:Codec.Frame)(hfit:Codec.fits f=true)(q:Nat)(hq:q<h.n)(hqj:q≠h.num)(hsrc:f.src=q)(hdst:f.dst=h.num)(hmem:f.members=0)(Q:World->Prop)
 (H:∀w' rv cv mv tvs,Below w.heap.size w w'->FrameOwn w' w.heap.size f rv cv mv tvs->(∃ro rc co cc mo mn mc,rv=.slice ro h.n rc/\cv=.slice co 0 cc/\mv=.slice mo mn mc)/\(∀w'',Below w'.heap.size w' w''->Calls prog 170 #[mv,J h.n] w'' fun e w3=>e=.returned (.bool true)/\Below w''.heap.size w'' w3)/\(∀w'',Calls prog 171 #[frV f rv cv mv,J h.n] w'' fun e w3=>e=.returned (.bool true)/\Below w''.heap.size w'' w3)/\∀w'',Below w'.heap.size w' w''->Calls prog 117 #[pT b 0,frV f rv cv mv] w'' fun e w3=>e=.returned (.tuple #[])/\Q w3) :
 Calls prog 74 #[pT b 0,.string ⟨(Codec.encB f).toArray⟩] w fun e w'=>e=.returned (.tuple #[])/\Q w':=by
 have HA:Hid (Calls prog 105 _ _ _):=qe4 b h _ _ _ _ w p.blk hc.crashed hc.out;have hlen:(Codec.encB f).length<=140737488351232:=by
  have:=qcr hfit;simp only[Codec.encB,yC,Codec.word4_length];omega
 have HD:Hid (Calls prog 115 _ _ _):=qlh (Codec.encB f) f (Codec.frame (Codec.encB f)).2 w hlen (Prod.ext (Codec.read_back f hfit) rfl) hfit rfl;have HH:Hid (∀w' rv cv mv tvs,Below w.heap.size w w'->FrameOwn w' w.heap.size f rv cv mv tvs->(∃ro rc co cc mo mn mc,rv=.slice ro h.n rc/\cv=.slice co 0 cc/\mv=.slice mo mn mc)/\(∀w'',Below w'.heap.size w' w''->Calls prog 116 #[frV f rv cv mv,J h.num,J h.n] w'' fun e w3=>e=.returned (.bool true)/\Below w''.heap.size w'' w3)/\∀w'',Below w'.heap.size w' w''->Calls prog 117 #[pT b 0,frV f rv cv mv] w'' fun e w3=>e=.returned (.tuple #[])/\Q w3):=fun w' rv cv mv tvs hb hf=>by
  obtain⟨⟨ro,rc,co,cc,mo,mn,mc,rfl,rfl,rfl⟩,h1,h2,h3⟩:=H w' rv cv mv tvs hb hf;exact⟨⟨ro,rc,co,cc,mo,mn,mc,rfl,rfl,rfl⟩,fun w'' hb''=>qqn h.n h.num q hc.n1 hq hqj f hsrc hdst hmem ro co mo rc cc mn mc w'' (fun w3 hb3=>h1 w3 (hb''.trans (hb3.mono hb''.size))) h2,h3⟩
 have HC:Hid (∀w',Below w.heap.size w w'->w'.cell? (aT b 0)=some (J h.num)/\w'.cell? (aT b 1)=some (J h.n)):=fun w' hw=>⟨(p.blk.below hw p.blk.lt).cell 0 _ rfl,(p.blk.below hw p.blk.lt).cell 1 _ rfl⟩;clear p hc hlen hfit H hsrc hdst hmem;generalize Codec.encB f=bs at HD ⊢;go_enter Tryz.func74,Tryz.ntmps74
 go_wp2_with fail
 refine HA.out.mono ?_;rintro e w2 ⟨rfl,rfl⟩;go_wp2_with fail
 refine HD.out.mono ?_;rintro e w3 ⟨rv,cv,mv,tvs,rfl,hfo,hb3⟩;obtain⟨⟨ro,rc,co,cc,mo,mn,mc,rfl,rfl,rfl⟩,h1,h2⟩:=HH.out w3 rv cv mv tvs hb3 hfo;obtain⟨fk,fs,fd,fm,fv,fb,fo,fr,fc,fg⟩:=f;unfold frV at h1 h2;simp only at h1 h2;have H1:Hid (∀w'',Below w3.heap.size w3 w''->Calls prog 116 #[.agg #[J fk,J fs,J fd,J fm,J fv,J fb,J fo,.slice ro h.n rc,.slice co 0 cc,.slice mo mn mc],J h.num,J h.n] w'' fun e w3=>e=.returned (.bool true)/\Below w''.heap.size w'' w3):=h1;have H2:Hid (∀w'',Below w3.heap.size w3 w''->Calls prog 117 #[pT b 0,.agg #[J fk,J fs,J fd,J fm,J fv,J fb,J fo,.slice ro h.n rc,.slice co 0 cc,.slice mo mn mc]] w'' fun e w3=>e=.returned (.tuple #[])/\Q w3):=h2;have HB3:Hid (Below w2.heap.size w2 w3):=hb3;clear h1 h2 hb3 hfo HH HA HD;simp only;go_wp2_with fail
 have HX:=BlkAt.new w3 w3.heap.size rfl 165 #[J fk,J fs,J fd,J fm,J fv,J fb,J fo,.slice ro h.n rc,.slice co 0 cc,.slice mo mn mc];have hs4:Hid ((w3.alloc (.cells #[J fk,J fs,J fd,J fm,J fv,J fb,J fo,.slice ro h.n rc,.slice co 0 cc,.slice mo mn mc] 165)).heap.size=w3.heap.size+1):=by simp[Hid]
 have HS:Hid (∀w',Below (w3.heap.size+1) (w3.alloc (.cells #[J fk,J fs,J fd,J fm,J fv,J fb,J fo,.slice ro h.n rc,.slice co 0 cc,.slice mo mn mc] 165)) w'->(w'.cell? (aT w3.heap.size 0)=some (J fk)/\w'.cell? (aT w3.heap.size 1)=some (J fs)/\w'.cell? (aT w3.heap.size 2)=some (J fd)/\w'.cell? (aT w3.heap.size 3)=some (J fm)/\w'.cell? (aT w3.heap.size 4)=some (J fv)/\w'.cell? (aT w3.heap.size 5)=some (J fb)/\w'.cell? (aT w3.heap.size 6)=some (J fo)/\w'.cell? (aT w3.heap.size 7)=some (.slice ro h.n rc)/\w'.cell? (aT w3.heap.size 8)=some (.slice co 0 cc)/\w'.cell? (aT w3.heap.size 9)=some (.slice mo mn mc)/\w'.cell? (aT b 0)=some (J h.num)/\w'.cell? (aT b 1)=some (J h.n))/\Below w3.heap.size w3 w'):=fun w' hw=>by
  have hx:=HX.below hw (by omega);have hb:Below w3.heap.size w3 w':=((yi _ _).alloc (yb _) _).trans (hw.mono (by omega));exact⟨⟨hx.cell 0 _ rfl,hx.cell 1 _ rfl,hx.cell 2 _ rfl,hx.cell 3 _ rfl,hx.cell 4 _ rfl,hx.cell 5 _ rfl,hx.cell 6 _ rfl,hx.cell 7 _ rfl,hx.cell 8 _ rfl,hx.cell 9 _ rfl,(HC.out w' (HB3.out.trans (hb.mono HB3.out.size))).1,(HC.out w' (HB3.out.trans (hb.mono HB3.out.size))).2⟩,hb⟩
 clear HX HC;generalize w3.alloc (.cells #[J fk,J fs,J fd,J fm,J fv,J fb,J fo,.slice ro h.n rc,.slice co 0 cc,.slice mo mn mc] 165)=w4 at HS hs4 ⊢;refine wp_region_held_drew (S:=fun w'=>w'.cell? (aT w3.heap.size 0)=some (J fk)/\w'.cell? (aT w3.heap.size 1)=some (J fs)/\w'.cell? (aT w3.heap.size 2)=some (J fd)/\w'.cell? (aT w3.heap.size 3)=some (J fm)/\w'.cell? (aT w3.heap.size 4)=some (J fv)/\w'.cell? (aT w3.heap.size 5)=some (J fb)/\w'.cell? (aT w3.heap.size 6)=some (J fo)/\w'.cell? (aT w3.heap.size 7)=some (.slice ro h.n rc)/\w'.cell? (aT w3.heap.size 8)=some (.slice co 0 cc)/\w'.cell? (aT w3.heap.size 9)=some (.slice mo mn mc)/\w'.cell? (aT b 0)=some (J h.num)/\w'.cell? (aT b 1)=some (J h.n)) rfl (HS.out _ (yi _ _).drew).1 (fun hHeld=>?_);refine wk 0 ?_;refine wk 1 ?_;refine wk 2 ?_;refine wk 3 ?_;refine wk 4 ?_;refine wk 5 ?_;refine wk 6 ?_;refine wk 7 ?_;refine wk 8 ?_;refine wk 9 ?_;refine wk 10 ?_;refine wk 11 ?_;refine we 12 fun K hK=>?_;go_simp;refine(H1.out _ (HS.out _ (yi _ _).drew).2).mono ?_;rintro e w5 ⟨rfl,hb5⟩;have HB5:Hid (Below (w3.heap.size+1) w4 w5):=((yi _ _).drew).trans (hb5.mono (by simp[hs4.out]));clear hb5;go_wp2_with fail
 refine hK.out _ _ (HS.out _ HB5.out).1 (fun hHeld=>?_);clear hK K;try simp only[pU]
 refine wk 13 ?_;refine wk 14 ?_;refine wpAnyH_done (by kernel_rfl) ?_ _;obtain⟨d0,d1,d2,d3,d4,d5,d6,d7,d8,d9, -⟩:=hHeld;go_wp2_with fail
 refine(H2.out _ (HS.out _ HB5.out).2).mono ?_;rintro e w6 ⟨rfl,hq⟩;have HQ:Hid (Q w6):=hq;clear hq H1 H2;go_wp2_with fail
 go_end0
 exact⟨rfl,HQ.out⟩
structure MsgOk (n:Nat) (m:Codec.Msg):Prop where
 lt:m.sender.toNat<n
 sender:m.sender=(m.sender.toNat:Int)
 len:m.time.length=n
 own:m.time.getD m.sender.toNat 0=m.seq
 pos:0<=m.seq
 le:m.seq<=20
structure FrOk (n:Nat) (f:Codec.Frame):Prop where
 fits:Codec.fits f=true
 kind:(f.kind=2/\f.msgs=[])\/(f.kind=1/\∃m,f.msgs=[m]/\MsgOk n m)
theorem qkt{base n:Nat}{v:Value}{l:List Int}(hr:w.ownsRow base 3 1 v n (ints l))(hn:0<n):∃g cap,v=sT g n cap/\base<=g/\g<w.heap.size/\∀j,j<l.length->w.cell? (aT g j)=some (J (l.getD j 0)):=by
 rcases hr.2 with h0|⟨g,cap,cur,hv, -⟩
 ·have:=h0.2;omega
 ·have hob:v.ownBlock=some g:=by rw[hv];rfl
  have hc:=hr.cells hob;refine⟨g,cap,hv,(hr.lt g hob).1,(hr.lt g hob).2,fun j hj=>?_⟩;have:=hc j (J (l.getD j 0)) (by simp[ints,hj]);have hadd:(⟨g,0,none⟩:Addr).add j=(aT g j):=by unfold Addr.add;split <;> simp_all
  rw[hadd] at this;exact this
theorem qp{base n sz:Nat}{e:TypeId}{v:Value}{xs:List Value}(hr:w.ownsRow base e sz v n xs):∃ao cap,v=.slice ao n cap:=by
 rcases hr.2 with h0|⟨g,cap,cur,hv, -⟩
 ·exact⟨none,0,by rw[h0.1,h0.2]⟩
 ·exact⟨_,_,hv⟩
theorem qij{ms:List Codec.Msg}(hc:CalmHd h)(hp:PX w F b h kn ms evs snt)(hF:∀x,F x->x<w.heap.size)(o:Ok h kn ms evs)(f:Codec.Frame)(hf:FrOk h.n f)(k:Nat)(hcalm:Mo.Calm h.n k h.num f) :
 Calls prog 74 #[pT b 0,.string ⟨(Codec.encB f).toArray⟩] w fun e w'=>e=.returned (.tuple #[])/\Chg F w w'/\∃kn' ms' evs',PX w' (Plus F w) b h kn' ms' evs' snt/\Mo.Come h.n h.num k f (mp kn ms evs) (mp kn' ms' evs')/\Ok h kn' ms' evs':=by
 obtain⟨l,rfl,kb,mb,rbs,es,clk,ev,sv,p⟩:=hp;have hn0:0<h.n:=Nat.lt_of_le_of_lt (yaA _) hc.num;refine qln hc p f hf.fits k hcalm.jn hcalm.ne hcalm.src hcalm.dst hcalm.members (fun w'=>Chg F w w'/\∃kn' ms' evs',PX w' (Plus F w) b h kn' ms' evs' snt/\Mo.Come h.n h.num k f (mp kn (l.map Prod.fst) evs) (mp kn' ms' evs')/\Ok h kn' ms' evs') fun w' rv cv mv tvs hb hfo=>?_;have hrow:=hfo.row;rw[hcalm.len] at hrow;obtain⟨g,cap,rfl,hg,hgl,hgc⟩:=qkt hrow hn0;have hcut:=hfo.cut;rw[hcalm.cut] at hcut;obtain⟨co,cc,hcv⟩:=qp hcut;obtain⟨hml,hmo,hmt⟩:=hfo.msgs;obtain⟨mo,mc,hmv⟩:=qp hmo;simp only[yD] at hcv;rw[hcv,hmv];have hgF:¬F g:=fun e=>by have:=hF g e;omega
 rcases hf.kind with ⟨hk2,hm⟩|⟨hk1,m,hm,hmok⟩
 ·refine⟨⟨_,_,_,_,_,_,_,rfl,rfl,rfl⟩,fun w'' hb''=>?_,fun w''=>qd0 h.n f (.inr hk2) _ _ _ _ _ _ _ _ (fun e=>by rw[hk2] at e;cases e) w'',fun w'' hb''=>?_⟩
  ·rw[hm];exact qju h.n mo mc w''
  ·have hbw:Below w.heap.size w w'':=hb.trans (hb''.mono hb.size);refine qgc hc (p.below hbw) f hcalm.view k hcalm.jn hcalm.src _ _ _ _ _ _ _ _ _ _ fun w3 hb3=>qbs f (.inr hk2) _ _ _ _ _ _ _ _ _ _ w3 (fun e=>by rw[hk2] at e;cases e) fun _ w4 hb4=>?_;have hb34:Below w.heap.size w w4:=hbw.trans ((hb3.trans (hb4.mono hb3.size)).mono hbw.size);have hb'4:Below w'.heap.size w' w4:=hb''.trans ((hb3.trans (hb4.mono hb3.size)).mono hb''.size);refine(qhd hc (p.below hb34) (fun x hx=>yg (hF x hx) hb34.size) o f k hcalm.jn hcalm.ne hcalm.src hcalm.ballot hk2 g cap hgF (fun j hj=>?_) _ _ _ _ _ _).mono ?_
   ·rw[yS];exact(hb'4.cell (p:=(aT g j)) hgl).trans (hgc j (by rw[hcalm.len];exact hj))
   ·rintro e w5 ⟨rfl,hch,kn',l',es',p',hcome,ho⟩;exact⟨rfl,(Chg.of_below hb34).trans (hch.mono fun x _ hx=>.inl hx),kn',_,evs,p'.px.wide Plus.sub,hcome,ho⟩
 ·obtain⟨tv,htvs⟩:∃tv,tvs=[tv]:=by
   rw[hm] at hml;match tvs,hml with
   |[tv],_=>exact⟨tv,rfl⟩
  have htv:=hmt 0 m tv (by rw[hm];rfl) (by rw[htvs];rfl);obtain⟨tb,tc,htve,htb,htbl,htc⟩:=qkt htv (by rw[hmok.len];exact hn0);have hlen1:f.msgs.length=1:=by rw[hm];rfl
  rw[hlen1] at hmv hmo ⊢;obtain⟨g2,hmo2⟩:∃g2,mo=some ⟨g2,0,none⟩:=by
   rcases hmo.2 with h0|⟨g2,cap2,cur2,hv2, -⟩
   ·have:=h0.2;omega
   ·rw[hmv] at hv2;injection hv2 with hv2;exact⟨g2,hv2⟩
  subst hmo2;have hob:mv.ownBlock=some g2:=by rw[hmv];rfl
  have hmc:=hmo.cells hob;have hg2:=hmo.lt g2 hob;have hadd:∀j,(⟨g2,0,none⟩:Addr).add j=(aT g2 j):=fun j=>by unfold Addr.add;split <;> simp_all
  have hcells:∀j u,[Value.int .i64 m.sender,J m.seq,tv,.string m.text][j]?=some u->w'.cell? (aT g2 j)=some u:=fun j u hu=>by
   have:=hmc j u (by rw[hm,htvs];exact hu);rw[hadd] at this;exact this
  subst htve;rw[hmok.len] at htc hcells htv;refine⟨⟨_,_,_,_,_,_,_,rfl,rfl,rfl⟩,fun w'' hb''=>?_,fun w''=>qd0 h.n f (.inl hk1) _ _ _ _ _ _ _ _ (fun _=>rfl) w'',fun w'' hb''=>?_⟩
  ·have kc:∀{g j:Nat}{u:Value},g<w'.heap.size->w'.cell? (aT g j)=some u->w''.cell? (aT g j)=some u:=fun hlt hu=>(hb''.cell (p:=(aT _ _)) hlt).trans hu;refine qjv h.n m g2 mc tb tc m.sender.toNat hmok.lt hmok.sender w'' (kc hg2.2 (hcells 0 _ rfl)) (kc hg2.2 (hcells 1 _ rfl)) (kc hg2.2 (hcells 2 _ rfl)) (kc hg2.2 (hcells 3 _ rfl)) (kc htbl ?_);rw[htc _ hmok.lt,hmok.own]
  ·have hbw:Below w.heap.size w w'':=hb.trans (hb''.mono hb.size);refine qgc hc (p.below hbw) f hcalm.view k hcalm.jn hcalm.src _ _ _ _ _ _ _ _ _ _ fun w3 hb3=>qbs f (.inl hk1) _ _ _ _ _ _ _ _ _ _ w3 (fun _ w4 hb4=>?_) fun e=>by rw[hk1] at e;cases e
   have hb34:Below w.heap.size w w4:=hbw.trans ((hb3.trans (hb4.mono hb3.size)).mono hbw.size);have hb'4:Below w'.heap.size w' w4:=hb''.trans ((hb3.trans (hb4.mono hb3.size)).mono hb''.size);have kc:∀{g j:Nat}{u:Value},g<w'.heap.size->w'.cell? (aT g j)=some u->w4.cell? (aT g j)=some u:=fun hlt hu=>(hb'4.cell (p:=(aT _ _)) hlt).trans hu;refine(qjt hc (p.below hb34) w.heap.size hb34.size hF o f k hcalm.jn hcalm.ne hcalm.src hk1 m hm g cap hg (fun j hj=>?_) m.sender.toNat hmok.lt hmok.sender hmok.len hmok.pos hmok.le _ _ _ ⟨?_,fun g' hg'=>?_⟩ g2 mc hg2.1 (kc hg2.2 (hcells 0 _ rfl)) (kc hg2.2 (hcells 1 _ rfl)) (kc hg2.2 (hcells 2 _ rfl)) (kc hg2.2 (hcells 3 _ rfl)) _ _ _).mono ?_
   ·rw[yS];exact kc hgl (hgc j (by rw[hcalm.len];exact hj))
   ·rw[hmok.len];exact qo (qf htv (yaA _)) hb'4
   ·have:g'=tb:=by simpa[Value.ownBlock] using hg'.symm
    rw[this];exact htb
   ·rintro e w5 ⟨rfl,hch,kn',l',evs',es',clk',ev',p',hcome,ho⟩;refine⟨rfl,(Chg.of_below hb34).trans (hch.mono fun x _ hx=>hx),kn',_,evs',p'.px,hcome,ho⟩
theorem infoPar:(prog.info? 111).map (fun i=>(i.zero,i.size,i.bytes))=some (some (.agg #[J 0,.string ⟨#[]⟩]),2,24):=by kernel_rfl
def par(f:Codec.Frame):Par:=(f.dst,⟨(Codec.encB f).toArray⟩)
theorem qm8(p:PA w F b h kn l evs snt kb mb rbs es clk ev sv)(f:Codec.Frame)(hsrc:f.src=h.num)(ro co mo:Option Addr)(rn rc cn cc mn mc:Nat)(hr:NumsAt w w.heap.size (.slice ro rn rc) f.row)(hcu:NumsAt w w.heap.size (.slice co cn cc) f.cut)(hm:MsgsAt w w.heap.size (.slice mo mn mc) f.msgs)(hfit:Codec.fits f=true)(hs:snt.length<=1000000) :
 Calls prog 165 #[pT b 0,.agg #[J f.kind,J 0,J f.dst,J f.members,J f.view,J f.ballot,J f.voted,.slice ro rn rc,.slice co cn cc,.slice mo mn mc]] w fun e w'=>e=.returned (.tuple #[])/\Chg F w w'/\∃sv',PA w' (Plus F w) b h kn l evs (snt++[par f]) kb mb rbs es clk ev sv':=by
 obtain⟨i0,hi0,hz0,hz1,hz2⟩:=info_parts infoPar;have HENC:Hid (∀w',Below w.heap.size w w'->Calls prog 168 #[.agg #[J f.kind,J h.num,J f.dst,J f.members,J f.view,J f.ballot,J f.voted,.slice ro rn rc,.slice co cn cc,.slice mo mn mc]] w' fun e w''=>e=.returned (.tuple #[.string (par f).2,J 0])/\Below w'.heap.size w' w''):=fun w' hw=>by
  have:=qdm f (.slice ro rn rc) (.slice co cn cc) (.slice mo mn mc) w.heap.size w' (hr.below hw) (hcu.below hw) (hm.below hw) hw.size hfit;rw[hsrc] at this;exact this
 have HP:Hid (PA w F b h kn l evs snt kb mb rbs es clk ev sv):=p;have HPAR:Hid (par f=(f.dst,(par f).2)):=rfl;obtain⟨fk,fs,fd,fm,fv,fb,fo,fr,fc,fg⟩:=f;simp only at hsrc HENC HPAR ⊢;subst hsrc;generalize hpf:(par ⟨fk,h.num,fd,fm,fv,fb,fo,fr,fc,fg⟩)=pf at HENC HPAR ⊢;clear hr hcu hm hfit hpf;obtain⟨pd,pb⟩:=pf;have hpd:pd=fd:=by have:=HPAR.out;injection this
 subst hpd;clear HPAR;simp only at HENC;have c0:=(p.blk.below (B:=w.heap.size) (w':=w.alloc (.cells #[J fk,J 0,J pd,J fm,J fv,J fb,J fo,.slice ro rn rc,.slice co cn cc,.slice mo mn mc] 165)) ((yi _ _).alloc (yb _) _) p.blk.lt).cell 0 _ rfl;simp only[Hd.cells,yf,yd] at c0;have HX:Hid (BlkAt (w.alloc (.cells #[J fk,J h.num,J pd,J fm,J fv,J fb,J fo,.slice ro rn rc,.slice co cn cc,.slice mo mn mc] 165)) w.heap.size 165 #[J fk,J h.num,J pd,J fm,J fv,J fb,J fo,.slice ro rn rc,.slice co cn cc,.slice mo mn mc]):=BlkAt.new w w.heap.size rfl 165 _;have hB1:Hid (Below w.heap.size w (w.alloc (.cells #[J fk,J h.num,J pd,J fm,J fv,J fb,J fo,.slice ro rn rc,.slice co cn cc,.slice mo mn mc] 165))):=(yi _ _).alloc (yb _) _;have hs1:Hid ((w.alloc (.cells #[J fk,J h.num,J pd,J fm,J fv,J fb,J fo,.slice ro rn rc,.slice co cn cc,.slice mo mn mc] 165)).heap.size=w.heap.size+1):=by simp[Hid]
 clear p;go_enter Tryz.func165,Tryz.ntmps165
 go_wp2_with fail
 clear c0;generalize w.alloc (.cells #[J fk,J h.num,J pd,J fm,J fv,J fb,J fo,.slice ro rn rc,.slice co cn cc,.slice mo mn mc] 165)=w1 at HX hB1 hs1 ⊢;refine(HENC.out w1 hB1.out).mono ?_;rintro e w3 ⟨rfl,hb3⟩;have HB3:Hid (Below w.heap.size w w3):=hB1.out.trans (hb3.mono hB1.out.size);have HX3:Hid (BlkAt w3 w.heap.size 165 #[J fk,J h.num,J pd,J fm,J fv,J fb,J fo,.slice ro rn rc,.slice co cn cc,.slice mo mn mc]):=HX.out.below hb3 (by rw[hs1.out];omega);have hsz3:Hid (w.heap.size<w3.heap.size):=by have:=hb3.size;have:=hs1.out;simp only[Hid];omega
 clear hb3 HX hB1 hs1 HENC;go_wp2_with fail
 have P3:Hid (PA w3 F b h kn l evs snt kb mb rbs es clk ev sv):=HP.out.below HB3.out;have hevlt:Hid (∀g,sv.ownBlock=some g->g<w.heap.size):=fun g hg=>HP.out.sent.lt hg;have c18:=P3.out.blk.cell 18 _ rfl;have y2:=HX3.out.cell 2 _ rfl;simp only[Hd.cells,yf,yd,ye] at c18 y2;have HS:Hid (∀w',Below w3.heap.size w3 w'->w'.cell? (aT b 18)=some sv/\w'.cell? (aT w.heap.size 2)=some (J pd)):=fun w' hw=>⟨(hw.cell (p:=(aT b 18)) P3.out.blk.lt).trans c18,(hw.cell (p:=(aT w.heap.size 2)) hsz3.out).trans y2⟩;clear c18 y2;refine Ends.begin (fun w'=>w'.cell? (aT b 18)=some sv/\w'.cell? (aT w.heap.size 2)=some (J pd)) 13 rfl (HS.out _ (yi _ _).drew) (fun hHeld=>?_);refine tk 0 ?_;refine tk 1 ?_;refine tk 2 ?_;refine tk 3 ?_;refine tk 4 ?_;refine tk 5 ?_;refine tk 6 ?_;refine tk 7 ?_;refine tk 8 ?_;refine te 9 fun K hK=>?_;go_simp;have hBE:Hid (Below w3.heap.size w3 (w3.alloc (.cells #[J pd,.string pb] 111)).drew):=((yi _ _).alloc (yb _) _).drew;refine hK.out _ _ (fun _=>HS.out _ hBE.out) (fun hHeld=>?_);clear hK K;try simp only[pU]
 have HE:Hid (BlkAt (w3.alloc (.cells #[J pd,.string pb] 111)).drew w3.heap.size 111 #[J pd,.string pb]):=(BlkAt.new w3 w3.heap.size rfl 111 _).drew;have hsE:Hid ((w3.alloc (.cells #[J pd,.string pb] 111)).drew.heap.size=w3.heap.size+1):=by simp[Hid]
 generalize (w3.alloc (.cells #[J pd,.string pb] 111)).drew=w4 at hBE HE hsE hHeld ⊢;refine te 10 fun K hK=>?_;refine step_append_lies w4 rfl (.tmp 22) (.tmp 27) 92 rfl 0 111 i0 _ 2 24 Tryz.underlying92 hi0 hz0 hz1 hz2 rfl (by decide) sv snt.length (parCells snt) rfl (qo P3.out.sent.row hBE.out) (aT w3.heap.size 0) 1 1 [J pd,.string pb] rfl rfl (yaB HE.out) (by intro u hu;simp only[yF,yU,or_false] at hu;rcases hu with rfl|rfl <;> rfl) (by omega) (by simp[maxLen];omega) (by omega) (yaA _) (w3.heap.size+1) hsE.out ?_;intro g cap w5 hown hgr hor hlt;have nb:some b≠sv.ownBlock:=fun e=>P3.out.sent.ne e.symm P3.out.blk (by decide) rfl;have hb4:b<w4.heap.size:=yg P3.out.blk.lt hBE.out.size;have hSf:Hid (w5.cell? (aT b 18)=some sv/\w5.cell? (aT w.heap.size 2)=some (J pd)):=by
  have h4:=HS.out _ hBE.out;have hx4:w.heap.size<w4.heap.size:=yg hsz3.out hBE.out.size;have nx:some w.heap.size≠sv.ownBlock:=fun e=>by have:=hevlt.out _ e.symm;omega
  exact⟨(hgr.cell_far ⟨b,18,none⟩ hb4 nb).trans h4.1,(hgr.cell_far ⟨w.heap.size,2,none⟩ hx4 nx).trans h4.2⟩
 have HFIN:Hid (Chg F w3 (w5.setCell ⟨b,18,none⟩ (sT g (snt.length+1) cap))/\_):=P3.out.sends hBE.out hgr (e:=(pd,pb)) hown (hor.imp id (fun e=>by omega));have hfz:w5.frozen? (aT b 18)=false:=by
  rw[hgr.frozen_far ⟨b,18,none⟩ hb4 nb];exact(P3.out.blk.below hBE.out P3.out.blk.lt).frozen 18
 clear hown hgr hor hlt hHeld HE hsE hBE HS nb hb4;refine hK.out _ _ (fun _=>hSf.out) (fun hHeld=>?_);clear hK K;try simp only[pU]
 have hHeld:=hHeld (by decide);refine te 11 fun K hK=>?_;go_simp;refine hK.out _ _ (fun _=>hSf.out) (fun hHeld=>?_);clear hK K;try simp only[pU]
 refine te 12 fun K hK=>?_;go_simp;refine hK.out _ _ (fun _=>hSf.out) (fun hHeld=>?_);clear hK K;try simp only[pU]
 have hHeld:=hHeld (by decide);refine te 13 fun K hK=>?_;go_simp;refine hK.out _ _ (fun h=>absurd rfl h) (fun _=>?_);clear hK K;try simp only[pU]
 refine Ends.done (by kernel_rfl) ?_ _;go_wp2_with fail
 go_end0
 refine⟨rfl,(Chg.of_below HB3.out).trans (HFIN.out.1.mono fun x _ hx=>.inl hx),_,HFIN.out.2.wide fun x hx=>hx.elim .inl fun hx=>.inr ?_⟩;have:=HB3.out.size;omega
theorem qm9{n j:Nat}{ms:List Codec.Msg}(hr:(kn.getD j []).length=n):Mo.rowL n j (mp kn ms evs)=kn.getD j []:=by
 refine ybp (by simp only[Mo.rowL,yL,List.length_range];omega) fun i h1 h2=>?_;simp only[Mo.rowL,ybe,List.getElem_range];show (kn.getD j []).getD i 0=_;rw[yj,yh h2];rfl
theorem qhe{n:Nat}(hn:n<=6){row:List Int}(hl:row.length=n)(ho:RowOk n row):Codec.listFits row=true:=by
 simp only[Codec.listFits,yB,decide_eq_true_eq,y5,Codec.inB_iff];refine⟨by omega,fun x hx=>?_⟩;obtain⟨i,hi,rfl⟩:=y4 hx;have:=ho i (by omega);rw[yj,yh hi] at this;exact this
theorem qjx{j q n:Nat}(hn:n<=6)(hj:j<n)(hq:q<n){row:List Int}(hl:row.length=n)(ho:RowOk n row):Codec.fits ⟨2,j,q,0,0,0,0,row,[],[]⟩=true:=by
 have hr:=qhe hn hl ho;have h0:Codec.listFits []=true:=rfl;have h1:Codec.msgsFit []=true:=rfl;simp only[Codec.fits,Codec.headFits,Codec.ballotsFit,yB,Codec.inB_iff,hr,h0,h1,and_true];refine⟨⟨⟨⟨?_,?_⟩,?_⟩,?_⟩,?_⟩ <;> omega
theorem PA.nums(p:PA w F b h kn l evs snt kb mb rbs es clk ev sv){r:Nat}(hr:rbs[h.num]?=some r)(hnum:h.num<h.n):NumsAt w w.heap.size (sT r h.n h.n) (kn.getD h.num []):=by
 obtain⟨r',hr',hbr,hrl, -⟩:=p.row_at hnum;rw[hr] at hr';injection hr' with hr';subst hr';refine .inr ⟨r,0,h.n,by rw[hrl],hbr.lt,fun j hj=>?_⟩;rw[yS];exact hbr.cell j _ (qcc hj)
theorem qna(hc:CalmHd h)(p:PA w F b h kn l evs snt kb mb rbs es clk ev sv)(hrow:RowOk h.n (kn.getD h.num []))(hs:snt.length<=1000000)(q:Nat)(hq:q<h.n) :
 Calls prog 111 #[pT b 0,J q] w fun e w'=>e=.returned (.tuple #[])/\Chg F w w'/\∃sv',PA w' (Plus F w) b h kn l evs (snt++[par (Mo.gossipF h.n h.num q (mp kn (l.map Prod.fst) evs))]) kb mb rbs es clk ev sv':=by
 obtain⟨r,hr,hbr,hrl, -⟩:=p.row_at hc.num;have HR:Hid (∀w',Below w.heap.size w w'->Calls prog 119 #[pT b 0] w' fun e w''=>e=.returned (sT r h.n h.n)/\Below w'.heap.size w' w''/\w''.heap=w'.heap):=fun w' hw=>qar (p.below hw) hr;have HSEND:Hid (∀w',Below w.heap.size w w'->Calls prog 165 #[pT b 0,.agg #[J 2,J 0,J q,J 0,J 0,J 0,J 0,sT r h.n h.n,sN,sN]] w' fun e w''=>e=.returned (.tuple #[])/\(w''.cell? (aT b 6)=some (J 0)/\w''.cell? (aT b 9)=some (J 0))/\Chg F w w''/\∃sv',PA w'' (Plus F w) b h kn l evs (snt++[par (Mo.gossipF h.n h.num q (mp kn (l.map Prod.fst) evs))]) kb mb rbs es clk ev sv'):=fun w' hw=>by
  have p':=p.below hw;unfold Mo.gossipF;rw[qm9 hrl];refine(qm8 p' ⟨2,h.num,q,0,0,0,0,kn.getD h.num [],[],[]⟩ rfl _ _ _ _ _ _ _ _ _ (p'.nums hr hc.num) (.inl ⟨⟨_,_,rfl⟩,rfl⟩) (.inl ⟨⟨_,_,rfl⟩,rfl⟩) (qjx hc.n1 hc.num hq hrl hrow) hs).mono ?_;rintro e w'' ⟨rfl,hch,sv',p''⟩;have c6:=p''.blk.cell 6 _ rfl;have c9:=p''.blk.cell 9 _ rfl;simp only[Hd.cells,yf,yd,ye,hc.view,hc.promised] at c6 c9;exact⟨rfl,⟨c6,c9⟩,(Chg.of_below hw).trans (hch.mono fun x _ hx=>.inl hx),sv',p''.wide fun x hx=>hx.elim .inl fun hx=>.inr (by have:=hw.size;omega)⟩
 have HS:Hid (∀w',Below w.heap.size w w'->w'.cell? (aT b 6)=some (J 0)/\w'.cell? (aT b 9)=some (J 0)):=fun w' hw=>by
  have c6:=(p.below hw).blk.cell 6 _ rfl;have c9:=(p.below hw).blk.cell 9 _ rfl;simp only[Hd.cells,yf,yd,ye,hc.view,hc.promised] at c6 c9;exact⟨c6,c9⟩
 clear p hbr hr hc hrow;go_enter Tryz.func111,Tryz.ntmps111
 go_wp2_with fail
 refine wp_region_held_drew (S:=fun w'=>w'.cell? (aT b 6)=some (J 0)/\w'.cell? (aT b 9)=some (J 0)) rfl (HS.out _ (yi _ _).drew) (fun hHeld=>?_);refine wk 0 ?_;refine wk 1 ?_;refine wk 2 ?_;refine wk 3 ?_;refine wk 4 ?_;refine wk 5 ?_;refine wk 6 ?_;refine wk 7 ?_;refine wk 8 ?_;refine wk 9 ?_;refine wk 10 ?_;refine we 11 fun K hK=>?_;go_simp;refine(HR.out _ (yi _ _).drew).mono ?_;rintro e w2 ⟨rfl,hb2, -⟩;have HB2:Hid (Below w.heap.size w w2):=((yi _ _).drew).trans (hb2.mono (by simp));clear hb2;go_wp2_with fail
 refine hK.out _ _ (HS.out _ HB2.out) (fun hHeld=>?_);clear hK K;try simp only[pU]
 refine wk 12 ?_;refine we 13 fun K hK=>?_;go_simp;refine(HSEND.out _ HB2.out).mono ?_;rintro e w3 ⟨rfl,hs3,hres⟩;have HRES:Hid (Chg F w w3/\∃sv',PA w3 (Plus F w) b h kn l evs (snt++[par (Mo.gossipF h.n h.num q (mp kn (l.map Prod.fst) evs))]) kb mb rbs es clk ev sv'):=hres;clear hres HSEND HR;go_wp2_with fail
 refine hK.out _ _ hs3 (fun hHeld=>?_);clear hK K;try simp only[pU]
 refine wpAnyH_done (by kernel_rfl) ?_ _;go_wp2_with fail
 go_end0
 exact⟨rfl,HRES.out⟩
end
end Go.Proofs.YtoklolfaemhfnaaGreatDoor

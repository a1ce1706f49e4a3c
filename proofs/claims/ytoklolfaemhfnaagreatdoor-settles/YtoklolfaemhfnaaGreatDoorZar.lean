import Derived.Lib.BufferWrite
import Derived.Laws.MakeOwn
import Derived.Test.YtoklolfaemhfnaaGreatDoorZaq
set_option maxRecDepth 100000
set_option maxHeartbeats 0
set_option linter.defProp false
open Go.Proofs.Tryz
namespace Go.Proofs.Y
section
open Go.RowKit
variable {w w':Δ}{rb X base n sz:Nat}{l:Ϭ}{cs:ϡ}{v:Θ}{xs:Ϣ}
def Iw:prog.cellsOf 5=1:=κ
def vD(s:ϝ)(w:Δ)(y:s.size<=4000000):ϖ 233 #[.string s] w λe C=>ϱ e (.string s)/\Ϟ w C:=by
 by_cases A:s.size=0
 .have G:s=⟨#[]⟩:=by apply ByteArray.ext;exact Array.eq_empty_of_size_eq_zero A
  subst G;go_enter func233,ntmps233;go_wp2;go_ret;exact⟨rfl,yi _ _⟩
 let ⟨u,z,p,d,i⟩:=info_parts rU
 obtain⟨M,m⟩:∃M,M=madeCells (Value.int .u8 0).cells (((s.size:Nat):Int).toNat*u.size):=⟨_,rfl⟩;have D:M.size=s.size:=by rw[m,size_madeCells,d];simp
 have B:=λW=>by have h:=run_make W 175 5 u _ underlying175 z p .i64 .i64 (s.size:Int) (s.size:Int) ω ω (by rw[i];lia) ω;rw[<-m]at h;simpa using h
 clear m;have t:=Lib.run_copy_row_string _ 175 9 3 5 _ 0 s.size s.size s M 5 underlying175 (by rw[z];simp[d]:(prog.info? 5).map (·.size)=some 1) (heap_alloc_new w _) Ϫ ω;obtain⟨Y,q⟩:∃Y,Y=(M.toList.take 0++Lib.byteCells s.data.toList++M.toList.drop (0+s.size)).toArray:=⟨_,rfl⟩;rw[<-q]at t;have c:Y.toList=Lib.byteCells s.data.toList:=by rw[q,List.toList_toArray,List.take_zero,List.nil_append,List.drop_of_length_le (by rw[AG];lia),IX]
 have F:Y.size=s.size:=by rw[<-AG,c,Lib.byteCells_length,<-Lib.size_eq]
 have b:((w.alloc (.cells M 5)).setRow w Y).heap[w.heap.size]?=some (.cells Y 5 (0,0)):=setRow_heap _ _ M _ 5 (0,0) (heap_alloc_new w _);have r:=Lib.run_unsafeString_row ((w.alloc (.cells M 5)).setRow w Y) 275 3 9 5 underlying275 Iw w Y.size (by unfold World.shape?;rw[b]) s.data.toList (λe=>A (by rw[Lib.size_eq,e];rfl)) (by rw[<-Lib.size_eq];lia) (by rw[<-Lib.size_eq];lia)
  (λj x E=>Lib.cells_of_row b Y.size j _ (by rw[yX (AG▸Ϫ),c];simp[Lib.byteCells,E]))
 rw[<-Lib.size_eq]at r;clear q;go_enter func233,ntmps233;go_wp2;go_ret;have o:Below w (w.alloc (.cells M 5)) ((w.alloc (.cells M 5)).setRow w Y):=⟨rfl,rfl,rfl,ς,λk H=>setRow_other _ _ _ _ ω⟩;exact⟨rfl,Lib.below_freeze (((yi _ w).alloc Ϫ _).trans o) (p:=(aT w 0)) Ϫ _⟩
def jW(s:ϝ)(w:Δ)(a:s.size<=4000000):ϖ 183 #[.string s] w λe c=>ϱ e (.string s)/\Ϟ w c:=by
 go_enter func183,ntmps183;go_wp2_with (go_at_call 233;apply (vD s _ a).m;rintro d b);go_ret;exact⟨rfl,b⟩
def cI.g{d:Δ}(h:cI w w' rb l)(a:Ϟ w' d):cI w d rb l:=
 ⟨⟨(a.cell h.1.c).trans h.1.1,(a.frozen h.1.c).trans h.1.2⟩,a.os.trans h.2.os,a.tape.trans h.2.tape,a.output.trans h.2.output,yr h.2.size a.size,
   λb c e=>(a.block b (yg c h.2.size)).trans (h.2.block b c e)⟩
def cI.put(h:cI w w' rb l)(b:Ϭ):cI w (w'.setCell ⟨rb,0,none⟩ (.string ⟨b.toArray⟩)) rb b:=by refine h.b ⟨⟨World.cell?_setCell_same _ _ _ h.1.1,ϰ h.1.2⟩,rfl,rfl,rfl,ς,λk c a=>?_⟩;exact yT _ _ _ _ λe=>a (congrArg some e)
def fM(l:Ϭ)(n:Nat):(⟨l.toArray⟩:ϝ).extract 0 n=⟨(l.take n).toArray⟩:=by apply ByteArray.ext;apply Array.ext';rw[Lib.extract_data];simp
def tI(l:Ϭ)(n m:Nat)(a:l.length<=m):(⟨l.toArray⟩:ϝ).extract n m=⟨(l.drop n).toArray⟩:=by apply ByteArray.ext;apply Array.ext';rw[Lib.extract_data];simp;rw[yX (by simp;lia)]
def E9(l r:Ϭ)(x:ϝ)(j:Nat)(w:Δ)(s:Codec.uR l=(x,r))(h:kz w j l)(y:l.length<=140737488351232):ϖ 245 #[pT j 0] w λe D=>ϱ e (.string x)/\cI w D j r:=by
 obtain⟨n,k,o⟩:∃n k,Codec.eW l=(n,k):=⟨_,_,rfl⟩;have i:=aN l;rw[o]at i
 let ⟨c,p,q⟩:=i
 simp only at c p q;obtain⟨n,rfl⟩:=Fi c;have f:=s;rw[Codec.uR,o]at f;simp at f
 let ⟨z,g⟩:=f
 have A:Hid (_=_):=z;have m:Hid (_=_):=g;have t:Hid (_=_):=o;have u:=h.c;by_cases B:n<=k.length
 .go_enter func245,ntmps245;go_wp21;apply (cT l _ k j _ t h y).m;rintro E a
  let ⟨F,G⟩:=a.1
  go_wp21
  apply (jW _ _ (by rw[fM];show (List.toArray _).size<=_;simp;lia)).m;rintro H d;have b:=a.g d
  let ⟨I,C⟩:=b.1
  go_wp2
  go_ret;refine⟨?_,?_⟩;show Ending.returned (.string _)=_;rw[fM,A];rw[tI _ _ _ Ϫ,m];exact b.put r
 go_enter func245,ntmps245;go_wp21;apply (cT l _ k j _ t h y).m;rintro E a
 let ⟨F,G⟩:=a.1
 go_wp21
 apply (jW _ _ (by rw[fM];show (List.toArray _).size<=_;simp;lia)).m;rintro H d;have b:=a.g d
 let ⟨I,C⟩:=b.1
 go_wp2
 go_ret;refine⟨?_,?_⟩;show Ending.returned (.string _)=_;rw[fM,<-A,AE,yX ω];rw[<-m,List.drop_of_length_le ω];exact b.put []
def jd(l:Ϭ):(Codec.mW l).1.length<256/\(Codec.mW l).2.length<=l.length:=by
 have h:=aN l;have g:∀(m:Nat)(s:Ϭ),(Codec.gM m s).2.length<=s.length:=by
  intro m;induction m with
  |zero=>intro s;exact Ϫ
  |succ m a=>intro s;rw[Codec.gM];exact yr (a _) (aN s).2.2
 unfold Codec.mW;exact⟨by rw[wE];lia,yr (g _ _) h.2.2⟩
def zz(l:Ϭ):(Codec.uR l).2.length<=l.length:=by have h:=aN l;simp[Codec.uR];lia
def lH(l:Ϭ):(Codec.ky l).2.length<=l.length:=by unfold Codec.ky;exact yr (aN _).2.2 (yr (aN _).2.2 (yr (aN _).2.2 (aN _).2.2))
def uc(l b:Ϭ)(z:Int)(a:Nat)(w:Δ)(d:Codec.ky l=(z,b))(h:kz w a l)(f:l.length<=140737488351232):ϖ 201 #[pT a 0] w λe c=>ϱ e (J z)/\cI w c a b:=by
 have:=Fe l a w h f;rwa [d]at this
def af.rd{T:ϟ}(h:af w X T cs)(r:cI w w' rb l)(a:X≠rb):af w' X T cs:=by unfold af;rwa [r.2.block X h.f λe=>a (by injection e)]
def af.k{T:ϟ}(h:af w X T cs){a:Option Nat}(c:w.grownBy w' a)(b:a≠some X):af w' X T cs:=by unfold af;rwa [c.block X h.f (Ne.symm b)]
def cI.a(h:cI w w' rb l)(g:w<=X)(d:X≠rb)(j:Nat)(u:Θ):cI w (w'.setCell ⟨X,j,none⟩ u) rb l:=
 have f:(w'.setCell ⟨X,j,none⟩ u).heap[rb]?=w'.heap[rb]?:=yT _ _ _ _ λe=>d e.symm
 ⟨⟨(yq f).trans h.1.1,(G4 f).trans h.1.2⟩,h.2.os,h.2.tape,h.2.output,ϰ h.2.size,
   λb c a=>(yT _ _ _ _ λe=>by have:b=X:=e;lia).trans (h.2.block b c a)⟩
def eK{e:ϟ}(h:w.ownsRow base e sz v n xs)(r:cI w w' rb l)(b:rb<base):w'.ownsRow base e sz v n xs:=by apply h.kept r.2;rcases a:v.ownBlock with _|g;exact .inl rfl;right;intro e;injection e with e;have:=(h.lt g a).1;lia
def aS{e:ϟ}(h:w.ownsRow base e sz v n xs):∃f k c,v=.slice f k c:=by rcases h.2 with ⟨a,_⟩|⟨g,b,d,a,_⟩;exact⟨_,_,_,a⟩;exact⟨_,_,_,a⟩
def Gu(l l2:Ϭ)(m:ϥ)(g:Nat)(w:Δ)(hz:Codec.Cz l=(m,l2))(h:kz w g l)(hl:l.length<=140737488351232):ϖ 203 #[pT g 0] w λe w'=>∃S,ϱ e (.agg #[J m.a,J m.seq,S,.string m.b])/\w'.ownsRow w 3 1 S m.c.length (ints m.c)/\cI w w' g l2:=by
 obtain⟨a,z,P⟩:∃n z,Codec.eW l=(n,z):=⟨_,_,rfl⟩;obtain⟨b,y,Q⟩:∃n y,Codec.eW z=(n,y):=⟨_,_,rfl⟩;obtain⟨Y,C,O⟩:∃n C,Codec.mW y=(n,C):=⟨_,_,rfl⟩;obtain⟨x,U,T⟩:∃n U,Codec.uR C=(n,U):=⟨_,_,rfl⟩;have V:=(aN l).2.2;have b3:=(aN z).2.2;have Z:=(jd y).2;rw[P]at V;rw[Q]at b3;rw[O]at Z;simp only at V b3 Z;have e:Codec.Cz l=(⟨a,b,Y,x⟩,U):=by simp only[Codec.Cz,P,Q,O,T]
 rw[e]at hz;injection hz with hm hl5;subst hm;subst hl5;simp only;have H1:Hid (_=_):=P;have H3:Hid (_=_):=Q;have H4:Hid (_=_):=O;have H5:Hid (_=_):=T;have W:=h.c;go_enter func203,ntmps203;go_wp21;apply (cT l a z g _ H1 ((h.b _).b _) hl).m;rintro w1 N;have k:w.heap.size+1≠g:=ω;have j:w≠g:=ω;have s:w.heap.size+1≠w:=ω;have F:=(((cI.h h).d _).d _).b N;have t:=(af.d (w.alloc (.cells #[J 0,J 0,sN,.string ⟨#[]⟩] 179)) (w.heap.size+1) ς 179 #[J 0,J 0,sN,.string ⟨#[]⟩]).rd N k;have M:=((af.d w _ rfl 179 #[J 0,J 0,sN,.string ⟨#[]⟩]).g (.cells #[J 0,J 0,sN,.string ⟨#[]⟩] 179)).rd N j;have c:=t.z 0;have f:=t.b 0;go_wp21;replace F:=F.a (show w.heap.size<=w+1 by lia) k 0 (J a);replace t:=t.e 0 (J a);replace M:=M.h s.symm 0 (J a);apply (cT z b y g _ H3 F.1 ω).m;rintro w2 I;have H:=F.b I;have r:=t.rd I k;have L:=M.rd I j;have c:=r.z 1;have f:=r.b 1;go_wp21;replace H:=H.a (show w.heap.size<=w+1 by lia) k 1 (J b);replace r:=r.e 1 (J b);replace L:=L.h s.symm 1 (J b);apply (pY y C Y g _ H4 H.1 ω).mono;rintro e w3⟨S,rfl,E,R⟩;have G:=H.b R;have u:=r.rd R k;have K:=L.rd R j;have B:=r.f;obtain⟨d,p,q,rfl⟩:=aS E;have c:=u.z 2;have f:=u.b 2;go_wp21;replace G:=G.a (show w.heap.size<=w+1 by lia) k 2 (.slice d p q);replace u:=u.e 2 (.slice d p q);replace K:=K.h s.symm 2 (.slice d p q);replace E:=ownsRow_setCell_below E (a:=⟨w.heap.size+1,2,none⟩) B (.slice d p q);apply (E9 C _ x g _ H5 G.1 ω).m;rintro w4 A;have D:=u.rd A k;have o:=K.rd A j;have O4:=eK E A ω;have c:=D.z 3;have f:=D.b 3;have c0:=D.z 0;have c1:=D.z 1;have c2:=D.z 2;have g0:=o.z 0;have g1:=o.z 1;have g2:=o.z 2;have g3:=o.z 3;have q0:=o.b 0;have q1:=o.b 1;have q2:=o.b 2;have q3:=o.b 3;go_wp2;have i:w.heap.size<(w2.setCell ⟨w.heap.size+1,1,none⟩ (J b)).heap.size:=ω;exact bodyPost_ret (v:=.agg #[J a,J b,.slice d p q,.string x]) (by simp[results,results203,go_sem,g0,g1,g2,g3]) rfl ⟨_,rfl,aD (ownsRow_setCell_below (ownsRow_setCell_below (ownsRow_setCell_below (ownsRow_setCell_below (ownsRow_setCell_below O4 (a:=⟨w.heap.size+1,3,none⟩) B (.string x)) (a:=(aT w 0)) i (J a)) (a:=(aT w 1)) i (J b)) (a:=(aT w 2)) i (.slice d p q)) (a:=(aT w 3)) i (.string x)) ω,((((((G.b A).a (show w.heap.size<=w+1 by lia) k 3 (.string x)).a Ϫ j 0 (J a)).a Ϫ j 1 (J b)).a Ϫ j 2 (.slice d p q)).a Ϫ j 3 (.string x))⟩

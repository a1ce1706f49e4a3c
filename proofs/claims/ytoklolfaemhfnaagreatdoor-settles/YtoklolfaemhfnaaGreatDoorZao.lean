import Derived.Lib.AppendStr
import Derived.Lib.UnsafeStr
import Derived.Laws.IdiomStrings
import Derived.Test.YtoklolfaemhfnaaGreatDoorZan
set_option maxRecDepth 100000
set_option maxHeartbeats 0
set_option linter.defProp false
open Go.Proofs.Tryz
namespace Go.Proofs.Y
section
open Go.RowKit
variable {v v':Θ}{w w':Δ}{base n:Nat}{bs:Ϭ}
def rU:(prog.info? 5).map (λi=>(i.zero,i.size,i.bytes))=some (some (.int .u8 0),1,1):=κ
def ez(w:Δ)(base:Nat)(v:Θ)(bs:Ϭ):Prop:=w.ownsRow base 5 1 v bs.length (Lib.byteCells bs)
def qB(w:Δ)(v:Θ)(w':Δ)(v':Θ):Prop:=
 w.grownBy w' v.ownBlock/\(v'.ownBlock=v.ownBlock\/∃g,v'.ownBlock=some g/\w.heap.size<=g)
def qB.c(h:qB w v w' v'):w.heap.size<=w':=h.1.size
def qB.f(h:qB w v w' v'){b:Nat}(a:b<w)(d:v.ownBlock≠some b):v'.ownBlock≠some b:=by rcases h.2 with e|⟨g,e,c⟩;grind;grind
def qB.a{i f:Δ}{d j:Θ}(h:qB w v i d)(k:qB i d f j):qB w v f j:=by refine⟨⟨k.1.os.trans h.1.os,k.1.tape.trans h.1.tape,k.1.output.trans h.1.output,yr h.c k.c,λb c a=>?_⟩,?_⟩;have p:=h.1.block b c a;have o:=k.1.block b (yg c h.c) λe=>(h.f c λm=>a m.symm) e.symm;grind;rcases k.2 with e|⟨g,e,l⟩;rw[e];exact h.2;exact .inr ⟨g,e,yr h.c l⟩
def qB.b(w:Δ)(v:Θ)(o:Obj):qB w v (w.alloc o) v:=
 ⟨⟨rfl,rfl,rfl,ς,λk a _=>yQ _ _ _ a⟩,.inl rfl⟩
def qB.e(h:qB w v w' v'){a:Addr}{u:Θ}(b:w.cell? a=some u)(c:v.ownBlock≠some a.block):w'.cell? a=some u:=h.1.cell b (Ne.symm c)
def qB.d(h:qB w v w' v')(a:base<=w)(b:∀k,v.ownBlock=some k->base<=k):Below base w w':=
 (yi base w).grown h.1 a b
def qB.mk{H:Nat}(b:w.grownBy w' v.ownBlock)(a:v'.ownBlock=v.ownBlock\/v'.ownBlock=some H)(c:w<=H):qB w v w' v':=
 ⟨b,ν⟩
def ez.c(h:w.ownsRow base 5 1 v n (Lib.byteCells bs)):ez w base v bs:=by have e:=h.1;rw[Lib.byteCells_length,Nat.mul_one]at e;subst e;exact h
def ez.f{a:Ϭ}(h:w.ownsRow base 5 1 v n (Lib.byteCells bs))(e:bs=a):ez w base v a:=e▸ez.c h
def ez.d(h:ez w base v bs)(k:Nat)(a:v.ownBlock=some k):base<=k/\k<w:=World.ownsRow.lt h k a
def ez.e(h:ez w base v bs):v.ownBlock≠some w.heap.size:=λe=>ϕ ((h.d _ e).2)
def ez.b(h:ez w base v bs)(o:Obj):ez (w.alloc o) base v bs:=World.ownsRow.alloc h o
def ez.nil(w:Δ)(a:Nat):ez w a (sN) []:=y9 _ _ _ _
def ez.a(h:ez w base v bs):∃d n c,v=.slice d n c:=by rcases h.2 with ⟨e,_⟩|⟨g,a,b,e,_⟩;grind;grind
def nf(w:Δ)(h:ϟ)(i:TypeInfo)(k:prog.info? 5=some i)(q:i.zero=some (.int .u8 0))(a:i.size=1)(p:i.bytes=1)(b:ez w base v bs)(s:ϝ)(l:bs.length+s.size<=1000000000)(f:(Builtin.append_ #[175,9] h #[v,.string s]).run prog w=.ok v' w'):v'.ownBlock=v.ownBlock\/v'.ownBlock=some w.heap.size:=by
 have z:=Lib.byteCells_length bs;rcases b.2 with ⟨rfl,D⟩|⟨g,e,o,rfl,C,A,y,B,x,m⟩
 .by_cases t:s.size=0
  .have r:=Lib.run_firstCells_string (P:=prog) w 1 s;rw[t]at r;have:(Builtin.append_ #[175,9] h #[sN,.string s]).run prog w=.ok (sN) w:=by simp[Builtin.append_,run_underlying _,sizeOf,typeInfo,k,a,Builtin.lenOf,t,r]
   grind
  have:=run_append_nil_string w 175 9 h 5 i _ underlying175 underlying9 k q s ω ω ν;rw[this]at f;injection f with h1 h2;rw[<-h1];exact .inr rfl
 by_cases c:bs.length+s.size<=e
 have:=Lib.run_append_room_string (P:=prog) w 175 9 h 5 i underlying175 underlying9 k a g bs.length e o A s c ω;rw[this]at f;injection f with h1 h2;rw[<-h1];exact .inl rfl;have:=Lib.run_append_grow_string (P:=prog) w 175 9 h 5 i (.int .u8 0) underlying175 underlying9 k q ⟨g,0,none⟩ bs.length e (Lib.byteCells bs) ν (World.ownsRow.cells b (g:=g) rfl) s ω ω (p▸growslice_fits ω ω);rw[this]at f;injection f with h1 h2;rw[<-h1];exact .inr rfl
def xg(n:Nat)(a:n<4294967296):Lib.byteCells (Codec.cj n)=[.int .u8 ((n:Int)/16777216),.int .u8 ((n:Int)/65536%256),.int .u8 ((n:Int)/256%256),.int .u8 ((n:Int)%256)]:=by simp[Lib.byteCells,Codec.cj];lia
def ek(v:Θ)(k:Ϭ)(n:Nat)(r:n<4294967296)(a:Nat)(w:Δ)(f:ez w a v k)(x:k.length<=100000000)(y:a<=w):ϖ 206 #[v,.int .u32 n] w λe o=>∃g,ϱ e g/\ez o a g (k++Codec.cj n)/\qB w v o g:=by
 let ⟨q,s,i,m,h⟩:=info_parts rU
 have t:Hid (_=_):=xg n r;go_enter func206,ntmps206;go_wp2_with (at_builtin;apply wpList_append_own_at _ rfl _ _ 175 rfl a 5 q _ 1 1 underlying175 s i m h rfl θ _ _ _ rfl (World.ownsRow.alloc f _) (aT w 0) 4 4 [.int .u8 ((n:Int)/16777216),.int .u8 ((n:Int)/65536%256),.int .u8 ((n:Int)/256%256),.int .u8 ((n:Int)%256)] rfl rfl ?c1 ?c2 ?c3 ?c4 ?c5)
 case c1=>
  intro j u b;match j,b with
  |0,b=>simp at b;subst b;simp[Addr.add]
  |1,b=>simp at b;subst b;simp[Addr.add]
  |2,b=>simp at b;subst b;simp[Addr.add]
  |3,b=>simp at b;subst b;simp[Addr.add]
 case c2=>intro u p;simp at p;rcases p with rfl|rfl|rfl|rfl<;>rfl
 case c3=>unfold maxLen;lia
 case c4=>lia
 case c5=>simp;lia
 intro g z c d _ l;rw[<-t,<-Lib.byteCells_append]at c;go_wp2;go_ret;exact⟨_,rfl,by simpa[ez,Codec.br]using c,(qB.b w v _).a (qB.mk d l ς)⟩
def iN(w:Δ)(x:Int):∀j u,[Value.int .u8 x][j]?=some u->(w.alloc (.cells #[.int .u8 x] 5)).cell? ((⟨w,0,none⟩:Addr).add j)=some u:=by
 intro j u a;match j,a with
 |0,a=>simp at a;subst a;simp[Addr.add]
def jZ(x:Int):∀u∈[Value.int .u8 x],u.oneCell'=true:=by intro u a;simp at a;subst a;rfl
def gH(a:Ϭ)(b:UInt8)(x:Int)(h:(b.toNat:Int)=x):Lib.byteCells a++[Value.int .u8 x]=Lib.byteCells (a++[b]):=by subst h;simp[Lib.byteCells]
def FW(l:Υ)(k:Nat)(a:k<l.length):(l.take (k+1)).map Codec.b8=(l.take k).map Codec.b8++[Codec.b8 (l.getD k 0)]:=by rw[Lu a,y8,yj,yh a];rfl
def ly{l:Υ}(h:Codec.aA l=true):l.length<=6/\∀k,k<l.length->0<=l.getD k 0/\l.getD k 0<=20:=by simp only[Codec.aA,yB,decide_eq_true_eq,y5]at h;refine⟨h.1,λk a=>?_⟩;rw[yj,yh a];exact Codec.de.1 (h.2 _ (AF a))
def gB(v:Θ)(s:Ϭ)(P:Θ)(l:Υ)(B c:Nat)(w:Δ)(f:ez w c v s)(T:s.length<=90000000)(Q:c<=w)(Y:B<=c)(Z:aw w B P l)(O:Codec.aA l=true):ϖ 250 #[v,P] w λe M=>∃m,ϱ e m/\ez M c m (s++Codec.dH l)/\qB w v M m:=by
 let ⟨D,E,q,r,p⟩:=info_parts rU
 let ⟨h6,t⟩:=ly O
 have G:Hid (∀k,k<l.length->0<=l.getD k 0/\l.getD k 0<=20):=t;have S:Hid (∀k,v.ownBlock=some k->c<=k):=λk N=>(f.d k N).1;rcases Z with ⟨⟨U,c0,rfl⟩,rfl⟩|⟨b,y,a0,rfl,R,K⟩
 .go_enter func250,ntmps250;go_wp2_with (at_builtin;apply wpList_append_own_at _ rfl _ _ 175 rfl c 5 D _ 1 1 underlying175 E q r p rfl θ _ _ _ rfl (World.ownsRow.alloc f _) (aT w 0) 1 1 [.int .u8 0] rfl rfl (iN _ _) (jZ _) ?c3 ?c4 ?c5)
  case c3=>unfold maxLen;lia
  case c4=>lia
  case c5=>simp;lia
  intro m H a d _ h;rw[gH s 0 0 rfl]at a;go_wp2;go_loop [0,15] (λu i=>u=m/\i=J 0) λ_ _=>0
  case atStart=>simp
  case round=>
   obtain⟨rfl,rfl⟩:=hrel;go_wp2;go_ret;exact⟨_,rfl,by simpa[ez,Codec.dH]using a,(qB.b w v _).a (qB.mk d h ς)⟩
 have V:Hid (∀j,j<l.length->w.cell? ⟨b,y+j,none⟩=some (J (l.getD j 0))):=K;go_enter func250,ntmps250;go_wp2_with (at_builtin;apply wpList_append_own_at _ rfl _ _ 175 rfl c 5 D (.int .u8 0) 1 1 underlying175 E q r p rfl θ _ _ _ rfl (World.ownsRow.alloc f _) (aT w 0) 1 1 [.int .u8 (l.length:Int)] rfl rfl (iN _ _) (jZ _) ?c3 ?c4 ?c5)
 case c3=>unfold maxLen;lia
 case c4=>lia
 case c5=>simp;lia
 intro m H a d _ h;rw[gH s (UInt8.ofNat l.length) _ (by simp;lia)]at a;have g:qB w v H m:=(qB.b w v _).a (qB.mk d h ς);go_wp2;go_loopw [0,15] (λm i wr=>∃k:Nat,k<=l.length/\i=J k/\ez wr c m (s++[UInt8.ofNat l.length]++(l.take k).map Codec.b8)/\qB w v wr m) λ_ i _=>l.length-(intOf i).toNat
 case atStart=>exact⟨0,ω,rfl,by simpa[ez]using a,g⟩
 case round=>
  obtain⟨k,N,rfl,f,g⟩:=hrel;have W:=g.c;by_cases o:k<l.length
  .have F:=((g.d Q S).cell (p:=⟨b,y+k,none⟩) ν).trans (V k o);have L:=G k o;have I:Hid (_=_):=FW l k o;generalize l.getD k 0=x at F L I
   let ⟨C,X⟩:=L
   go_wp2_with (at_builtin;apply wpList_append_own_at _ rfl _ _ 175 rfl c 5 D (.int .u8 0) 1 1 underlying175 E q r p rfl θ _ _ _ rfl (World.ownsRow.alloc f _) (aT wr 0) 1 1 [.int .u8 x] rfl rfl (iN _ _) (jZ _) ?c3 ?c4 ?c5)
   case c3=>unfold maxLen;simp;lia
   case c4=>simp;lia
   case c5=>simp;lia
   intro m H a d _ h;rw[gH _ (Codec.b8 x) _ (Codec.ca C ω)]at a;go_wp2;go_roundw
   case rel=>exact⟨k+1,ω,by go_num,ez.f a (by rw[I];simp),g.a ((qB.b wr _ _).a (qB.mk d h ς))⟩
   case measure=>simp[intOf];lia
  go_wp2
  go_ret;exact⟨_,rfl,by rw[yX ω]at f;simpa[Codec.dH]using f,g⟩
def nt{i:Array Oper}{e:List Oper}{o:Oper}{a:Act}{Q:Exit->Act->Ξ}(w:Δ)(p:o.guard=none)(u x:Operand)(A:o.op=.call {callee:=.builtin .append,args:=#[u,x],argTypes:=#[175,9]})(b:Nat)(v:Θ)(q:Ϭ)(D:a.eval u=v)(d:ez w b v q)(s:ϝ)(B:a.eval x=.string s)(c:q.length+s.size<=1000000000)(f:b<=w)(h:∀l j,ez j b l (q++s.data.toList)->qB w v j l->wpList prog i Q e (a.put o.dst l) j):wpList prog i Q (o::e) a w:=by
 let ⟨t,y,k,m,g⟩:=info_parts rU
 refine wpList_plain p λK E=>?_;obtain⟨l,j,z,F,C,G⟩:=Lib.run_append_own_string w b 175 9 _ 5 t underlying175 underlying9 y k m g v _ _ d s (by unfold maxLen;lia) ω f;have r:=nf w o.type t y k m g d s c z;unfold Oper.wp execOp;simp only[A,resolve,invoke,builtin,Sem.run_bind,Sem.run_pure,Result.andThen_ok,Fj,yN,Cx,D,B,z];exact E _ _ (h l j (ez.c (by rwa [Lib.byteCells_append])) (qB.mk C r Ϫ))
def zC(w:Δ)(H:Nat)(b:w=H)(x y:Int):∀j u,[Value.int .u8 x,.int .u8 y][j]?=some u->(w.alloc (.cells #[.int .u8 x,.int .u8 y] 5)).cell? ((⟨H,0,none⟩:Addr).add j)=some u:=by
 subst b;intro j u a;match j,a with
 |0,a=>simp at a;subst a;simp[Addr.add]
 |1,a=>simp at a;subst a;simp[Addr.add]
def rY{m:ϥ}(h:Codec.aK m=true):0<=m.a/\m.a<=5/\1<=m.seq/\m.seq<=20/\Codec.aA m.c=true/\m.b.size<=16:=by simp only[Codec.aK,yB,decide_eq_true_eq,Codec.de]at h;grind
def qE(v:Θ)(q:Ϭ)(m:ϥ)(Q:Θ)(B a:Nat)(w:Δ)(i:ez w a v q)(a1:q.length<=80000000)(hB:a<=w)(A:B<=a)(T:aw w B Q m.c)(Y:Codec.aK m=true):ϖ 251 #[v,.agg #[J m.a,J m.seq,Q,.string m.b]] w λe W=>∃D,ϱ e D/\ez W a D (q++Codec.pn m)/\qB w v W D:=by
 let ⟨S,U,t,y,s⟩:=info_parts rU
 let ⟨s0,s1,q0,q1,x,a3⟩:=rY Y
 obtain⟨C,G,N,rfl⟩:=T.b;have f:=i.e;have HV:Hid (∀k,v.ownBlock=some k->a<=k):=λk hk=>(i.d k hk).1;have a0:=(ly x).1;go_enter func251,ntmps251;go_wp2_with (at_builtin;apply wpList_append_own_at _ rfl _ _ 175 rfl a 5 S _ 1 1 underlying175 U t y s rfl θ _ _ _ rfl (World.ownsRow.alloc (World.ownsRow.alloc i _) _) ⟨w.heap.size+1,0,none⟩ 2 2 [.int .u8 m.a,.int .u8 m.seq] rfl rfl ?c1 ?c2 ?c3 ?c4 ?c5)
 case c1=>exact zC (w.alloc _) _ ς _ _
 case c2=>intro u Z;simp at Z;rcases Z with rfl|rfl<;>rfl
 case c3=>unfold maxLen;lia
 case c4=>lia
 case c5=>simp;lia
 intro I M h b _ j;have d:qB (w.alloc (.cells #[J m.a,J m.seq,.slice C G N,.string m.b] 179)) v M I:=(qB.b _ v _).a (qB.mk b j ς);have F:ez M a I (q++[Codec.b8 m.a,Codec.b8 m.seq]):=ez.c (n:=q.length+2) (by
  have e:Lib.byteCells (q++[Codec.b8 m.a,Codec.b8 m.seq])=Lib.byteCells q++[.int .u8 m.a,.int .u8 m.seq]:=by simp[Lib.byteCells,Codec.ca s0 (show m.a<256 by lia),Codec.ca (show 0<=m.seq by lia) (show m.seq<256 by lia)]
  rwa [e])
 have O:=d.c;simp at O;have g:=d.f (b:=w.heap.size) ς f;have d2:=d.e (a:=(aT w 2)) (u:=.slice C G N) ς f;go_wp21;apply (gB I _ (.slice C G N) m.c B a _ F ν ω A (T.a ((((yi a w).alloc hB _).trans (d.d (by simp;lia) HV)).mono A)) x).mono;rintro e w2⟨R,rfl,H,l⟩;have a4:=l.c;have z:=l.e (a:=(aT w 3)) (d.e (a:=(aT w 3)) (u:=.string m.b) ς f) g;go_wp2_with (at_builtin;apply wpList_append_own_at _ rfl _ _ 175 rfl a 5 S (.int .u8 0) 1 1 underlying175 U t y s rfl θ _ _ _ rfl (World.ownsRow.alloc H _) (aT w2 0) 1 1 [.int .u8 (m.b.size:Int)] rfl rfl (iN _ _) (jZ _) ?c3 ?c4 ?c5)
 case c3=>unfold maxLen;simp[Codec.dH];lia
 case c4=>simp[Codec.dH];lia
 case c5=>simp;lia
 intro v3 w3 c b _ j;have o:qB w2 R w3 v3:=(qB.b _ R _).a (qB.mk b j ς);rw[gH _ (UInt8.ofNat m.b.size) _ (by simp;lia)]at c;have a2:=o.c;have V:=o.e (a:=(aT w 3)) z (l.f (b:=w.heap.size) ω g);go_wp2_with (at_builtin;apply nt _ rfl _ _ rfl a _ _ rfl (ez.c c) m.b rfl ?h1 ?h2)
 case h1=>simp[Codec.dH];lia
 case h2=>lia
 intro v4 w4 L P;go_wp2;go_ret;exact⟨_,rfl,by simpa[Codec.pn]using L,(((qB.b w v _).a d).a l).a (o.a P)⟩
def ew{l:Υ}(h:Codec.aA l=true):(Codec.dH l).length<=7:=by have:=(ly h).1;simp[Codec.dH];lia
def wm{m:ϥ}(h:Codec.aK m=true):(Codec.pn m).length<=26:=by
 let ⟨_,_,_,_,a,b⟩:=rY h
 have:=ew a;have e:m.b.data.toList.length=m.b.size:=by rw[AG];rfl
 simp[Codec.pn];lia
def mD(l:List ϥ)(h:l.all Codec.aK=true):(Codec.ef l).length<=26*l.length:=by
 induction l with
 |nil=>simp[Codec.ef]
 |cons m l a=>
  simp only[List.all_cons,yB]at h;have c:=wm h.1;have b:=a h.2;rw[(by simp[Codec.ef]:Codec.ef (m::l)=Codec.pn m++Codec.ef l),yC,yx];lia
def zo(l:List ϥ)(k:Nat)(m:ϥ)(b:l[k]?=some m):Codec.ef (l.take (k+1))=Codec.ef (l.take k)++Codec.pn m:=by
 let ⟨a,c⟩:=ym.1 b
 rw[Lu a,Codec.xE,c]
def ba.c{w:Δ}{B n c:Nat}{o:ϣ}{l:List ϥ}(h:ba w B (.slice o n c) l):n=l.length/\∀k m,l[k]? =some m->∃b a g e f,o=some ⟨b,a,none⟩/\b<B/\w.cell? ⟨b,a+k*4,none⟩=some (J m.a)/\w.cell? ⟨b,a+k*4+1,none⟩=some (J m.seq)/\
   w.cell? ⟨b,a+k*4+2,none⟩=some (.slice g e f)/\w.cell? ⟨b,a+k*4+3,none⟩=some (.string m.b)/\aw w B (.slice g e f) m.c:=by
 rcases h with ⟨⟨x,y,d⟩,rfl⟩|⟨b,a,r,d,v,t⟩;simp at d;exact⟨by simp[d],λk m i=>by simp at i⟩;simp at d;refine⟨d.2.1,λk m i=>?_⟩
 let ⟨z,s,p,u,q,j⟩:=t k m i
 obtain⟨g,e,f,rfl⟩:=j.b;exact⟨b,a,g,e,f,d.1,v,s,p,u,q,j⟩
def DY(k a b m:Int)(v u t:Nat)(d c:Υ)(e:List ϥ):Codec.gT ⟨k,a,b,m,v,u,t,d,c,e⟩=(([Codec.b8 k,Codec.b8 a,Codec.b8 b,Codec.b8 m]++Codec.cj v++Codec.cj u++Codec.cj t++Codec.dH d++Codec.dH c)++[UInt8.ofNat e.length])++Codec.ef e:=rfl
def x4(w:Δ)(H:Nat)(b:w=H)(x y z t:Int):∀j u,[Value.int .u8 x,.int .u8 y,.int .u8 z,.int .u8 t][j]?=some u->(w.alloc (.cells #[.int .u8 x,.int .u8 y,.int .u8 z,.int .u8 t] 5)).cell? ((⟨H,0,none⟩:Addr).add j)=some u:=by
 subst b;intro j u a;match j,a with
 |0,a=>simp at a;subst a;simp[Addr.add]
 |1,a=>simp at a;subst a;simp[Addr.add]
 |2,a=>simp at a;subst a;simp[Addr.add]
 |3,a=>simp at a;subst a;simp[Addr.add]
def nZ(k a b m:Int)(v u t:Nat)(g l:Υ)(c:List ϥ)(rv cv mv:Θ)(B:Nat)(w:Δ)(hr:aw w B rv g)(hc:aw w B cv l)(hm:ba w B mv c)(H:B<=w)(a4:0<=k)(d9:k<=7)(a5:0<=a)(d4:a<=5)(b0:0<=b)(d8:b<=5)(b1:0<=m)(d7:m<=63)(hv:v<=2147483647)(hu:u<=2147483647)(ht:t<=2147483647)(a0:Codec.aA g=true)(Y:Codec.aA l=true)(d6:c.length<=200)(G:c.all Codec.aK=true):ϖ 205 #[sN,.agg #[J k,J a,J b,J m,J v,J u,J t,rv,cv,mv]] w
  λe s=>∃x,e=.returned x/\ez s w x (Codec.gT ⟨k,a,b,m,v,u,t,g,l,c⟩)/\Ϟ w s:=by
 let ⟨i0,hi,X,L,K⟩:=info_parts rU
 obtain⟨ro,rn,rc,rfl⟩:=hr.b;obtain⟨co,cn,cc,rfl⟩:=hc.b;obtain⟨mo,mn,mc,rfl⟩:=hm.b;have e0:=ew a0;have b3:=ew Y;have HR:Hid (∀s,Ϟ w s->aw s B (.slice ro rn rc) g):=λs hb=>hr.a (hb.mono H);have HC:Hid (∀s,Ϟ w s->aw s B (.slice co cn cc) l):=λs hb=>hc.a (hb.mono H);obtain⟨rfl,E⟩:=hm.c;have HM:Hid (∀k m,c[k]?=some m->∃b f xo U S,mo=some ⟨b,f,none⟩/\b<B/\w.cell? ⟨b,f+k*4,none⟩=some (J m.a)/\w.cell? ⟨b,f+k*4+1,none⟩=some (J m.seq)/\
  w.cell? ⟨b,f+k*4+2,none⟩=some (.slice xo U S)/\w.cell? ⟨b,f+k*4+3,none⟩=some (.string m.b)/\aw w B (.slice xo U S) m.c):=E
 have HO:Hid (∀b,(Value.slice none 0 0).ownBlock≠some b):=(λb=>by simp[Value.ownBlock]);have p:ez w w (sN) []:=ez.nil _ _;go_enter func205,ntmps205;go_wp2_with (at_builtin;apply wpList_append_own_at _ rfl _ _ 175 rfl _ 5 i0 _ 1 1 underlying175 hi X L K rfl θ _ _ _ rfl (World.ownsRow.alloc (World.ownsRow.alloc p _) _) _ 4 4 [.int .u8 k,.int .u8 a,.int .u8 b,.int .u8 m] rfl rfl ?c1 ?c2 ?c3 ?c4 ?c5)
 case c1=>exact x4 _ _ ς _ _ _ _
 case c2=>intro u hu;simp at hu;rcases hu with rfl|rfl|rfl|rfl<;>rfl
 case c3=>unfold maxLen;show 0+4<=2^63-1;lia
 case c4=>simp
 case c5=>simp;lia
 intro v1 w1 q d _ r;have A1:=(qB.b _ _ _).a (qB.mk d r ς);have O1:=ez.c (n:=4) (by
  have e:Lib.byteCells [Codec.b8 k,Codec.b8 a,Codec.b8 b,Codec.b8 m]=[.int .u8 k,.int .u8 a,.int .u8 b,.int .u8 m]:=by simp[Lib.byteCells,Codec.ca a4 (show k<256 by lia),Codec.ca a5 (show a<256 by lia),Codec.ca b0 (show b<256 by lia),Codec.ca b1 (show m<256 by lia)]
  rw[e];simpa[Lib.byteCells]using q)
 obtain⟨W,z⟩:∃W,W=w.alloc (.cells #[J k,J a,J b,J m,J v,J u,J t,.slice ro rn rc,.slice co cn cc,.slice mo c.length mc] 165):=⟨_,rfl⟩;rw[<-z]at A1;have R:Hid (W=w.heap.size+1):=by show _=_;rw[z];simp
 have a3:Hid (Ϟ w W):=by show Ϟ _ _;rw[z];exact Ϡ.alloc Ϫ _
 have b5:W.cell? (aT w 5)=some (J u):=by rw[z];simp
 have b6:W.cell? (aT w 6)=some (J t):=by rw[z];simp
 have b9:W.cell? (aT w 9)=some (.slice mo c.length mc):=by rw[z];simp
 have C:Hid (∀{T vi},qB W (sN) T vi->w.heap.size+1<=T/\Ϟ w T/\∀j x,W.cell? (aT w j)=some x->T.cell? (aT w j)=some x):=by intro T vi h;have hs:=h.c;rw[R]at hs;exact⟨hs,a3.trans (h.d (by rw[R];lia) λk hk=>absurd hk (HO k)),λj x I=>h.e I (HO _)⟩
 let ⟨s1,B1,q1⟩:=C A1
 have c4:=q1 4 _ (by rw[z];simp:W.cell? (aT w 4)=some (J v));go_wp21;apply (ek v1 _ v ω w _ O1 ς ω).mono;rintro e w2⟨v2,rfl,O2,M⟩;replace M:=A1.a M
 let ⟨s2,B2,q2⟩:=C M
 have c5:=q2 5 _ b5;go_wp21;apply (ek v2 _ u ω w _ O2 (by simp[Codec.br]) ω).mono;rintro e w3⟨v3,rfl,O3,Z⟩;replace Z:=M.a Z
 let ⟨s3,B3,q3⟩:=C Z
 have c6:=q3 6 _ b6;go_wp21;apply (ek v3 _ t ω w _ O3 (by simp[Codec.br]) ω).mono;rintro e w4⟨v4,rfl,O4,N⟩;replace N:=Z.a N
 let ⟨s4,B4,q4⟩:=C N
 have c7:=q4 7 _ (by rw[z];simp:W.cell? (aT w 7)=some (.slice ro rn rc));go_wp21;apply (gB v4 _ _ g B w _ O4 (by simp[Codec.br]) ω H (HR _ B4) a0).mono;rintro e w5⟨v5,rfl,O5,A5⟩;replace A5:=N.a A5
 let ⟨s5,B5,q5⟩:=C A5
 have c8:=q5 8 _ (by rw[z];simp:W.cell? (aT w 8)=some (.slice co cn cc));go_wp21;apply (gB v5 _ _ l B w _ O5 (by simp[Codec.br];lia) ω H (HC _ B5) Y).mono;rintro e w6⟨v6,rfl,O6,Q⟩;replace Q:=A5.a Q
 let ⟨s6,B6,q6⟩:=C Q
 have c9:=q6 9 _ b9;go_wp2_with (at_builtin;apply wpList_append_own_at _ rfl _ _ 175 rfl w 5 i0 (.int .u8 0) 1 1 underlying175 hi X L K rfl θ _ _ _ rfl (World.ownsRow.alloc O6 _) (aT w6 0) 1 1 [.int .u8 (c.length:Int)] rfl rfl (iN _ _) (jZ _) ?c3 ?c4 ?c5)
 case c3=>unfold maxLen;simp[Codec.br];lia
 case c4=>simp[Codec.br];lia
 case c5=>simp;lia
 intro v7 w7 n d _ r;have A7:qB W (sN) w7 v7:=Q.a ((qB.b _ _ _).a (qB.mk d r ς));rw[gH _ (UInt8.ofNat c.length) _ (by simp;lia)]at n;have O7:ez w7 w v7 (([Codec.b8 k,Codec.b8 a,Codec.b8 b,Codec.b8 m]++Codec.cj v++Codec.cj u++Codec.cj t++Codec.dH g++Codec.dH l)++[UInt8.ofNat c.length]):=ez.f n ς
 let ⟨s7,B7,q7⟩:=C A7
 have c9:=q7 9 _ b9;have HP:Hid (Codec.gT ⟨k,a,b,m,v,u,t,g,l,c⟩=_++Codec.ef c):=DY k a b m v u t g l c;have a6:(([Codec.b8 k,Codec.b8 a,Codec.b8 b,Codec.b8 m]++Codec.cj v++Codec.cj u++Codec.cj t++Codec.dH g++Codec.dH l)++[UInt8.ofNat c.length]).length<=40:=by simp[Codec.br];lia
 generalize (([Codec.b8 k,Codec.b8 a,Codec.b8 b,Codec.b8 m]++Codec.cj v++Codec.cj u++Codec.cj t++Codec.dH g++Codec.dH l)++[UInt8.ofNat c.length])=P at O7 HP a6;go_wp2;go_loopw [0,55] (λx i wr=>∃j:Nat,j<=c.length/\i=J j/\ez wr w x (P++Codec.ef (c.take j))/\qB W (sN) wr x) λ_ i _=>c.length-(intOf i).toNat
 case atStart=>exact⟨0,ω,rfl,by simpa[Codec.ef]using O7,A7⟩
 case round=>
  obtain⟨j,hj,rfl,O,A⟩:=hrel;by_cases a1:j<c.length
  .obtain⟨x,I⟩:∃x,c[j]?=some x:=⟨c[j],yh a1⟩
   let ⟨D,f,xo,U,S,a2,d5,c0,c1,c2,c3,ht⟩:=HM j x I
   subst a2
   let ⟨s8,F,_⟩:=C A
   have HS:Hid (_=_):=zo c j x I;have b2:=mD (c.take j) (by rw[y5]at G|-;exact λy hy=>G y (List.mem_of_mem_take hy));have a8:(c.take j).length<=200:=by simp;lia
   have d0:=(F.cell (p:=⟨D,f+j*4,none⟩) (by show D<_;lia)).trans c0;have d1:=(F.cell (p:=⟨D,f+j*4+1,none⟩) (by show D<_;lia)).trans c1;have d2:=(F.cell (p:=⟨D,f+j*4+2,none⟩) (by show D<_;lia)).trans c2;have d3:=(F.cell (p:=⟨D,f+j*4+3,none⟩) (by show D<_;lia)).trans c3;have HT:Hid (∀o,aw (wr.alloc o) B (.slice xo U S) x.c):=λo=>ht.a ((F.mono H).alloc ω o);go_wp21;apply (qE _ _ x (.slice xo U S) B w _ (O.b _) (by simp;lia) (by simp;lia) H (HT _) (y5.1 G x (yy I))).mono;rintro e w9⟨v9,rfl,O9,A9⟩;go_wp2;go_roundw
   case rel=>exact⟨j+1,ω,by go_num,by rwa [HS,<-I3],(A.a ((qB.b _ _ _).a A9))⟩
   case measure=>simp[intOf];lia
  let ⟨s8,F,_⟩:=C A
  go_wp2
  go_ret;exact⟨_,rfl,by rw[HP];rwa [yX ω]at O,F⟩
def nM{w:Δ}{b:Nat}{f:ϣ}{n c:Nat}{d:Ϭ}(h:ez w b (.slice f n c) d):(convert 175 9 (.slice f n c)).run prog w=.ok (.string ⟨d.toArray⟩) w:=by
 rcases h.2 with ⟨a,k⟩|⟨g,i,o,a,q,p,_,_,_,e⟩;simp at a;obtain⟨rfl,rfl,rfl⟩:=a;have:=Lv k;subst this;rw[run_convert_bytes_string w 175 9 5 none 0 0 underlying175 underlying5 underlying9];simp[Conv.bytesToString];rfl;simp at a;obtain⟨rfl,rfl,rfl⟩:=a;apply run_convert_bytes_back w 175 9 5 _ c d underlying175 underlying5 underlying9;intro j l;have m:=World.ownsRow.cells h rfl j (.int .u8 d[j].toNat) (by simp[Lib.byteCells,l]);exact m
def nN{f:Codec.Frame}(h:Codec.dg f=true):(Codec.gT f).length<=5300:=by simp only[Codec.dg,Codec.cd,yB,decide_eq_true_eq]at h;let⟨⟨⟨⟨_,_⟩,a⟩,b⟩,d,c⟩:=h;have i:=ew a;have g:=ew b;have e:=mD f.d c;simp[Codec.gT,Codec.br];lia
def rQ(f:Codec.Frame)(k l m:Θ)(B:Nat)(w:Δ)(h:aw w B k f.g)(i:aw w B l f.i)(j:ba w B m f.d)(g:B<=w)(y:Codec.dg f=false):ϖ 168 #[.agg #[J f.c,J f.f,J f.j,J f.b,J f.h,J f.a,J f.e,k,l,m]] w
  λe a=>ϱ e (.tuple #[.string ⟨#[]⟩,J 3])/\Ϟ w a:=by
 obtain⟨z,C,t,rfl⟩:=h.b;obtain⟨x,D,u,rfl⟩:=i.b;obtain⟨s,A,r,rfl⟩:=j.b;have q:Hid (∀a,Below _ w a->aw a B _ f.g):=λa c=>h.a (c.mono g);have n:Hid (∀a,Below _ w a->aw a B _ f.i):=λa c=>i.a (c.mono g);have p:Hid (∀a,Below _ w a->ba a B _ f.d):=λa c=>j.a (c.mono g);clear h i j;have b:∀o,Below _ w _:=λo=>Ϡ.alloc Ϫ o;go_enter func168,ntmps168;go_wp2_with (go_at_call 204;apply (kN f _ _ _ B _ (q _ (b _)) (n _ (b _)) (p _ (b _)) (by simp;lia)).mono;rintro e v⟨rfl,d⟩);go_ret2;exact⟨rfl,(b _).trans (d.mono ς)⟩
def lx(f:Codec.Frame)(rv cv mv:Θ)(B:Nat)(w:Δ)(j:aw w B rv f.g)(l:aw w B cv f.i)(n:ba w B mv f.d)(q:B<=w)(W:Codec.dg f=true):ϖ 168 #[.agg #[J f.c,J f.f,J f.j,J f.b,J f.h,J f.a,J f.e,rv,cv,mv]] w
  λe c=>ϱ e (.tuple #[.string ⟨(Codec.im f).toArray⟩,J 0])/\Ϟ w c:=by
 obtain⟨Q,H,A,rfl⟩:=j.b;obtain⟨E,K,M,rfl⟩:=l.b;obtain⟨L,F,s,rfl⟩:=n.b;have HR:Hid (∀c,Ϟ w c->aw c B (.slice Q H A) f.g):=λc I=>j.a (I.mono q);have HC:Hid (∀c,Ϟ w c->aw c B (.slice E K M) f.i):=λc I=>l.a (I.mono q);have Z:Hid (∀c,Ϟ w c->ba c B (.slice L F s) f.d):=λc I=>n.a (I.mono q);clear j l n;have p:∀o,Ϟ w (w.alloc o):=λo=>Ϡ.alloc Ϫ o;have T:=nN W;have HE:Hid (Codec.im f=Codec.gT f++Codec.cj (Crc.zU (Codec.gT f))):=rfl;let⟨k,a,b,m,v,u,t,g,i,N⟩:=f;have z:=W;simp only[Codec.dg,Codec.dk,Codec.bS,Codec.cd,yB,decide_eq_true_eq,Codec.de]at z;let⟨⟨⟨⟨⟨⟨⟨k1,a1⟩,X⟩,m1⟩,⟨v1,u1⟩,t1⟩,U⟩,P⟩,C,S⟩:=z;obtain⟨v,rfl⟩:=Fi v1.1;obtain⟨u,rfl⟩:=Fi u1.1;obtain⟨t,rfl⟩:=Fi t1.1;simp only at HR HC Z|-;have HF:Hid (∀(w:Δ)(j:aw w B (.slice Q H A) g)(l:aw w B (.slice E K M) i)(n:ba w B (.slice L F s) N)(_:B<=w),ϖ 205 #[sN,.agg #[J k,J a,J b,J m,J v,J u,J t,.slice Q H A,.slice E K M,.slice L F s]] w
  λe c=>∃x,ϱ e x/\ez c w.heap.size x (Codec.gT ⟨k,a,b,m,v,u,t,g,i,N⟩)/\Ϟ w c):=λw j l n q=>
  nZ k a b m v u t g i N _ _ _ B w j l n q ω k1.2 a1.1 a1.2 X.1 X.2 m1.1 m1.2 ω ω ω U P C S
 have G:Hid (∀(w:Δ)(j:aw w B (.slice Q H A) g)(l:aw w B (.slice E K M) i)(n:ba w B (.slice L F s) N)(_:B<=w),ϖ 204 #[.agg #[J k,J a,J b,J m,J v,J u,J t,.slice Q H A,.slice E K M,.slice L F s]] w
  λe c=>ϱ e (.bool true)/\Ϟ w c):=λw j l n q=>
  (kN ⟨k,a,b,m,v,u,t,g,i,N⟩ _ _ _ B w j l n q).mono (λe c h=>by rwa [W]at h)
 generalize Codec.gT _=bd at HE HF T;generalize Codec.im _=en at HE|-;clear k1 a1 X m1 v1 u1 t1 U P C S W;go_enter func168,ntmps168;go_wp21;apply (G _ (HR _ (p _)) (HC _ (p _)) (Z _ (p _)) (by simp;lia)).mono;rintro e w1⟨rfl,r⟩;have d:=(p _).trans (r.mono ς);have O:=r.size;simp at O;let⟨a3,a5⟩:=kM r;go_wp21;apply (HF _ (HR _ d) (HC _ d) (Z _ d) ω).mono;rintro e w2⟨x,rfl,V,D⟩;have R:=d.trans (D.mono ω);have a0:=D.size;obtain⟨xo,xn,xc,rfl⟩:=V.a;have a4:=nM V;go_wp21;apply (xf _ _ (by unfold maxLen;show bd.toArray.size<=_;simp;lia)).mono;rintro e w2⟨rfl,rfl⟩;go_wp21;apply (ek _ bd _ (Crc.sZ _) _ _ V ω ω).mono;rintro e w3⟨y,rfl,O3,A3⟩;obtain⟨yo,yn,yc,rfl⟩:=O3.a;have a2:=nM O3;have Y:=R.trans ((A3.d (yr O a0|>λh=>by lia) λk hk=>(V.d k hk).1).mono ω);go_wp2;go_ret2;exact⟨by rw[HE];rfl,Y⟩

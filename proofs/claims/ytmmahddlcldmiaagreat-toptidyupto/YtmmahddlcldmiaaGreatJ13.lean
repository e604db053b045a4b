/- Proved here: plain facts and contracts. No condition but what each names. -/
import Derived.Test.YtmmahddlcldmiaaGreatJ12
import Derived.OrdersHeld
namespace Go.Proofs.YtmmahddlcldmiaaGreat
open Go.RowKit Tryz
set_option maxRecDepth 100000
set_option maxHeartbeats 4000000
def xf(N:Nat)(o:Option (Tm (N+1)))(w:ag)(e:Ending)(w':ag):Prop:=
 ∃a:Tm (N+1),e=.returned (.tuple #[.agg #[ab a.1.1,ab a.1.2.1,af a.1.2.2,ae a.2.1.1 a.2.2.length a.2.1.2],.bool o.isSome])/\Hid (ak w w'/\In w'.heap.size w' (N+1) a/\cr (λb=>w.heap.size<=b) (N+1) a/\aB (N+1) a (N+1) (o.getD (wG N))=true)
variable{E:Int}{N:Nat}{t:TypeId}{w w':ag}{v0 v1 v2 v3:av}
theorem KH{o:Option (Tm N)}:(FA E (nZ E o)==0)=(nZ E o).isSome:=by
 unfold FA;by_cases a:E=0
 ·rw[if_pos a];cases (nZ E o).isSome<;>simp
 ·rw[if_neg a];have:nZ E o=none:=by unfold nZ;rw[if_neg a]
  rw[this];simp[a]
theorem CD(y:Tm (N+1)):dw (N+1) y=.agg #[ab y.1.1,ab y.1.2.1,af y.1.2.2,ae y.2.1.1 y.2.2.length y.2.1.2]:=rfl
theorem Lx(b:Below (w.alloc (.cells #[v0,v1,v2,v3] t)).drew.heap.size (w.alloc (.cells #[v0,v1,v2,v3] t)).drew w'):w'.cell? ⟨w.heap.size,0,none⟩=some v0/\w'.cell? ⟨w.heap.size,1,none⟩=some v1/\w'.cell? ⟨w.heap.size,2,none⟩=some v2/\w'.cell? ⟨w.heap.size,3,none⟩=some v3/\w'.frozen? ⟨w.heap.size,0,none⟩=false/\w'.frozen? ⟨w.heap.size,1,none⟩=false/\w'.frozen? ⟨w.heap.size,2,none⟩=false/\w'.frozen? ⟨w.heap.size,3,none⟩=false:=by
 have a:=(b.block w.heap.size (by simp[World.drew])).trans (aF w (.cells #[v0,v1,v2,v3] t));exact⟨ah a 0,ah a 1,ah a 2,ah a 3,by simp[World.frozen?,a],by simp[World.frozen?,a],by simp[World.frozen?,a],by simp[World.frozen?,a]⟩
theorem N7(a:Below (w.alloc (.cells #[v0,v1,v2,v3] t)).drew.heap.size (w.alloc (.cells #[v0,v1,v2,v3] t)).drew w'):w'.heap[w.heap.size]?=some (.cells #[v0,v1,v2,v3] t):=
 (a.block w.heap.size (by simp[World.drew])).trans (aF w (.cells #[v0,v1,v2,v3] t))
theorem xR{g:Nat}{b c d e:av}(a:w.heap[g]?=some (.cells #[b,c,d,e] t))(v0 v1 v2 v3:av):(di w g 0 v0 v1 v2 v3).heap[g]?=some (.cells #[v0,v1,v2,v3] t):=by
 simp[di,World.setCell,bO,a]
def xe(N:Nat)(y:Tm (N+1))(w0:ag)(q p:Nat)(w2 b:ag):Prop:=
 ak w0 b/\b.heap[p]?=some (.cells #[ab y.1.1,ab y.1.2.1,af y.1.2.2,ae y.2.1.1 y.2.2.length y.2.1.2] 31)/\p≠q/\(∀a,a<w2.heap.size->a≠p->b.heap[a]?=w2.heap[a]?)/\cr (λa=>w0.heap.size<=a/\a<w2.heap.size/\a≠p) (N+1) y
theorem xe.cells{N:Nat}{y:Tm (N+1)}{w0 w2 a:ag}{q p:Nat}(c:xe N y w0 q p w2 a)(d:q<w0.heap.size){t:TypeId}{v0 v1 v2 v3:av}(e:w0.heap[q]?=some (.cells #[v0,v1,v2,v3] t)):(a.cell? ⟨p,0,none⟩=some (ab y.1.1)/\a.cell? ⟨p,1,none⟩=some (ab y.1.2.1)/\a.cell? ⟨p,2,none⟩=some (af y.1.2.2)/\a.cell? ⟨p,3,none⟩=some (ae y.2.1.1 y.2.2.length y.2.1.2))/\ (a.cell? ⟨q,0,none⟩=some v0/\a.cell? ⟨q,1,none⟩=some v1/\a.cell? ⟨q,2,none⟩=some v2/\a.cell? ⟨q,3,none⟩=some v3)/\a.frozen? ⟨q,0,none⟩=false/\a.frozen? ⟨q,1,none⟩=false/\a.frozen? ⟨q,2,none⟩=false/\a.frozen? ⟨q,3,none⟩=false/\p≠q:=by
 have b:=(c.1.block q d).trans e;exact⟨⟨ah c.2.1 0,ah c.2.1 1,ah c.2.1 2,ah c.2.1 3⟩,⟨ah b 0,ah b 1,ah b 2,ah b 3⟩,by simp[World.frozen?,b],by simp[World.frozen?,b],by simp[World.frozen?,b],by simp[World.frozen?,b],c.2.2.1⟩
theorem xe.close{y:Tm (N+1)}{o:Option (Tm (N+1))}{w0 w2 d:ag}{q p:Nat}(f:xe N y w0 q p w2 d)(b:ak w w0)(k:w.heap.size<=q)(t:q<w0.heap.size)(j:In w2.heap.size w2 (N+1) y)(l:aB (N+1) y (N+1) ((nZ E o).getD (wG N))=true)(m:w2.heap.size<=d.heap.size):xf N (nZ E o) w (.returned (.tuple #[.agg #[ab y.1.1,ab y.1.2.1,af y.1.2.2,ae y.2.1.1 y.2.2.length y.2.1.2],.bool (FA E (nZ E o)==0)])) (di d q 0 v0 v1 v2 v3):=by
 obtain⟨g,n,r,h,e⟩:=f;have i:=b.trans (g.mono b.size);have s:=b.size;refine⟨y,by rw[KH],dj i k _ _ _ _,?_,e.mono λa c=>by omega,l⟩;rw[bA];exact(In.off (P:=λa=>w0.heap.size<=a/\a<w2.heap.size/\a≠p) (λa c=>(bj (by omega) _ _ _ _).trans (h a c.2.1 c.2.2)) e j).mono m
theorem zi(N:Nat)(E:Int)(o:Option (Tm (N+1)))(r s:Int)(t:ap)(xa:aw)(u xc:Nat)(a:aw)(c:Nat)(self:Int)(f:Nat)(w:ag)(ar:f<w.heap.size)(C:w.cell? ⟨f,0,none⟩=some (ae a 4 c))(d1:w.cell? ⟨f,1,none⟩=some (ab self))(K:Hid (∀W,ak w W->am 155 #[.agg #[ab r,ab s,af t,ae xa u xc],ae a 4 c,ab self] W (Ax N E o W))):am 117 #[aH f,.agg #[ab r,ab s,af t,ae xa u xc]] w (xf N (nZ E o) w):=by
 have Y:Hid (∃d g y,(d=(w.alloc (.cells #[ab r,ab s,af t,ae xa u xc] 31)).alloc (.cells #[ab 0,ab 0,af ⟨#[]⟩,ae none 0 0] 31)/\g=w.heap.size/\y=w.heap.size+1)/\(g<d.heap.size/\f<d.heap.size/\y<d.heap.size/\w.heap.size<=y)/\ak w d/\d.heap[y]?=some (.cells #[ab 0,ab 0,af ⟨#[]⟩,ae none 0 0] 31)/\∀W,ak d W->(W.cell? ⟨g,0,none⟩=some (ab r)/\W.cell? ⟨g,1,none⟩=some (ab s)/\W.cell? ⟨g,2,none⟩=some (af t)/\W.cell? ⟨g,3,none⟩=some (ae xa u xc))/\W.cell? ⟨f,0,none⟩=some (ae a 4 c)/\W.cell? ⟨f,1,none⟩=some (ab self)):=by
  have an:ak w ((w.alloc (.cells #[ab r,ab s,af t,ae xa u xc] 31)).alloc (.cells #[ab 0,ab 0,af ⟨#[]⟩,ae none 0 0] 31)):=((aq _ _).alloc (ao _) _).alloc (by simp) _;have aA:=aF (w.alloc (.cells #[ab r,ab s,af t,ae xa u xc] 31)) (.cells #[ab 0,ab 0,af ⟨#[]⟩,ae none 0 0] 31);rw[iG]at aA;refine⟨_,_,_,⟨rfl,rfl,rfl⟩,⟨by simp;omega,by simp;omega,by simp,by omega⟩,an,aA,λW aj=>?_⟩;have L:=(aj.block w.heap.size (by simp;omega)).trans ((((aq _ _).alloc (ao _) _).block w.heap.size (by simp)).trans (aF w (.cells #[ab r,ab s,af t,ae xa u xc] 31)));have al:ak w W:=an.trans (aj.mono (by simp;omega));exact⟨⟨ah L 0,ah L 1,ah L 2,ah L 3⟩,(al.cell (p:=⟨f,0,none⟩) ar).trans C,(al.cell (p:=⟨f,1,none⟩) ar).trans d1⟩
 go_enter func117,ntmps117;go_wp2_with fail;obtain⟨d,g,y,⟨ay,av,ax⟩,i,n,J,h⟩:=Y.out;rw[<-ay,<-ax,<-av];replace i:=au i;replace n:=au n;replace J:=au J;replace h:=au h;clear ay av ax Y C d1;obtain⟨⟨Z,aa,ad,ai⟩,C,d1⟩:=h.out d (aq _ _);have x:Hid (ak d d.drew):=(aq _ _).drew;have z:Hid (∀o:Obj,ak d (d.alloc o).drew):=λo=>((aq _ _).alloc (ao _) o).drew;have O:Hid (∀o:Obj,ak w (d.alloc o).drew):=λo=>n.trans ((z o).mono n.size);have P:=au (n.trans (x.mono n.size))
 go_region_held3 (λW=>(W.cell? ⟨g,0,none⟩=some (ab r)/\W.cell? ⟨g,1,none⟩=some (ab s)/\W.cell? ⟨g,2,none⟩=some (af t)/\W.cell? ⟨g,3,none⟩=some (ae xa u xc))/\W.cell? ⟨f,0,none⟩=some (ae a 4 c)/\W.cell? ⟨f,1,none⟩=some (ab self))
  (first|(go_keep;done)|exact h _ x|exact h _ (z _)|exact h _ (j.alloc j.size _)|exact h _ ((((j.setCell (ao _) _).setCell (ao _) _).setCell (ao _) _).setCell (ao _) _)|exact h _ j) ((first
   | (go_at_call 155;refine(K _ P).mono ?_;rintro aI q ⟨b,rfl,e⟩;rw[CD];have j:=au (x.trans (e.1.mono x.size)))
   | (go_at_call 155;refine(K _ (O _)).mono ?_;rintro aI q ⟨b,rfl,e⟩;rw[CD];have j:=au ((z _).trans (e.1.mono (z _).size));have aB:=au (N7 e.1);obtain⟨F,G,H,I,T,U,V,X⟩:=Lx e.1)))
 ·have B:Hid (∃m p,(m=q.alloc (.cells #[ab b.1.1,ab b.1.2.1,af b.1.2.2,ae b.2.1.1 b.2.2.length b.2.1.2] 31)/\p=q.heap.size)/\xe N b d y p q m):=by
    refine⟨_,_,⟨rfl,rfl⟩,j.alloc j.size _,aF _ _,?_,λM A _=>((aq _ _).alloc (ao _) _).block M A,?_⟩
    ·have:=i.2.2.1;have:=j.size;omega
    ·exact(In.offB e.2.2.1 e.2.1).mono λM A=>by have:=x.size;omega
  obtain⟨m,p,⟨l,D⟩,k⟩:=B.out;rw[<-l,<-D];replace k:=au k;have Q:=au e.2.1;have R:=au e.2.2.2;have S:Hid (q.heap.size<=m.heap.size):=by
   rw[l];simp[Hid]
  clear l D B e K h z O P x Z aa ad ai C d1;obtain⟨⟨aC,aD,aE,aG⟩,⟨F,G,H,I⟩,T,U,V,X,aJ⟩:=k.out.cells i.2.2.1 J;go_wp2_with fail;exact az (v:=.tuple #[.agg #[ab b.1.1,ab b.1.2.1,af b.1.2.2,ae b.2.1.1 b.2.2.length b.2.1.2],.bool (FA E (nZ E o)==0)]) (by simp[results,results117,go_sem,F,G,H,I]) rfl (k.close n i.2.2.2 i.2.2.1 Q R S)
 ·have B:Hid (∃m p,(m=di q d.heap.size 0 (ab b.1.1) (ab b.1.2.1) (af b.1.2.2) (ae b.2.1.1 b.2.2.length b.2.1.2)/\p=d.heap.size)/\xe N b d y p q m):=by
    refine⟨_,_,⟨rfl,rfl⟩,((((j.setCell (ao _) _).setCell (ao _) _).setCell (ao _) _).setCell (ao _) _),?_,?_,λM _ A=>bj A _ _ _ _,?_⟩
    ·exact xR aB _ _ _ _
    ·have:=i.2.2.1;omega
    ·exact(In.offB e.2.2.1 e.2.1).mono λM A=>by
       have:=A.1;simp[World.drew]at this;omega
  obtain⟨m,p,⟨l,D⟩,k⟩:=B.out;replace k:=au k;have Q:=au e.2.1;have R:=au e.2.2.2;have S:Hid (q.heap.size<=m.heap.size):=by
   rw[l,bA];exact ao _
  unfold di at l;simp only[de]at l;rw[<-l,<-D];clear l D B e K h z O P x Z aa ad ai C d1 F G H I T U V X;obtain⟨⟨aC,aD,aE,aG⟩,⟨F,G,H,I⟩,T,U,V,X,aJ⟩:=k.out.cells i.2.2.1 J;go_wp2_with fail;exact az (v:=.tuple #[.agg #[ab b.1.1,ab b.1.2.1,af b.1.2.2,ae b.2.1.1 b.2.2.length b.2.1.2],.bool (FA E (nZ E o)==0)]) (by simp[results,results117,go_sem,F,G,H,I]) rfl (k.close n i.2.2.2 i.2.2.1 Q R S)
def Fk{N:Nat}:Option (Tm (N+1))->Bool
 | some a=>a.1.1==3
 | none=>false
theorem A1(N:Nat)(o:Option (Tm (N+1)))(a d:Int)(f:ap)(xa:aw)(g xc:Nat)(q:Nat)(w:ag)(p:Hid (∀W,ak w W->am 117 #[aH q,.agg #[ab a,ab d,af f,ae xa g xc]] W (xf N o W))):am 201 #[aH q,.agg #[ab a,ab d,af f,ae xa g xc]] w λe w'=>∃u,e=.returned (.tuple #[ab u,.bool (Fk o)])/\Hid (ak w w'/\∀b,o=some b->u=b.1.2.1):=by
 have h:Hid (∀o:Obj,ak w (w.alloc o)):=λo=>(aq _ _).alloc (ao _) o;have r:(w.alloc (.cells #[ab a,ab d,af f,ae xa g xc] 31)).cell? ⟨w.heap.size,0,none⟩=some (ab a):=ah (aF w _) 0;go_enter func201,ntmps201;go_wp2_with fail;refine(p _ (h _)).mono ?_;rintro e v ⟨x,rfl,i⟩;have l:=au ((h (.cells #[ab a,ab d,af f,ae xa g xc] 31)).trans (i.1.mono (h _).size));have n:=au i.2.2.2;have m:Hid (∀k:Obj,ak w (v.alloc k).drew):=λk=>(l.alloc l.size k).drew;clear i p r;cases o with
 | none=>
  simp only[ng];go_wp2_with fail;go_region
  all_goals
   go_wp2_with fail
   go_ret2
   exact⟨_,rfl,m _,λb j=>by cases j⟩
 | some b=>
  simp only[nh];have c:=n.out;simp only[Option.getD_some,aB,aK,cF]at c;have s:Hid (Fk (some b)=(x.1.1==3)):=by
   show _=_;rw[c.1.1.1];rfl
  have t:=au c.1.1.2;clear c n;go_wp2_with fail;go_region
  all_goals
   go_wp2_with fail
   go_ret2
   rw[s.out];exact⟨_,rfl,m _,λy j=>by cases j;exact t⟩
theorem Mv:(Tryz.prog.info? 3).map (λi=>(i.zero,i.size,i.bytes))=some (some (ab 0),1,8):=by kernel_rfl
def O2(base i:Nat)(f:aw)(L g:Nat)(xs:List av)(t:Bool)(h:Int->Prop)(w:ag)(e:Ending)(w':ag):Prop:=
 e=.returned (.bool t)/\(t=false->ak w w')/\
  (t=true->∃d a c b,h d/\b.ownsRow base 3 1 (ae (some ⟨a,0,none⟩) (L+1) c) (L+1) (xs++ [ab d])/\bB (λj=>(Value.slice f L g).ownBlock=some j) w b/\((Value.slice f L g).ownBlock=some a\/w.heap.size<=a)/\w'=b.setCell ⟨i,5,none⟩ (ae (some ⟨a,0,none⟩) (L+1) c))
theorem GO(k s v:Int)(x:ap)(xa:aw)(y xc:Nat)(y0 y1:Int)(y2:ap)(ya:aw)(yl yc:Nat)(nm:ap)(O:Int)(base a:Nat)(b:aw)(L c:Nat)(xs:List av)(w:ag)(t:Bool)(z:Int->Prop)(al:L<=10000)(G:a<w.heap.size)(an:base<=w.heap.size)(A:Hid (w.cell? ⟨a,5,none⟩=some (ae b L c)/\w.frozen? ⟨a,5,none⟩=false))(V:Hid (w.ownsRow base 3 1 (ae b L c) L xs))(B:Hid ((Value.slice b L c).ownBlock≠some a))(C:Hid (∀W,ak w W->am 201 #[aH a,.agg #[ab s,ab v,af x,ae xa y xc]] W λe w'=>∃u,e=.returned (.tuple #[ab u,.bool t])/\Hid (ak W w'/\z u))):am 188 #[aH a,.agg #[ab k,ab s,ab v,af x,ae xa y xc,ab y0,ab y1,af y2,ae ya yl yc,af nm,ab O]] w (O2 base a b L c xs t z w):=by
 obtain⟨i,H,J,K,M⟩:=bW Mv;have m:Hid (Tryz.prog.info? 3=some i/\i.zero=some (ab 0)/\i.size=1/\i.bytes=8):=⟨H,J,K,M⟩;clear H J K M;have D:Hid (∃q,q=w.alloc (.cells #[ab k,ab s,ab v,af x,ae xa y xc,ab y0,ab y1,af y2,ae ya yl yc,af nm,ab O] 248)/\ak w q):=⟨_,rfl,(aq _ _).alloc (ao _) _⟩;go_enter func188,ntmps188;go_wp2_with fail;obtain⟨q,N,F⟩:=D.out;rw[<-N];have l:=au F;clear N F D;refine(C _ l).mono ?_;rintro e j ⟨u,rfl,o⟩;have d:=au (l.trans (o.1.mono l.size));have Q:=au o.2;clear o C l;cases t
 ·go_wp2_with fail
  go_ret
  exact⟨rfl,λ_=>d,λg=>(by cases g)⟩
 ·have X:j.cell? ⟨a,5,none⟩=some (ae b L c):=(d.cell (p:=⟨a,5,none⟩) G).trans A.1;have T:Hid (j.ownsRow base 3 1 (ae b L c) L xs):=bu V (aO d λ_=>False) λ_ _ g=>g;have f:=au d.size;have R:Hid (j.frozen? ⟨a,5,none⟩=false):=by
   have h:=A.2;unfold World.frozen? at h ⊢;rw[d.out.block a G];exact h
  go_wp2_with (first
   | (at_builtin;refine wpList_append_lies _ rfl _ _ 25 rfl base 3 i _ 1 8 underlying25 m.1 m.2.1 m.2.2.1 m.2.2.2 rfl (by decide) (ae b L c) L xs rfl (T.alloc _) ⟨j.heap.size,0,none⟩ 1 1 [ab u] rfl rfl (World.news_of_block (cs:= #[ab u]) (t:=3) (fr:=(0,0)) (aF j _)) (by simp[Value.oneCell']) (by decide) (by unfold maxLen;omega) (by omega) (by have:=f.out;simp;omega) _ rfl ?_;intro Z Y r I n E aa;have U:=au I;have S:=au n;have P:=au E;have ad:r.cell? ⟨a,5,none⟩=some (ae b L c):=(n.cell_far ⟨a,5,none⟩ (by show a<_;have:=f.out;simp;omega) (λe=>B e.symm)).trans (((aq _ _).alloc (ao _) _ |>.cell (p:=⟨a,5,none⟩) (by show a<_;have:=f.out;omega)).trans X);have ah:r.frozen? ⟨a,5,none⟩=false:=(n.frozen_far ⟨a,5,none⟩ (by show a<_;have:=f.out;simp;omega) (λe=>B e.symm)).trans (by have h:=R.out;unfold World.frozen? at h ⊢;rw[((aq _ _).alloc (ao _) (.cells #[ab u] 3)).block a (by have:=f.out;omega)];exact h);clear I n E aa))
  go_ret
  refine⟨rfl,λg=>(by cases g),λ_=>⟨u,Z,Y,r,Q.out,U.out,?_,?_,rfl⟩⟩
  ·exact bB.trans (aO (d.alloc d.size _) _) (eA S) λ_ _ e=>e
  ·rcases P with e|e
   ·exact ai e
   ·have:=f.out;simp at e;exact aj (by omega)
section
variable {P:Program} {ops:Array Oper} {Q:Exit->Act->ag->Prop} {md:Region.Mode} {S:ag->Prop} {X:Nat}
def jW(P:Program)(md:Region.Mode)(ops:Array Oper)(Q:Exit->Act->ag->Prop)(S:ag->Prop)(X:Nat):Nat->Array Bool->Act->ag->Prop
 | 0,listed,a,w=>Region.ready md ops listed=[]/\Q .normal a w
 | fuel+1,listed,a,w=>
  (Region.ready md ops listed=[]->Q .normal a w)/\
  ∀i∈Region.ready md ops listed,wpOp P ops Q i (λb w'=>(i≠X->S w')/\jW P md ops Q S X fuel (listed.setIfInBounds i true) b w') a w
theorem wE:∀(fuel:Nat)(b:Array Bool)(a:Act)(w:ag),jW P md ops Q S X fuel b a w->wpAny P md ops Q fuel b a w
 | 0,_,_,_,h=>h
 | fuel+1,_,_,_,h=>⟨h.1,λi e=>wpOp_mono (λc w' d=>wE fuel _ c w' d.2) (h.2 i e)⟩
theorem Ao{i:Nat}{m:Oper}{v:av}(z:ops[i]?=some m)(G:∀(j:Nat)(o:Oper) cs b,ops[j]?=some o->o.op≠.select cs b)(L:∀c a w,Q (.panic c) (a.put m.dst v) w->Q (.panic c) a w)(M:∀d,ops[X]?=some d->∃e∈d.after,Region.binds md e=true/\e.on=i):∀(p:Nat)(f:Array Bool)(a:Act)(w:ag),(∀j d,ops[j]?=some d->j≠i->f.getD j true=false->(∀e∈d.after,Region.binds md e=true->e.on≠i)->m.apart ops d=true)-> i∈Region.ready md ops f->YieldsIf P ops S m v a->S w-> jW P md ops Q S X p (f.setIfInBounds i true) (a.put m.dst v) w->jW P md ops Q S X (p+1) f a w:=by
 intro p
 induction p with
 | zero=>
  intro f a w _ l u q n;refine⟨λx=>(by rw[x]at l;cases l),λj s=>?_⟩;by_cases g:j=i
  ·subst g;exact u.wpOp z q ⟨λ_=>q,n⟩
  ·have:=ready_mono s g;rw[n.1]at this;cases this
 | succ p ih=>
  intro f a w B l u q n;refine⟨λx=>(by rw[x]at l;cases l),λj s=>?_⟩;by_cases g:j=i
  ·subst g;exact u.wpOp z q ⟨λ_=>q,n⟩
  ·have h:=n.2 j (ready_mono s g);obtain⟨D,d,t,N⟩:=mem_ready.1 s;have F:∀e∈d.after,Region.binds md e=true->e.on≠i:=λe T O V=>by
    have h:=N e T O;have A:=(mem_ready.1 l).1;rw[V]at h;rcases Nat.lt_or_ge i f.size with y|y
    ·simp[y]at A h;rw[A]at h;cases h
    ·simp[Array.getElem?_eq_none y]at h
   have E:j≠X:=λe=>by
    obtain⟨J,U,R,ab⟩:=M d (by rw[<-e];exact t);exact F J U R ab
   have K:=wpOp_putIf t (B j d t g D F) (λcs b=>G i m cs b z) (λcs b=>G j d cs b t) L u h
   have W:∀k ok,ops[k]?=some ok->k≠i->(f.setIfInBounds j true).getD k true=false->
     (∀e∈ok.after,Region.binds md e=true->e.on≠i)->m.apart ops ok=true:=λk ok Y Z H aa=>by
    refine B k ok Y Z ?_ aa;by_cases C:j=k
    ·subst C;exact D
    ·rw[getD_set_ne true C]at H;exact H
   refine wpOp_mono (λI ad r=>⟨λ_=>r.2.1 E,ih (f.setIfInBounds j true) I ad W (ready_mono l (Ne.symm g)) r.1 (r.2.1 E) ?_⟩) K;rw[Array.setIfInBounds_comm _ _ g];exact r.2.2
def Al(md:Region.Mode)(ops:Array Oper)(X i:Nat):Bool:=((ops[X]?).map λo=>o.after.any λe=>Region.binds md e && e.on==i).getD false
theorem EG{i:Nat}(a:Al md ops X i=true):∀b,ops[X]?=some b->∃e∈b.after,Region.binds md e=true/\e.on=i:=λb c=>by
 unfold Al at a;rw[c]at a;simp only[ni,Option.getD_some,Array.any_eq_true]at a;obtain⟨k,d,a⟩:=a;simp only[aK,cF]at a;exact⟨_,Array.getElem_mem d,a.1,a.2⟩
theorem aZ{i:Nat}{d:Oper}{v:av}{e:Nat}{b:Array Bool}{a:Act}{w:ag}(f:ops[i]?=some d)(n:Region.noSelect ops=true)(k:Region.free md ops b i=true)(m:(Region.ready md ops b).contains i=true)(o:Al md ops X i=true)(h:∀c a w,Q (.panic c) (a.put d.dst v) w->Q (.panic c) a w)(l:d.guard=none)(p:∀w,S w->(execOp a.eval d).run P w=.ok (.value v) w)(j:S w)(g:jW P md ops Q S X e (b.setIfInBounds i true) (a.put d.dst v) w):jW P md ops Q S X (e+1) b a w:=
 Ao f (Region.noSelect_spec n) h (EG o) e b a w (Region.free_spec f k) (by simpa using m) (ai ⟨by simp[Region.wanted,l],p⟩) j g
theorem dg{i:Nat}{o:Oper}{d:Nat}{c:Array Bool}{a:Act}{w:ag}(h:Region.ready md ops c=[i])(n:ops[i]?=some o)(l:o.guard=none)(j:∀K:Act->ag->Prop,Hid (∀b w',(i≠X->S w')->(S w'->jW P md ops Q S X d (c.setIfInBounds i true) b w')->K b w')->o.wp P a w K Q)(m:i≠X):jW P md ops Q S X (d+1) c a w:=by
 refine⟨λe=>(by rw[h]at e;cases e),λq g=>?_⟩;rw[h]at g;obtain rfl:q=i:=by simpa using g
 unfold wpOp;simp only[n];have p:Region.wanted o (yielded ops a.tmps)=true:=by simp[Region.wanted,l]
 simp only[p,cY];exact ai (j _ λb w' f k=>⟨f,k (f m)⟩)
theorem jI{o:Oper}{c:Nat}{d:Array Bool}{a:Act}{w:ag}(i:Region.ready md ops d=[X])(m:ops[X]?=some o)(l:o.guard=none)(g:Region.ready md ops (d.setIfInBounds X true)=[])(j:∀K:Act->ag->Prop,Hid (∀b w',Q .normal b w'->K b w')->o.wp P a w K Q):jW P md ops Q S X (c+1) d a w:=by
 refine⟨λe=>(by rw[i]at e;cases e),λp h=>?_⟩;rw[i]at h;obtain rfl:p=X:=by simpa using h
 unfold wpOp;simp only[m];have n:Region.wanted o (yielded ops a.tmps)=true:=by simp[Region.wanted,l]
 simp only[n,cY];refine ai (j _ λb w' f=>⟨λk=>absurd rfl k,?_⟩);cases c with
 | zero=>exact⟨g,f⟩
 | succ c=>exact⟨λ_=>f,by rw[g];simp⟩
theorem jJ(S:ag->Prop)(X:Nat){id:Nat}{a:Act}{w:ag}(c:P.follows .mixedOrders=true)(b:jW P .any ops Q S X ops.size (Array.replicate ops.size false) a w.drew):(Code.region id ops true).wp P Q a w:=
 wp_region_any c (wE _ _ _ _ b)
end
theorem JS:(Tryz.prog.info? 177).map (λi=>(i.zero,i.size,i.bytes))=some (some (.agg #[ab 0,ab 0,ab 0,af ⟨#[]⟩,ae none 0 0]),5,64):=by kernel_rfl
def Nz{N:Nat}(u:Int)(a:Tm (N+1)):List av:=[ab u,ab a.1.1,ab a.1.2.1,af a.1.2.2,ae a.2.1.1 a.2.2.length a.2.1.2]
def O5(N base k:Nat)(h:aw)(L i:Nat)(xs:List av)(t:Bool)(j:Int->Prop)(o:Option (Tm (N+1)))(w:ag)(e:Ending)(w':ag):Prop:=
 e=.returned (.bool (t && o.isSome))/\((t && o.isSome)=false->ak w w')/\
  ((t && o.isSome)=true->∃(g:Int)(f:Tm (N+1))(a c:Nat)(b:ag),j g/\aB (N+1) f (N+1) (o.getD (wG N))=true/\In b.heap.size b (N+1) f/\cr (λd=>w.heap.size<=d/\d≠a) (N+1) f/\b.ownsRow base 177 5 (ae (some ⟨a,0,none⟩) (L+1) c) (L+1) (xs++Nz g f)/\bB (λd=>(Value.slice h L i).ownBlock=some d) w b/\((Value.slice h L i).ownBlock=some a\/w.heap.size<=a)/\w'=b.setCell ⟨k,3,none⟩ (ae (some ⟨a,0,none⟩) (L+1) c))
theorem Hy(N:Nat)(k ad al:Int)(an:ap)(xa:aw)(ar xc:Nat)(y0 y1:Int)(y2:ap)(ya:aw)(yl yc:Nat)(nm:ap)(a6:Int)(base f:Nat)(h:aw)(L j:Nat)(xs:List av)(w:ag)(t:Bool)(ax:Int->Prop)(o:Option (Tm (N+1)))(bF:L<=10000)(aS:f<w.heap.size)(bH:base<=w.heap.size)(ay:Hid (w.cell? ⟨f,3,none⟩=some (ae h L j)/\w.frozen? ⟨f,3,none⟩=false))(aC:Hid (w.ownsRow base 177 5 (ae h L j) L xs))(bb:Hid ((Value.slice h L j).ownBlock≠some f))(aB:Hid (∀W,ak w W->am 201 #[aH f,.agg #[ab ad,ab al,af an,ae xa ar xc]] W λe w'=>∃u,e=.returned (.tuple #[ab u,.bool t])/\Hid (ak W w'/\ax u)))(aE:Hid (∀W,ak w W->am 117 #[aH f,.agg #[ab y0,ab y1,af y2,ae ya yl yc]] W (xf N o W))):am 186 #[aH f,.agg #[ab k,ab ad,ab al,af an,ae xa ar xc,ab y0,ab y1,af y2,ae ya yl yc,af nm,ab a6]] w (O5 N base f h L j xs t ax o w):=by
 obtain⟨I,aU,a1,a2,a3⟩:=bW JS;have O:Hid (Tryz.prog.info? 177=some I/\I.zero=some (.agg #[ab 0,ab 0,ab 0,af ⟨#[]⟩,ae none 0 0])/\I.size=5/\I.bytes=64):=⟨aU,a1,a2,a3⟩;clear aU a1 a2 a3;have aG:Hid (∃R A,(R=w.alloc (.cells #[ab k,ab ad,ab al,af an,ae xa ar xc,ab y0,ab y1,af y2,ae ya yl yc,af nm,ab a6] 248)/\A=w.heap.size)/\ak w R/\∀W,ak R W->W.cell? ⟨A,5,none⟩=some (ab y0)/\W.cell? ⟨A,6,none⟩=some (ab y1)/\W.cell? ⟨A,7,none⟩=some (af y2)/\W.cell? ⟨A,8,none⟩=some (ae ya yl yc)):=by
  refine⟨_,_,⟨rfl,rfl⟩,(aq _ _).alloc (ao _) _,λW bi=>?_⟩;have c:=(bi.block w.heap.size (by simp)).trans (aF w _);exact⟨ah c 5,ah c 6,ah c 7,ah c 8⟩
 go_enter func186,ntmps186;go_wp2_with fail;obtain⟨R,A,⟨a4,aY⟩,aQ,aR⟩:=aG.out;rw[<-a4,<-aY];have S:=au aQ;have a8:=au aR;clear a4 aY aQ aR aG;refine(aB _ S).mono ?_;rintro e bI ⟨u,rfl,J⟩;have C:=au (S.trans (J.1.mono S.size));have a9:=au J.2;obtain⟨bA,bC,bD,bE⟩:=a8 _ J.1;clear J aB;cases t
 ·go_wp2_with fail
  go_ret
  exact⟨rfl,λ_=>C,λc=>(by cases c)⟩
 ·go_wp2_with fail;refine(aE _ C).mono ?_;rintro e x ⟨a,rfl,B⟩;have D:=au (C.trans (B.1.mono C.size));cases o with
  | none=>
   simp only[ng];go_wp2_with fail
   go_ret
   exact⟨rfl,λ_=>D.alloc D.size _,λc=>(by cases c)⟩
  | some bJ=>
   simp only[nh];have aL:=au B.2.1;have bf:=au B.2.2.1;have bg:=au B.2.2.2;have be:=au C.size;have aI:Hid (∃d p,(d=x.alloc (.cells #[ab a.1.1,ab a.1.2.1,af a.1.2.2,ae a.2.1.1 a.2.2.length a.2.1.2] 31)/\p=x.heap.size)/\ak x d/\d.heap[p]?=some (.cells #[ab a.1.1,ab a.1.2.1,af a.1.2.2,ae a.2.1.1 a.2.2.length a.2.1.2] 31)/\d.heap.size=x.heap.size+1):=⟨_,_,⟨rfl,rfl⟩,(aq _ _).alloc (ao _) _,aF _ _,by simp⟩;clear B aE;go_wp2_with fail;obtain⟨d,p,⟨a5,aa⟩,r⟩:=aI.out;rw[<-a5,<-aa];have bd:Hid (p=x.heap.size):=aa;replace r:=au r;clear a5 aa aI;have M:=au (D.trans (r.1.mono D.size));obtain⟨l,aV⟩:∃l:Obj,l=.cells #[ab u,ab a.1.1,ab a.1.2.1,af a.1.2.2,ae a.2.1.1 a.2.2.length a.2.1.2] 177:=⟨_,rfl⟩;have U:Hid (∀W:ag,ak d W->W.cell? ⟨f,3,none⟩=some (ae h L j)/\W.cell? ⟨p,0,none⟩=some (ab a.1.1)/\W.cell? ⟨p,1,none⟩=some (ab a.1.2.1)/\W.cell? ⟨p,2,none⟩=some (af a.1.2.2)/\W.cell? ⟨p,3,none⟩=some (ae a.2.1.1 a.2.2.length a.2.1.2)):=λW c=>by
    have Q:=(c.block p (aJ.1 r.2.1).1).trans r.2.1;have Z:=M.trans (c.mono M.size);exact⟨(Z.cell (p:=⟨f,3,none⟩) aS).trans ay.1,ah Q 0,ah Q 1,ah Q 2,ah Q 3⟩
   have E:Hid (ak d (d.alloc l).drew):=((aq _ _).alloc (ao _) l).drew;have s:=U d.drew (aq _ _).drew;have X:=au (U _ E);have K:=au (M.trans (E.mono M.size));have aA:Hid ((d.alloc l).drew.ownsRow base 177 5 (ae h L j) L xs):=bu aC (aO K λ_=>False) λ_ _ c=>c;have az:Hid ((d.alloc l).drew.heap[d.heap.size]?=some l):=aF d l;have F:Hid ((d.alloc l).drew.heap.size=d.heap.size+1):=(show _=_ by simp[World.drew]);have P:Hid (d.heap.size=x.heap.size+1/\w.heap.size<=x.heap.size):=⟨r.2.2,D.size⟩;have aM:Hid (In (d.alloc l).drew.heap.size (d.alloc l).drew (N+1) a):=(aL.below (r.1.trans (E.mono r.1.size))).mono (by have:=r.1.size;have:=E.size;omega);rw[aV]at E X K aA az F aM;clear aV l;obtain⟨br,bv,bw,bx,bz⟩:=U d (aq _ _);refine wp_region_noPanic ?_;refine jJ (λW=>W.cell? ⟨f,3,none⟩=some (ae h L j)/\W.cell? ⟨p,0,none⟩=some (ab a.1.1)/\W.cell? ⟨p,1,none⟩=some (ab a.1.2.1)/\W.cell? ⟨p,2,none⟩=some (af a.1.2.2)/\W.cell? ⟨p,3,none⟩=some (ae a.2.1.1 a.2.2.length a.2.1.2)) 12 (by kernel_rfl) ?_
   try simp only[dT]
   refine aZ (i:=0) (v:= ?_) rfl (by kernel_rfl) (by kernel_rfl) (by kernel_rfl) (by kernel_rfl) (λ_ _ _ c=>c) rfl ?_ s ?_;rotate_left
   ·intro w' g
    try dsimp only at g
    go_simp
    try with_reducible rfl
   try simp only[Act.put,cg]
   refine aZ (i:=1) (v:= ?_) rfl (by kernel_rfl) (by kernel_rfl) (by kernel_rfl) (by kernel_rfl) (λ_ _ _ c=>c) rfl ?_ s ?_;rotate_left
   ·intro w' g
    try dsimp only at g
    go_simp
    try with_reducible rfl
   try simp only[Act.put]
   refine aZ (i:=2) (v:= ?_) rfl (by kernel_rfl) (by kernel_rfl) (by kernel_rfl) (by kernel_rfl) (λ_ _ _ c=>c) rfl ?_ s ?_;rotate_left
   ·intro w' g
    try dsimp only at g
    go_simp
    try with_reducible rfl
   try simp only[Act.put]
   refine aZ (i:=3) (v:= ?_) rfl (by kernel_rfl) (by kernel_rfl) (by kernel_rfl) (by kernel_rfl) (λ_ _ _ c=>c) rfl ?_ s ?_;rotate_left
   ·intro w' g
    try dsimp only at g
    go_simp
    try with_reducible rfl
   try simp only[Act.put]
   refine aZ (i:=4) (v:= ?_) rfl (by kernel_rfl) (by kernel_rfl) (by kernel_rfl) (by kernel_rfl) (λ_ _ _ c=>c) rfl ?_ s ?_;rotate_left
   ·intro w' g
    try dsimp only at g
    go_simp
    try with_reducible rfl
   try simp only[Act.put]
   refine aZ (i:=5) (v:= ?_) rfl (by kernel_rfl) (by kernel_rfl) (by kernel_rfl) (by kernel_rfl) (λ_ _ _ c=>c) rfl ?_ s ?_;rotate_left
   ·intro w' g
    try dsimp only at g
    go_simp
    try with_reducible rfl
   try simp only[Act.put]
   refine aZ (i:=6) (v:= ?_) rfl (by kernel_rfl) (by kernel_rfl) (by kernel_rfl) (by kernel_rfl) (λ_ _ _ c=>c) rfl ?_ s ?_;rotate_left
   ·intro w' g
    try dsimp only at g
    go_simp
    try with_reducible rfl
   try simp only[Act.put]
   refine aZ (i:=7) (v:= ?_) rfl (by kernel_rfl) (by kernel_rfl) (by kernel_rfl) (by kernel_rfl) (λ_ _ _ c=>c) rfl ?_ s ?_;rotate_left
   ·intro w' g
    try dsimp only at g
    go_simp
    try with_reducible rfl
   try simp only[Act.put]
   refine dg (i:=8) (by kernel_rfl) rfl rfl (λy m=>?_) (by decide)
   go_simp
   refine m _ _ (λ_=>X) (λbG=>?_);clear m y
   try simp only[Act.put,cg,du,dt]
   refine dg (i:=9) (by kernel_rfl) rfl rfl (λy m=>?_) (by decide);refine wp_append_lies _ _ _ 114 rfl base 177 I _ 5 64 underlying114 O.1 O.2.1 O.2.2.1 O.2.2.2 rfl (by decide) (ae h L j) L xs rfl aA ⟨d.heap.size,0,none⟩ 1 1 (Nz u a) rfl rfl (World.news_of_block (cs:= #[ab u,ab a.1.1,ab a.1.2.1,af a.1.2.2,ae a.2.1.1 a.2.2.length a.2.1.2]) (t:=177) (fr:=(0,0)) az) (by simp[Nz,Value.oneCell']) (by decide) (by unfold maxLen;omega) (by omega) (by have:=F.out;have:=P.out;omega) _ rfl ?_;intro G bh q aX z Y bj;have ba:Hid (bB (λn=>(Value.slice h L j).ownBlock=some n) w q):=bB.trans (aO K _) (eA z) λ_ _ e=>e;have a7:Hid ((Value.slice h L j).ownBlock=some G\/w.heap.size<=G):=by
    rcases Y with e|e
    ·exact ai e
    ·exact aj (by have:=F.out;have:=P.out;omega)
   have bc:=au aX;have V:Hid (∀b,(Value.slice h L j).ownBlock=some b->b<w.heap.size):=λb Z=>(aC.lt b Z).2;have aK:Hid (In q.heap.size q (N+1) a/\cr (λn=>w.heap.size<=n/\n≠G) (N+1) a):=by
    have aW:cr (λn=>w.heap.size<=n/\n<x.heap.size) (N+1) a:=(In.offB bf aL).mono λn H=>⟨aD be H.1,H.2⟩;refine⟨aM.kee (eA z) (aW.mono λn H e=>?_),aW.mono λn H=>⟨H.1,λe=>?_⟩⟩
    ·have:=V n e;omega
    ·rcases Y with aN|aN
     ·have:=V G aN;omega
     ·have:=F.out;have:=P.out;omega
   have T:Hid ((q.cell? ⟨f,3,none⟩=some (ae h L j)/\q.cell? ⟨p,0,none⟩=some (ab a.1.1)/\q.cell? ⟨p,1,none⟩=some (ab a.1.2.1)/\q.cell? ⟨p,2,none⟩=some (af a.1.2.2)/\q.cell? ⟨p,3,none⟩=some (ae a.2.1.1 a.2.2.length a.2.1.2))/\q.frozen? ⟨f,3,none⟩=false):=by
    have bK:=F.out;have bL:=P.out;have bM:=bd.out;have bk:some p≠(Value.slice h L j).ownBlock:=λe=>by
     have:=V p e.symm;omega
    have a0:some f≠(Value.slice h L j).ownBlock:=λe=>bb e.symm;have k:=λbl=>z.cell_far ⟨p,bl,none⟩ (by show p<_;omega) bk;obtain⟨bm,bn,bo,bp,bq⟩:=X;refine⟨⟨(z.cell_far ⟨f,3,none⟩ (by show f<_;omega) a0).trans bm,(k 0).trans bn,(k 1).trans bo,(k 2).trans bp,(k 3).trans bq⟩,?_⟩;rw[z.frozen_far ⟨f,3,none⟩ (by show f<_;omega) a0];have aT:=ay.2;unfold World.frozen? at aT ⊢;rw[K.out.block f aS];exact aT
   clear aX z Y bj;refine m _ _ (λ_=>T.1) (λaP=>?_);clear m y
   try simp only[Act.put,cg]
   refine dg (i:=10) (by kernel_rfl) rfl rfl (λy m=>?_) (by decide)
   go_simp
   refine m _ _ (λ_=>aP) (λ_=>?_);clear m y
   try simp only[Act.put,cg,du,dt]
   refine aZ (i:=11) (v:= ?_) rfl (by kernel_rfl) (by kernel_rfl) (by kernel_rfl) (by kernel_rfl) (λ_ _ _ c=>c) rfl ?_ aP ?_;rotate_left
   ·intro w' g
    try dsimp only at g
    go_simp
    try with_reducible rfl
   try simp only[Act.put,cg]
   have bt:=T.2;have bs:=T.1.1;refine jI (by kernel_rfl) rfl rfl (by kernel_rfl) (λy m=>?_)
   go_simp
   refine m _ _ (NoPanic.normal ?_);clear m y
   try simp only[Act.put,cg,du,dt]
   go_wp2_with fail
   go_ret
   exact⟨rfl,λc=>(by cases c),λ_=>⟨u,a,G,bh,q,a9.out,bg.out,aK.out.1,aK.out.2,bc.out,ba.out,a7.out,rfl⟩⟩
end Go.Proofs.YtmmahddlcldmiaaGreat

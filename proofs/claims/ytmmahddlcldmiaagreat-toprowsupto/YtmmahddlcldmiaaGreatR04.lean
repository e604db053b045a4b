/- Proved here: plain facts and contracts. No condition but what each names. -/
import Derived.Test.YtmmahddlcldmiaaGreatR03
import Derived.OrdersHeld
import Derived.Maps.OwnSet
import Derived.StringKeys
import Derived.Maps.AppendAt
import Derived.Deep.QuietTactic
import Derived.BigQuiet
namespace Go.Proofs.YtmmahddlcldmiaaGreat
open Go.RowKit Go.Proofs.Tryz
open Go.RowKit Go.Maps
set_option maxRecDepth 100000
set_option maxHeartbeats 4000000
def xN(N:Nat)(o:Option (Tm (N+1)))(w:ag)(e:Ending)(w':ag):Prop:=
 ∃a:Tm (N+1),e=.returned (.tuple #[.agg #[ab a.1.1,ab a.1.2.1,af a.1.2.2,ae a.2.1.1 a.2.2.length a.2.1.2],.bool o.isSome])/\Hid (am w w'/\In w'.heap.size w' (N+1) a/\cD (λb=>w.heap.size<=b) (N+1) a/\aB (N+1) a (N+1) (o.getD (xj N))=true)
theorem LA{N:Nat}{E:Int}{o:Option (Tm N)}:(Gj E (oE E o)==0)=(oE E o).isSome:=by
 unfold Gj;by_cases a:E=0
 ·rw[if_pos a];cases (oE E o).isSome<;>simp
 ·rw[if_neg a];have:oE E o=none:=by unfold oE;rw[if_neg a]
  rw[this];simp[a]
theorem Df{N:Nat}(y:Tm (N+1)):dG (N+1) y=.agg #[ab y.1.1,ab y.1.2.1,af y.1.2.2,ae y.2.1.1 y.2.2.length y.2.1.2]:=rfl
theorem Mu{w w':ag}{t:TypeId}{v0 v1 v2 v3:au}(b:Below (w.alloc (.cells #[v0,v1,v2,v3] t)).drew.heap.size (w.alloc (.cells #[v0,v1,v2,v3] t)).drew w'):ai w' w.heap.size 0 v0/\ai w' w.heap.size 1 v1/\ai w' w.heap.size 2 v2/\ai w' w.heap.size 3 v3/\w'.frozen? ⟨w.heap.size,0,none⟩=false/\w'.frozen? ⟨w.heap.size,1,none⟩=false/\w'.frozen? ⟨w.heap.size,2,none⟩=false/\w'.frozen? ⟨w.heap.size,3,none⟩=false:=by
 have a:=(b.block w.heap.size (by simp[World.drew])).trans (aD w (.cells #[v0,v1,v2,v3] t));exact⟨ah a 0,ah a 1,ah a 2,ah a 3,by simp[World.frozen?,a],by simp[World.frozen?,a],by simp[World.frozen?,a],by simp[World.frozen?,a]⟩
theorem O4{w w':ag}{t:TypeId}{v0 v1 v2 v3:au}(a:Below (w.alloc (.cells #[v0,v1,v2,v3] t)).drew.heap.size (w.alloc (.cells #[v0,v1,v2,v3] t)).drew w'):w'.heap[w.heap.size]?=some (.cells #[v0,v1,v2,v3] t):=
 (a.block w.heap.size (by simp[World.drew])).trans (aD w (.cells #[v0,v1,v2,v3] t))
theorem te{w:ag}{g:Nat}{t:TypeId}{b c d e:au}(a:w.heap[g]?=some (.cells #[b,c,d,e] t))(v0 v1 v2 v3:au):(df w g 0 v0 v1 v2 v3).heap[g]?=some (.cells #[v0,v1,v2,v3] t):=by
 simp[df,World.setCell,bT,a]
def xM(N:Nat)(y:Tm (N+1))(w0:ag)(q p:Nat)(w2 b:ag):Prop:=
 am w0 b/\b.heap[p]?=some (.cells #[ab y.1.1,ab y.1.2.1,af y.1.2.2,ae y.2.1.1 y.2.2.length y.2.1.2] 31)/\p≠q/\(∀a,a<w2.heap.size->a≠p->b.heap[a]?=w2.heap[a]?)/\cD (λa=>w0.heap.size<=a/\a<w2.heap.size/\a≠p) (N+1) y
theorem xM.cells{N:Nat}{y:Tm (N+1)}{w0 w2 a:ag}{q p:Nat}(c:xM N y w0 q p w2 a)(d:q<w0.heap.size){t:TypeId}{v0 v1 v2 v3:au}(e:w0.heap[q]?=some (.cells #[v0,v1,v2,v3] t)):(ai a p 0 (ab y.1.1)/\ai a p 1 (ab y.1.2.1)/\ai a p 2 (af y.1.2.2)/\ai a p 3 (ae y.2.1.1 y.2.2.length y.2.1.2))/\ (ai a q 0 v0/\ai a q 1 v1/\ai a q 2 v2/\ai a q 3 v3)/\a.frozen? ⟨q,0,none⟩=false/\a.frozen? ⟨q,1,none⟩=false/\a.frozen? ⟨q,2,none⟩=false/\a.frozen? ⟨q,3,none⟩=false/\p≠q:=by
 have b:=(c.1.block q d).trans e;exact⟨⟨ah c.2.1 0,ah c.2.1 1,ah c.2.1 2,ah c.2.1 3⟩,⟨ah b 0,ah b 1,ah b 2,ah b 3⟩,by simp[World.frozen?,b],by simp[World.frozen?,b],by simp[World.frozen?,b],by simp[World.frozen?,b],c.2.2.1⟩
theorem xM.close{N:Nat}{y:Tm (N+1)}{E:Int}{o:Option (Tm (N+1))}{w w0 w2 d:ag}{q p:Nat}(f:xM N y w0 q p w2 d)(b:am w w0)(k:w.heap.size<=q)(t:q<w0.heap.size)(j:In w2.heap.size w2 (N+1) y)(l:aB (N+1) y (N+1) ((oE E o).getD (xj N))=true){v0 v1 v2 v3:au}(m:w2.heap.size<=d.heap.size):xN N (oE E o) w (.returned (.tuple #[.agg #[ab y.1.1,ab y.1.2.1,af y.1.2.2,ae y.2.1.1 y.2.2.length y.2.1.2],.bool (Gj E (oE E o)==0)])) (df d q 0 v0 v1 v2 v3):=by
 obtain⟨g,n,r,h,e⟩:=f;have i:=b.trans (g.mono b.size);have s:=b.size;refine⟨y,by rw[LA],du i k _ _ _ _,?_,e.mono λa c=>by omega,l⟩;rw[bG];exact(In.off (P:=λa=>w0.heap.size<=a/\a<w2.heap.size/\a≠p) (λa c=>(bm (by omega) _ _ _ _).trans (h a c.2.1 c.2.2)) e j).mono m
theorem zQ(N:Nat)(E:Int)(o:Option (Tm (N+1)))(r s:Int)(t:aq)(xa:ar)(u xc:Nat)(a:ar)(c:Nat)(self:Int)(f:Nat)(w:ag)(ad:f<w.heap.size)(d0:ai w f 0 (ae a 4 c))(d1:ai w f 1 (ab self))(J:Hid (∀W,am w W->ao 155 #[.agg #[ab r,ab s,af t,ae xa u xc],ae a 4 c,ab self] W (A2 N E o W))):ao 117 #[aH f,.agg #[ab r,ab s,af t,ae xa u xc]] w (xN N (oE E o) w):=by
 have S:Hid (∃d g y,(d=(w.alloc (.cells #[ab r,ab s,af t,ae xa u xc] 31)).alloc (.cells #[ab 0,ab 0,af ⟨#[]⟩,ae none 0 0] 31)/\g=w.heap.size/\y=w.heap.size+1)/\(g<d.heap.size/\f<d.heap.size/\y<d.heap.size/\w.heap.size<=y)/\am w d/\d.heap[y]?=some (.cells #[ab 0,ab 0,af ⟨#[]⟩,ae none 0 0] 31)/\∀W,am d W->(ai W g 0 (ab r)/\ai W g 1 (ab s)/\ai W g 2 (af t)/\ai W g 3 (ae xa u xc))/\ai W f 0 (ae a 4 c)/\ai W f 1 (ab self)):=by
  have aa:am w ((w.alloc (.cells #[ab r,ab s,af t,ae xa u xc] 31)).alloc (.cells #[ab 0,ab 0,af ⟨#[]⟩,ae none 0 0] 31)):=(aS _ _).alloc (by simp) _;have an:=aD (w.alloc (.cells #[ab r,ab s,af t,ae xa u xc] 31)) (.cells #[ab 0,ab 0,af ⟨#[]⟩,ae none 0 0] 31);rw[ja]at an;refine⟨_,_,_,⟨rfl,rfl,rfl⟩,⟨by simp;omega,by simp;omega,by simp,by omega⟩,aa,an,λW Y=>?_⟩;have K:=(Y.block w.heap.size (by simp;omega)).trans (((aS _ _).block w.heap.size (by simp)).trans (aD w (.cells #[ab r,ab s,af t,ae xa u xc] 31)));have Z:am w W:=aa.trans (Y.mono (by simp;omega));exact⟨⟨ah K 0,ah K 1,ah K 2,ah K 3⟩,(Z.cell (p:=⟨f,0,none⟩) ad).trans d0,(Z.cell (p:=⟨f,1,none⟩) ad).trans d1⟩
 go_enter func117,ntmps117;go_wp2_with fail;obtain⟨d,g,y,⟨al,aj,ak⟩,i,n,I,h⟩:=S.out;rw[<-al,<-ak,<-aj];replace i:=ap i;replace n:=ap n;replace I:=ap I;replace h:=ap h;clear al aj ak S d0 d1;obtain⟨⟨T,U,V,X⟩,d0,d1⟩:=h.out d (aA _ _);have x:Hid (am d d.drew):=(aA _ _).drew;have z:Hid (∀o:Obj,am d (d.alloc o).drew):=λo=>(aS _ o).drew;have M:Hid (∀o:Obj,am w (d.alloc o).drew):=λo=>n.trans ((z o).mono n.size);have O:=ap (n.trans (x.mono n.size))
 go_region_held3 (λW=>(W.cell? ⟨g,0,none⟩=some (ab r)/\W.cell? ⟨g,1,none⟩=some (ab s)/\W.cell? ⟨g,2,none⟩=some (af t)/\W.cell? ⟨g,3,none⟩=some (ae xa u xc))/\W.cell? ⟨f,0,none⟩=some (ae a 4 c)/\W.cell? ⟨f,1,none⟩=some (ab self))
  (first|(go_keep;done)|exact h _ x|exact h _ (z _)|exact h _ (j.alloc j.size _)|exact h _ ((((j.setCell (av _) _).setCell (av _) _).setCell (av _) _).setCell (av _) _)|exact h _ j) ((first
   | (go_at_call 155;refine(J _ O).mono ?_;rintro aC q ⟨b,rfl,e⟩;rw[Df];have j:=ap (x.trans (e.1.mono x.size)))
   | (go_at_call 155;refine(J _ (M _)).mono ?_;rintro aC q ⟨b,rfl,e⟩;rw[Df];have j:=ap ((z _).trans (e.1.mono (z _).size));have au:=ap (O4 e.1);obtain⟨D,F,G,H,f0,f1,f2,f3⟩:=Mu e.1)))
 ·have B:Hid (∃m p,(m=q.alloc (.cells #[ab b.1.1,ab b.1.2.1,af b.1.2.2,ae b.2.1.1 b.2.2.length b.2.1.2] 31)/\p=q.heap.size)/\xM N b d y p q m):=by
    refine⟨_,_,⟨rfl,rfl⟩,j.alloc j.size _,aD _ _,?_,λL A _=>(aS _ _).block L A,?_⟩
    ·have:=i.2.2.1;have:=j.size;omega
    ·exact(In.offB e.2.2.1 e.2.1).mono λL A=>by have:=x.size;omega
  obtain⟨m,p,⟨l,C⟩,k⟩:=B.out;rw[<-l,<-C];replace k:=ap k;have P:=ap e.2.1;have Q:=ap e.2.2.2;have R:Hid (q.heap.size<=m.heap.size):=by
   rw[l];simp[Hid]
  clear l C B e J h z M O x T U V X d0 d1;obtain⟨⟨aw,ax,az,aB⟩,⟨D,F,G,H⟩,f0,f1,f2,f3,aE⟩:=k.out.cells i.2.2.1 I;go_wp2_with fail;exact ay (v:=.tuple #[.agg #[ab b.1.1,ab b.1.2.1,af b.1.2.2,ae b.2.1.1 b.2.2.length b.2.1.2],.bool (Gj E (oE E o)==0)]) (by simp[results,results117,go_sem,D,F,G,H]) rfl (k.close n i.2.2.2 i.2.2.1 P Q R)
 ·have B:Hid (∃m p,(m=df q d.heap.size 0 (ab b.1.1) (ab b.1.2.1) (af b.1.2.2) (ae b.2.1.1 b.2.2.length b.2.1.2)/\p=d.heap.size)/\xM N b d y p q m):=by
    refine⟨_,_,⟨rfl,rfl⟩,((((j.setCell (av _) _).setCell (av _) _).setCell (av _) _).setCell (av _) _),?_,?_,λL _ A=>bm A _ _ _ _,?_⟩
    ·exact te au _ _ _ _
    ·have:=i.2.2.1;omega
    ·exact(In.offB e.2.2.1 e.2.1).mono λL A=>by
       have:=A.1;simp[World.drew]at this;omega
  obtain⟨m,p,⟨l,C⟩,k⟩:=B.out;replace k:=ap k;have P:=ap e.2.1;have Q:=ap e.2.2.2;have R:Hid (q.heap.size<=m.heap.size):=by
   rw[l,bG];exact av _
  unfold df at l;simp only[cT]at l;rw[<-l,<-C];clear l C B e J h z M O x T U V X d0 d1 D F G H f0 f1 f2 f3;obtain⟨⟨aw,ax,az,aB⟩,⟨D,F,G,H⟩,f0,f1,f2,f3,aE⟩:=k.out.cells i.2.2.1 I;go_wp2_with fail;exact ay (v:=.tuple #[.agg #[ab b.1.1,ab b.1.2.1,af b.1.2.2,ae b.2.1.1 b.2.2.length b.2.1.2],.bool (Gj E (oE E o)==0)]) (by simp[results,results117,go_sem,D,F,G,H]) rfl (k.close n i.2.2.2 i.2.2.1 P Q R)
def F4{N:Nat}:Option (Tm (N+1))->Bool
 | some a=>a.1.1==3
 | none=>false
theorem BB(N:Nat)(o:Option (Tm (N+1)))(a d:Int)(f:aq)(xa:ar)(g xc:Nat)(q:Nat)(w:ag)(p:Hid (∀W,am w W->ao 117 #[aH q,.agg #[ab a,ab d,af f,ae xa g xc]] W (xN N o W))):ao 201 #[aH q,.agg #[ab a,ab d,af f,ae xa g xc]] w λe w'=>∃r,e=.returned (.tuple #[ab r,.bool (F4 o)])/\Hid (am w w'/\∀b,o=some b->r=b.1.2.1):=by
 have h:Hid (∀o:Obj,am w (w.alloc o)):=λo=>aS _ o;have s:(w.alloc (.cells #[ab a,ab d,af f,ae xa g xc] 31)).cell? ⟨w.heap.size,0,none⟩=some (ab a):=ah (aD w _) 0;go_enter func201,ntmps201;go_wp2_with fail;refine(p _ (h _)).mono ?_;rintro e v ⟨x,rfl,i⟩;have l:=ap ((h (.cells #[ab a,ab d,af f,ae xa g xc] 31)).trans (i.1.mono (h _).size));have n:=ap i.2.2.2;have m:Hid (∀k:Obj,am w (v.alloc k).drew):=λk=>(l.alloc l.size k).drew;clear i p s;cases o with
 | none=>
  simp only[nE];go_wp2_with fail;go_region
  all_goals
   go_wp2_with fail
   go_ret2
   exact⟨_,rfl,m _,λb j=>by cases j⟩
 | some b=>
  simp only[nF];have c:=n.out;simp only[Option.getD_some,aB,aK,cv]at c;have t:Hid (F4 (some b)=(x.1.1==3)):=by
   show _=_;rw[c.1.1.1];rfl
  have u:=ap c.1.1.2;clear c n;go_wp2_with fail;go_region
  all_goals
   go_wp2_with fail
   go_ret2
   rw[t.out];exact⟨_,rfl,m _,λy j=>by cases j;exact u⟩
theorem Np:(Tryz.prog.info? 3).map (λi=>(i.zero,i.size,i.bytes))=some (some (ab 0),1,8):=by kernel_rfl
def PW(base i:Nat)(f:ar)(L g:Nat)(xs:cX)(t:Bool)(h:Int->Prop)(w:ag)(e:Ending)(w':ag):Prop:=
 e=.returned (.bool t)/\(t=false->am w w')/\
  (t=true->∃d a c b,h d/\b.ownsRow base 3 1 (ae (some ⟨a,0,none⟩) (L+1) c) (L+1) (xs++ [ab d])/\bE (λj=>(Value.slice f L g).ownBlock=some j) w b/\((Value.slice f L g).ownBlock=some a\/w.heap.size<=a)/\w'=b.setCell ⟨i,5,none⟩ (ae (some ⟨a,0,none⟩) (L+1) c))
theorem Hz(k u v:Int)(x:aq)(xa:ar)(y xc:Nat)(y0 y1:Int)(y2:aq)(ya:ar)(yl yc:Nat)(nm:aq)(O:Int)(base a:Nat)(b:ar)(L c:Nat)(xs:cX)(w:ag)(t:Bool)(z:Int->Prop)(ah:L<=10000)(G:a<w.heap.size)(al:base<=w.heap.size)(A:Hid (ai w a 5 (ae b L c)/\w.frozen? ⟨a,5,none⟩=false))(V:Hid (w.ownsRow base 3 1 (ae b L c) L xs))(B:Hid ((Value.slice b L c).ownBlock≠some a))(C:Hid (∀W,am w W->ao 201 #[aH a,.agg #[ab u,ab v,af x,ae xa y xc]] W λe w'=>∃f,e=.returned (.tuple #[ab f,.bool t])/\Hid (am W w'/\z f))):ao 188 #[aH a,.agg #[ab k,ab u,ab v,af x,ae xa y xc,ab y0,ab y1,af y2,ae ya yl yc,af nm,ab O]] w (PW base a b L c xs t z w):=by
 obtain⟨j,H,J,K,M⟩:=bY Np;have n:Hid (Tryz.prog.info? 3=some j/\j.zero=some (ab 0)/\j.size=1/\j.bytes=8):=⟨H,J,K,M⟩;clear H J K M;have D:Hid (∃r,r=w.alloc (.cells #[ab k,ab u,ab v,af x,ae xa y xc,ab y0,ab y1,af y2,ae ya yl yc,af nm,ab O] 248)/\am w r):=⟨_,rfl,aS _ _⟩;go_enter func188,ntmps188;go_wp2_with fail;obtain⟨r,N,F⟩:=D.out;rw[<-N];have m:=ap F;clear N F D;refine(C _ m).mono ?_;rintro e l ⟨f,rfl,q⟩;have d:=ap (m.trans (q.1.mono m.size));have Q:=ap q.2;clear q C m;cases t
 ·go_wp2_with fail
  go_ret
  exact⟨rfl,λ_=>d,λh=>(by cases h)⟩
 ·have X:ai l a 5 (ae b L c):=(d.cell (p:=⟨a,5,none⟩) G).trans A.1;have T:Hid (l.ownsRow base 3 1 (ae b L c) L xs):=bB V (aR d λ_=>False) λ_ _ h=>h;have g:=ap d.size;have R:Hid (l.frozen? ⟨a,5,none⟩=false):=by
   have i:=A.2;unfold World.frozen? at i ⊢;rw[d.out.block a G];exact i
  go_wp2_with (first
   | (at_builtin;refine wpList_append_lies _ rfl _ _ 25 rfl base 3 j _ 1 8 underlying25 n.1 n.2.1 n.2.2.1 n.2.2.2 rfl (by decide) (ae b L c) L xs rfl (T.alloc _) ⟨l.heap.size,0,none⟩ 1 1 [ab f] rfl rfl (World.news_of_block (cs:= #[ab f]) (t:=3) (fr:=(0,0)) (aD l _)) (by simp[Value.oneCell']) (by decide) (by unfold maxLen;omega) (by omega) (by have:=g.out;simp;omega) _ rfl ?_;intro Z Y s I o E aa;have U:=ap I;have S:=ap o;have P:=ap E;have ad:ai s a 5 (ae b L c):=(o.cell_far ⟨a,5,none⟩ (by show a<_;have:=g.out;simp;omega) (λe=>B e.symm)).trans ((aS _ _ |>.cell (p:=⟨a,5,none⟩) (by show a<_;have:=g.out;omega)).trans X);have f5:s.frozen? ⟨a,5,none⟩=false:=(o.frozen_far ⟨a,5,none⟩ (by show a<_;have:=g.out;simp;omega) (λe=>B e.symm)).trans (by have i:=R.out;unfold World.frozen? at i ⊢;rw[(aS _ (.cells #[ab f] 3)).block a (by have:=g.out;omega)];exact i);clear I o E aa))
  go_ret
  refine⟨rfl,λh=>(by cases h),λ_=>⟨f,Z,Y,s,Q.out,U.out,?_,?_,rfl⟩⟩
  ·exact bE.trans (aR (d.alloc d.size _) _) (eM S) λ_ _ e=>e
  ·rcases P with e|e
   ·exact aj e
   ·have:=g.out;simp at e;exact ak (by omega)
section
variable {P:Program} {ops:Array Oper} {Q:Exit->Act->bt} {md:Region.Mode} {S:bt} {X:Nat}
def ko(P:Program)(md:Region.Mode)(ops:Array Oper)(Q:Exit->Act->bt)(S:bt)(X:Nat):Nat->Array Bool->Act->ag->Prop
 | 0,listed,a,w=>Region.ready md ops listed=[]/\Q .normal a w
 | fuel+1,listed,a,w=>
  (Region.ready md ops listed=[]->Q .normal a w)/\
  ∀i∈Region.ready md ops listed,wpOp P ops Q i (λb w'=>(i≠X->S w')/\ko P md ops Q S X fuel (listed.setIfInBounds i true) b w') a w
theorem xh:∀(fuel:Nat)(b:Array Bool)(a:Act)(w:ag),ko P md ops Q S X fuel b a w->wpAny P md ops Q fuel b a w
 | 0,_,_,_,h=>h
 | fuel+1,_,_,_,h=>⟨h.1,λi e=>wpOp_mono (λc w' d=>xh fuel _ c w' d.2) (h.2 i e)⟩
theorem AU{i:Nat}{m:Oper}{v:au}(z:ops[i]?=some m)(G:∀(j:Nat)(o:Oper) cs b,ops[j]?=some o->o.op≠.select cs b)(L:∀c a w,Q (.panic c) (a.put m.dst v) w->Q (.panic c) a w)(M:∀d,ops[X]?=some d->∃e∈d.after,Region.binds md e=true/\e.on=i):∀(p:Nat)(f:Array Bool)(a:Act)(w:ag),(∀j d,ops[j]?=some d->j≠i->f.getD j true=false->(∀e∈d.after,Region.binds md e=true->e.on≠i)->m.apart ops d=true)-> i∈Region.ready md ops f->YieldsIf P ops S m v a->S w-> ko P md ops Q S X p (f.setIfInBounds i true) (a.put m.dst v) w->ko P md ops Q S X (p+1) f a w:=by
 intro p
 induction p with
 | zero=>
  intro f a w _ l u q n;refine⟨λx=>(by rw[x]at l;cases l),λj s=>?_⟩;by_cases g:j=i
  ·subst g;exact u.wpOp z q ⟨λ_=>q,n⟩
  ·have:=ready_mono s g;rw[n.1]at this;cases this
 | succ p ih=>
  intro f a w B l u q n;refine⟨λx=>(by rw[x]at l;cases l),λj s=>?_⟩;by_cases g:j=i
  ·subst g;exact u.wpOp z q ⟨λ_=>q,n⟩
  ·have h:=n.2 j (ready_mono s g);obtain⟨D,d,t,N⟩:=mem_ready.1 s;have F:∀e∈d.after,Region.binds md e=true->e.on≠i:=λe T O V=>by
    have h:=N e T O;have A:=(mem_ready.1 l).1;rw[V]at h;rcases Nat.lt_or_ge i f.size with y|y
    ·simp[y]at A h;rw[A]at h;cases h
    ·simp[Array.getElem?_eq_none y]at h
   have E:j≠X:=λe=>by
    obtain⟨J,U,R,ab⟩:=M d (by rw[<-e];exact t);exact F J U R ab
   have K:=wpOp_putIf t (B j d t g D F) (λcs b=>G i m cs b z) (λcs b=>G j d cs b t) L u h
   have W:∀k ok,ops[k]?=some ok->k≠i->(f.setIfInBounds j true).getD k true=false->
     (∀e∈ok.after,Region.binds md e=true->e.on≠i)->m.apart ops ok=true:=λk ok Y Z H aa=>by
    refine B k ok Y Z ?_ aa;by_cases C:j=k
    ·subst C;exact D
    ·rw[getD_set_ne true C]at H;exact H
   refine wpOp_mono (λI ad r=>⟨λ_=>r.2.1 E,ih (f.setIfInBounds j true) I ad W (ready_mono l (Ne.symm g)) r.1 (r.2.1 E) ?_⟩) K;rw[Array.setIfInBounds_comm _ _ g];exact r.2.2
def AS(md:Region.Mode)(ops:Array Oper)(X i:Nat):Bool:=((ops[X]?).map λo=>o.after.any λe=>Region.binds md e && e.on==i).getD false
theorem Fp{i:Nat}(a:AS md ops X i=true):∀b,ops[X]?=some b->∃e∈b.after,Region.binds md e=true/\e.on=i:=λb c=>by
 unfold AS at a;rw[c]at a;simp only[nG,Option.getD_some,Array.any_eq_true]at a;obtain⟨k,d,a⟩:=a;simp only[aK,cv]at a;exact⟨_,Array.getElem_mem d,a.1,a.2⟩
theorem bi{i:Nat}{d:Oper}{v:au}{e:Nat}{b:Array Bool}{a:Act}{w:ag}(f:ops[i]?=some d)(n:Region.noSelect ops=true)(k:Region.free md ops b i=true)(m:(Region.ready md ops b).contains i=true)(o:AS md ops X i=true)(h:∀c a w,Q (.panic c) (a.put d.dst v) w->Q (.panic c) a w)(l:d.guard=none)(p:∀w,S w->(execOp a.eval d).run P w=.ok (.value v) w)(j:S w)(g:ko P md ops Q S X e (b.setIfInBounds i true) (a.put d.dst v) w):ko P md ops Q S X (e+1) b a w:=
 AU f (Region.noSelect_spec n) h (Fp o) e b a w (Region.free_spec f k) (by simpa using m) (aj ⟨by simp[Region.wanted,l],p⟩) j g
theorem dr{i:Nat}{o:Oper}{d:Nat}{c:Array Bool}{a:Act}{w:ag}(h:Region.ready md ops c=[i])(n:ops[i]?=some o)(l:o.guard=none)(j:∀K:Act->ag->Prop,Hid (∀b w',(i≠X->S w')->(S w'->ko P md ops Q S X d (c.setIfInBounds i true) b w')->K b w')->o.wp P a w K Q)(m:i≠X):ko P md ops Q S X (d+1) c a w:=by
 refine⟨λe=>(by rw[h]at e;cases e),λq g=>?_⟩;rw[h]at g;obtain rfl:q=i:=by simpa using g
 unfold wpOp;simp only[n];have p:Region.wanted o (yielded ops a.tmps)=true:=by simp[Region.wanted,l]
 simp only[p,dj];exact aj (j _ λb w' f k=>⟨f,k (f m)⟩)
theorem jY{o:Oper}{c:Nat}{d:Array Bool}{a:Act}{w:ag}(i:Region.ready md ops d=[X])(m:ops[X]?=some o)(l:o.guard=none)(g:Region.ready md ops (d.setIfInBounds X true)=[])(j:∀K:Act->ag->Prop,Hid (∀b w',Q .normal b w'->K b w')->o.wp P a w K Q):ko P md ops Q S X (c+1) d a w:=by
 refine⟨λe=>(by rw[i]at e;cases e),λp h=>?_⟩;rw[i]at h;obtain rfl:p=X:=by simpa using h
 unfold wpOp;simp only[m];have n:Region.wanted o (yielded ops a.tmps)=true:=by simp[Region.wanted,l]
 simp only[n,dj];refine aj (j _ λb w' f=>⟨λk=>absurd rfl k,?_⟩);cases c with
 | zero=>exact⟨g,f⟩
 | succ c=>exact⟨λ_=>f,by rw[g];simp⟩
theorem jZ(S:bt)(X:Nat){id:Nat}{a:Act}{w:ag}(c:P.follows .mixedOrders=true)(b:ko P .any ops Q S X ops.size (Array.replicate ops.size false) a w.drew):(Code.region id ops true).wp P Q a w:=
 wp_region_any c (xh _ _ _ _ b)
end
theorem KF:(Tryz.prog.info? 177).map (λi=>(i.zero,i.size,i.bytes))=some (some (.agg #[ab 0,ab 0,ab 0,af ⟨#[]⟩,ae none 0 0]),5,64):=by kernel_rfl
def Ov{N:Nat}(b:Int)(a:Tm (N+1)):List au:=[ab b,ab a.1.1,ab a.1.2.1,af a.1.2.2,ae a.2.1.1 a.2.2.length a.2.1.2]
def PZ(N base k:Nat)(h:ar)(L i:Nat)(xs:cX)(t:Bool)(j:Int->Prop)(o:Option (Tm (N+1)))(w:ag)(e:Ending)(w':ag):Prop:=
 e=.returned (.bool (t && o.isSome))/\((t && o.isSome)=false->am w w')/\
  ((t && o.isSome)=true->∃(g:Int)(f:Tm (N+1))(a c:Nat)(b:ag),j g/\aB (N+1) f (N+1) (o.getD (xj N))=true/\In b.heap.size b (N+1) f/\cD (λd=>w.heap.size<=d/\d≠a) (N+1) f/\b.ownsRow base 177 5 (ae (some ⟨a,0,none⟩) (L+1) c) (L+1) (xs++Ov g f)/\bE (λd=>(Value.slice h L i).ownBlock=some d) w b/\((Value.slice h L i).ownBlock=some a\/w.heap.size<=a)/\w'=b.setCell ⟨k,3,none⟩ (ae (some ⟨a,0,none⟩) (L+1) c))
theorem IZ(N:Nat)(k ad al:Int)(an:aq)(xa:ar)(au xc:Nat)(y0 y1:Int)(y2:aq)(ya:ar)(yl yc:Nat)(nm:aq)(a5:Int)(base f:Nat)(h:ar)(L j:Nat)(xs:cX)(w:ag)(t:Bool)(av:Int->Prop)(o:Option (Tm (N+1)))(bF:L<=10000)(aQ:f<w.heap.size)(bH:base<=w.heap.size)(aw:Hid (ai w f 3 (ae h L j)/\w.frozen? ⟨f,3,none⟩=false))(aB:Hid (w.ownsRow base 177 5 (ae h L j) L xs))(ba:Hid ((Value.slice h L j).ownBlock≠some f))(az:Hid (∀W,am w W->ao 201 #[aH f,.agg #[ab ad,ab al,af an,ae xa au xc]] W λe w'=>∃y,e=.returned (.tuple #[ab y,.bool t])/\Hid (am W w'/\av y)))(aC:Hid (∀W,am w W->ao 117 #[aH f,.agg #[ab y0,ab y1,af y2,ae ya yl yc]] W (xN N o W))):ao 186 #[aH f,.agg #[ab k,ab ad,ab al,af an,ae xa au xc,ab y0,ab y1,af y2,ae ya yl yc,af nm,ab a5]] w (PZ N base f h L j xs t av o w):=by
 obtain⟨I,aU,a0,a1,a2⟩:=bY KF;have O:Hid (Tryz.prog.info? 177=some I/\I.zero=some (.agg #[ab 0,ab 0,ab 0,af ⟨#[]⟩,ae none 0 0])/\I.size=5/\I.bytes=64):=⟨aU,a0,a1,a2⟩;clear aU a0 a1 a2;have aE:Hid (∃R A,(R=w.alloc (.cells #[ab k,ab ad,ab al,af an,ae xa au xc,ab y0,ab y1,af y2,ae ya yl yc,af nm,ab a5] 248)/\A=w.heap.size)/\am w R/\∀W,am R W->ai W A 5 (ab y0)/\ai W A 6 (ab y1)/\ai W A 7 (af y2)/\ai W A 8 (ae ya yl yc)):=by
  refine⟨_,_,⟨rfl,rfl⟩,aS _ _,λW bh=>?_⟩;have c:=(bh.block w.heap.size (by simp)).trans (aD w _);exact⟨ah c 5,ah c 6,ah c 7,ah c 8⟩
 go_enter func186,ntmps186;go_wp2_with fail;obtain⟨R,A,⟨a3,aY⟩,aO,aP⟩:=aE.out;rw[<-a3,<-aY];have S:=ap aO;have a7:=ap aP;clear a3 aY aO aP aE;refine(az _ S).mono ?_;rintro e bI ⟨y,rfl,J⟩;have C:=ap (S.trans (J.1.mono S.size));have a8:=ap J.2;obtain⟨bz,bA,bC,bD⟩:=a7 _ J.1;clear J az;cases t
 ·go_wp2_with fail
  go_ret
  exact⟨rfl,λ_=>C,λc=>(by cases c)⟩
 ·go_wp2_with fail;refine(aC _ C).mono ?_;rintro e u ⟨a,rfl,B⟩;have D:=ap (C.trans (B.1.mono C.size));cases o with
  | none=>
   simp only[nE];go_wp2_with fail
   go_ret
   exact⟨rfl,λ_=>D.alloc D.size _,λc=>(by cases c)⟩
  | some bJ=>
   simp only[nF];have aK:=ap B.2.1;have be:=ap B.2.2.1;have bf:=ap B.2.2.2;have bd:=ap C.size;have aG:Hid (∃d p,(d=u.alloc (.cells #[ab a.1.1,ab a.1.2.1,af a.1.2.2,ae a.2.1.1 a.2.2.length a.2.1.2] 31)/\p=u.heap.size)/\am u d/\d.heap[p]?=some (.cells #[ab a.1.1,ab a.1.2.1,af a.1.2.2,ae a.2.1.1 a.2.2.length a.2.1.2] 31)/\d.heap.size=u.heap.size+1):=⟨_,_,⟨rfl,rfl⟩,aS _ _,aD _ _,by simp⟩;clear B aC;go_wp2_with fail;obtain⟨d,p,⟨a4,aa⟩,r⟩:=aG.out;rw[<-a4,<-aa];have bc:Hid (p=u.heap.size):=aa;replace r:=ap r;clear a4 aa aG;have M:=ap (D.trans (r.1.mono D.size));obtain⟨l,aV⟩:∃l:Obj,l=.cells #[ab y,ab a.1.1,ab a.1.2.1,af a.1.2.2,ae a.2.1.1 a.2.2.length a.2.1.2] 177:=⟨_,rfl⟩;have U:Hid (∀W:ag,am d W->ai W f 3 (ae h L j)/\ai W p 0 (ab a.1.1)/\ai W p 1 (ab a.1.2.1)/\ai W p 2 (af a.1.2.2)/\ai W p 3 (ae a.2.1.1 a.2.2.length a.2.1.2)):=λW c=>by
    have Q:=(c.block p (aI.1 r.2.1).1).trans r.2.1;have Z:=M.trans (c.mono M.size);exact⟨(Z.cell (p:=⟨f,3,none⟩) aQ).trans aw.1,ah Q 0,ah Q 1,ah Q 2,ah Q 3⟩
   have E:Hid (am d (d.alloc l).drew):=(aS _ l).drew;have s:=U d.drew (aA _ _).drew;have X:=ap (U _ E);have K:=ap (M.trans (E.mono M.size));have ay:Hid ((d.alloc l).drew.ownsRow base 177 5 (ae h L j) L xs):=bB aB (aR K λ_=>False) λ_ _ c=>c;have ax:Hid ((d.alloc l).drew.heap[d.heap.size]?=some l):=aD d l;have F:Hid ((d.alloc l).drew.heap.size=d.heap.size+1):=(show _=_ by simp[World.drew]);have P:Hid (d.heap.size=u.heap.size+1/\w.heap.size<=u.heap.size):=⟨r.2.2,D.size⟩;have aL:Hid (In (d.alloc l).drew.heap.size (d.alloc l).drew (N+1) a):=(aK.below (r.1.trans (E.mono r.1.size))).mono (by have:=r.1.size;have:=E.size;omega);rw[aV]at E X K ay ax F aL;clear aV l;obtain⟨br,bu,bv,bw,bx⟩:=U d (aA _ _);refine wp_region_noPanic ?_;refine jZ (λW=>ai W f 3 (ae h L j)/\ai W p 0 (ab a.1.1)/\ai W p 1 (ab a.1.2.1)/\ai W p 2 (af a.1.2.2)/\ai W p 3 (ae a.2.1.1 a.2.2.length a.2.1.2)) 12 (by kernel_rfl) ?_
   try simp only[ew]
   refine bi (i:=0) (v:= ?_) rfl (by kernel_rfl) (by kernel_rfl) (by kernel_rfl) (by kernel_rfl) (λ_ _ _ c=>c) rfl ?_ s ?_;rotate_left
   ·intro w' g
    try dsimp only at g
    go_simp
    try with_reducible rfl
   try simp only[Act.put,co]
   refine bi (i:=1) (v:= ?_) rfl (by kernel_rfl) (by kernel_rfl) (by kernel_rfl) (by kernel_rfl) (λ_ _ _ c=>c) rfl ?_ s ?_;rotate_left
   ·intro w' g
    try dsimp only at g
    go_simp
    try with_reducible rfl
   try simp only[Act.put]
   refine bi (i:=2) (v:= ?_) rfl (by kernel_rfl) (by kernel_rfl) (by kernel_rfl) (by kernel_rfl) (λ_ _ _ c=>c) rfl ?_ s ?_;rotate_left
   ·intro w' g
    try dsimp only at g
    go_simp
    try with_reducible rfl
   try simp only[Act.put]
   refine bi (i:=3) (v:= ?_) rfl (by kernel_rfl) (by kernel_rfl) (by kernel_rfl) (by kernel_rfl) (λ_ _ _ c=>c) rfl ?_ s ?_;rotate_left
   ·intro w' g
    try dsimp only at g
    go_simp
    try with_reducible rfl
   try simp only[Act.put]
   refine bi (i:=4) (v:= ?_) rfl (by kernel_rfl) (by kernel_rfl) (by kernel_rfl) (by kernel_rfl) (λ_ _ _ c=>c) rfl ?_ s ?_;rotate_left
   ·intro w' g
    try dsimp only at g
    go_simp
    try with_reducible rfl
   try simp only[Act.put]
   refine bi (i:=5) (v:= ?_) rfl (by kernel_rfl) (by kernel_rfl) (by kernel_rfl) (by kernel_rfl) (λ_ _ _ c=>c) rfl ?_ s ?_;rotate_left
   ·intro w' g
    try dsimp only at g
    go_simp
    try with_reducible rfl
   try simp only[Act.put]
   refine bi (i:=6) (v:= ?_) rfl (by kernel_rfl) (by kernel_rfl) (by kernel_rfl) (by kernel_rfl) (λ_ _ _ c=>c) rfl ?_ s ?_;rotate_left
   ·intro w' g
    try dsimp only at g
    go_simp
    try with_reducible rfl
   try simp only[Act.put]
   refine bi (i:=7) (v:= ?_) rfl (by kernel_rfl) (by kernel_rfl) (by kernel_rfl) (by kernel_rfl) (λ_ _ _ c=>c) rfl ?_ s ?_;rotate_left
   ·intro w' g
    try dsimp only at g
    go_simp
    try with_reducible rfl
   try simp only[Act.put]
   refine dr (i:=8) (by kernel_rfl) rfl rfl (λx m=>?_) (by decide)
   go_simp
   refine m _ _ (λ_=>X) (λbG=>?_);clear m x
   try simp only[Act.put,co,dE,dD]
   refine dr (i:=9) (by kernel_rfl) rfl rfl (λx m=>?_) (by decide);refine wp_append_lies _ _ _ 114 rfl base 177 I _ 5 64 underlying114 O.1 O.2.1 O.2.2.1 O.2.2.2 rfl (by decide) (ae h L j) L xs rfl ay ⟨d.heap.size,0,none⟩ 1 1 (Ov y a) rfl rfl (World.news_of_block (cs:= #[ab y,ab a.1.1,ab a.1.2.1,af a.1.2.2,ae a.2.1.1 a.2.2.length a.2.1.2]) (t:=177) (fr:=(0,0)) ax) (by simp[Ov,Value.oneCell']) (by decide) (by unfold maxLen;omega) (by omega) (by have:=F.out;have:=P.out;omega) _ rfl ?_;intro G bg q aX z Y bj;have a9:Hid (bE (λn=>(Value.slice h L j).ownBlock=some n) w q):=bE.trans (aR K _) (eM z) λ_ _ e=>e;have a6:Hid ((Value.slice h L j).ownBlock=some G\/w.heap.size<=G):=by
    rcases Y with e|e
    ·exact aj e
    ·exact ak (by have:=F.out;have:=P.out;omega)
   have bb:=ap aX;have V:Hid (∀b,(Value.slice h L j).ownBlock=some b->b<w.heap.size):=λb Z=>(aB.lt b Z).2;have aJ:Hid (In q.heap.size q (N+1) a/\cD (λn=>w.heap.size<=n/\n≠G) (N+1) a):=by
    have aW:cD (λn=>w.heap.size<=n/\n<u.heap.size) (N+1) a:=(In.offB be aK).mono λn H=>⟨aF bd H.1,H.2⟩;refine⟨aL.kee (eM z) (aW.mono λn H e=>?_),aW.mono λn H=>⟨H.1,λe=>?_⟩⟩
    ·have:=V n e;omega
    ·rcases Y with aM|aM
     ·have:=V G aM;omega
     ·have:=F.out;have:=P.out;omega
   have T:Hid ((ai q f 3 (ae h L j)/\ai q p 0 (ab a.1.1)/\ai q p 1 (ab a.1.2.1)/\ai q p 2 (af a.1.2.2)/\ai q p 3 (ae a.2.1.1 a.2.2.length a.2.1.2))/\q.frozen? ⟨f,3,none⟩=false):=by
    have bK:=F.out;have bL:=P.out;have bM:=bc.out;have bk:some p≠(Value.slice h L j).ownBlock:=λe=>by
     have:=V p e.symm;omega
    have aZ:some f≠(Value.slice h L j).ownBlock:=λe=>ba e.symm;have k:=λbl=>z.cell_far ⟨p,bl,none⟩ (by show p<_;omega) bk;obtain⟨bm,bn,bo,bp,bq⟩:=X;refine⟨⟨(z.cell_far ⟨f,3,none⟩ (by show f<_;omega) aZ).trans bm,(k 0).trans bn,(k 1).trans bo,(k 2).trans bp,(k 3).trans bq⟩,?_⟩;rw[z.frozen_far ⟨f,3,none⟩ (by show f<_;omega) aZ];have aT:=aw.2;unfold World.frozen? at aT ⊢;rw[K.out.block f aQ];exact aT
   clear aX z Y bj;refine m _ _ (λ_=>T.1) (λaN=>?_);clear m x
   try simp only[Act.put,co]
   refine dr (i:=10) (by kernel_rfl) rfl rfl (λx m=>?_) (by decide)
   go_simp
   refine m _ _ (λ_=>aN) (λ_=>?_);clear m x
   try simp only[Act.put,co,dE,dD]
   refine bi (i:=11) (v:= ?_) rfl (by kernel_rfl) (by kernel_rfl) (by kernel_rfl) (by kernel_rfl) (λ_ _ _ c=>c) rfl ?_ aN ?_;rotate_left
   ·intro w' g
    try dsimp only at g
    go_simp
    try with_reducible rfl
   try simp only[Act.put,co]
   have bt:=T.2;have bs:=T.1.1;refine jY (by kernel_rfl) rfl rfl (by kernel_rfl) (λx m=>?_)
   go_simp
   refine m _ _ (NoPanic.normal ?_);clear m x
   try simp only[Act.put,co,dE,dD]
   go_wp2_with fail
   go_ret
   exact⟨rfl,λc=>(by cases c),λ_=>⟨y,a,G,bg,q,a8.out,bf.out,aJ.out.1,aJ.out.2,bb.out,a9.out,a6.out,rfl⟩⟩
theorem Ho:(Tryz.prog.info? 174).map (λi=>(i.zero,i.size,i.bytes))=some (some (.agg #[ab 0,af ⟨#[]⟩,ab 0,ab 0,af ⟨#[]⟩,ae none 0 0]),6,80):=by kernel_rfl
theorem dP{w:ag}{b o:Nat}{v:au}(j:Nat)(a:j≠o):(w.setCell ⟨b,o,none⟩ v).cell? ⟨b,j,none⟩=w.cell? ⟨b,j,none⟩:=by
 unfold World.cell? World.setCell;simp only[bT];cases h:w.heap[b]? with
 | none=>simp
 | some c=>cases c<;>simp[Ne.symm a]
theorem ii{w:ag}{b o j:Nat}{v:au}:(w.setCell ⟨b,o,none⟩ v).frozen? ⟨b,j,none⟩=w.frozen? ⟨b,j,none⟩:=by
 unfold World.frozen? World.setCell;simp only[bT];cases h:w.heap[b]? with
 | none=>simp
 | some a=>cases a<;>simp
def Pw{N:Nat}(b:Int)(nm:aq)(a:Tm (N+1)):List au:=[ab b,af nm,ab a.1.1,ab a.1.2.1,af a.1.2.2,ae a.2.1.1 a.2.2.length a.2.1.2]
def P0(N base g:Nat)(h:ar)(L i:Nat)(xs:cX)(t:Bool)(next:Int)(nm:aq)(l m:Nat)(o:Option (Tm (N+1)))(w:ag)(e:Ending)(w':ag):Prop:=
 e=.returned (.bool (o.isSome && t))/\((o.isSome && t)=false->am w w')/\
  ((o.isSome && t)=true->∃(f:Tm (N+1))(a c:Nat)(b j k:ag),aB (N+1) f (N+1) (o.getD (xj N))=true/\In b.heap.size b (N+1) f/\cD (λd=>w.heap.size<=d/\d≠a) (N+1) f/\b.ownsRow base 174 6 (ae (some ⟨a,0,none⟩) (L+1) c) (L+1) (xs++Pw next nm f)/\bE (λd=>(Value.slice h L i).ownBlock=some d) w b/\((Value.slice h L i).ownBlock=some a\/w.heap.size<=a)/\j=b.setCell ⟨g,4,none⟩ (ae (some ⟨a,0,none⟩) (L+1) c)/\k=(df j l (m*4) (ab 3) (ab next) (af ⟨#[]⟩) (ae none 0 0)).drew/\w'=k.setCell ⟨g,2,none⟩ (ab (next+1)))
theorem EY(N:Nat)(k T U:Int)(V:aq)(xa:ar)(X xc:Nat)(y0 y1:Int)(y2:aq)(ya:ar)(yl yc:Nat)(nm:aq)(g:Nat)(base f:Nat)(r:ar)(L s:Nat)(xs:cX)(w:ag)(o:Option (Tm (N+1)))(d P:Nat)(next:Int)(H ad:Int)(ai:aq)(al:ar)(au an:Nat)(cQ:g<4)(cK:L<=10000)(aV:f<w.heap.size)(ba:d<w.heap.size)(bL:f≠d)(cL:base<=w.heap.size)(cO:0<=next)(cP:next<=100000)(cw:nm.size<=2048)(K:Hid (w.cell? ⟨f,4,none⟩=some (ae r L s)/\w.cell? ⟨f,0,none⟩=some (ae (some ⟨d,0,none⟩) 4 P)/\w.cell? ⟨f,2,none⟩=some (ab next)/\(∀j,w.frozen? ⟨f,j,none⟩=false)/\∀j,w.frozen? ⟨d,j,none⟩=false))(br:Hid (w.ownsRow base 174 6 (ae r L s) L xs))(a4:Hid ((Value.slice r L s).ownBlock≠some f/\(Value.slice r L s).ownBlock≠some d))(J:Hid (w.cell? ⟨d,g*4,none⟩=some (ab H)/\w.cell? ⟨d,g*4+1,none⟩=some (ab ad)/\w.cell? ⟨d,g*4+2,none⟩=some (af ai)/\w.cell? ⟨d,g*4+3,none⟩=some (ae al au an)))(a1:Hid (∀W,ao 197 #[.agg #[ab H,ab ad,af ai,ae al au an]] W λe w'=>e=.returned (.bool (!(H==6)))/\am W w'))(bs:Hid (∀W,am w W->ao 117 #[aH f,.agg #[ab y0,ab y1,af y2,ae ya yl yc]] W (xN N o W))):ao 187 #[aH f,.agg #[ab k,ab T,ab U,af V,ae xa X xc,ab y0,ab y1,af y2,ae ya yl yc,af nm,ab g]] w (P0 N base f r L s xs (H==6) next nm d g o w):=by
 obtain⟨aK,bO,bU,bV,bW⟩:=bY Ho;have aN:Hid (Tryz.prog.info? 174=some aK/\aK.zero=some (.agg #[ab 0,af ⟨#[]⟩,ab 0,ab 0,af ⟨#[]⟩,ae none 0 0])/\aK.size=6/\aK.bytes=80):=⟨bO,bU,bV,bW⟩;clear bO bU bV bW;obtain⟨t,bT⟩:∃t,t=(H==6):=⟨_,rfl⟩;rw[<-bT]at a1 ⊢;clear bT;have bt:Hid (∃aL h,(aL=w.alloc (.cells #[ab k,ab T,ab U,af V,ae xa X xc,ab y0,ab y1,af y2,ae ya yl yc,af nm,ab g] 248)/\h=w.heap.size)/\am w aL/\aL.heap[h]?=some (.cells #[ab k,ab T,ab U,af V,ae xa X xc,ab y0,ab y1,af y2,ae ya yl yc,af nm,ab g] 248)):=⟨_,_,⟨rfl,rfl⟩,aS _ _,aD w _⟩;go_enter func187,ntmps187;go_wp2_with fail;obtain⟨aL,h,⟨bX,aX⟩,bG,bb⟩:=bt.out;rw[<-bX,<-aX];have aw:=ap bG;have bh:=ap bb;have aB:Hid (h<aL.heap.size/\w.heap.size<=h):=⟨(aI.1 bb).1,by omega⟩;clear bX aX bG bb bt;refine(bs _ aw).mono ?_;rintro e E ⟨a,rfl,O⟩;have ax:=ap (aw.trans (O.1.mono aw.size));have b6:Hid (E.heap[h]?=some (.cells #[ab k,ab T,ab U,af V,ae xa X xc,ab y0,ab y1,af y2,ae ya yl yc,af nm,ab g] 248)):=(O.1.block h aB.1).trans bh;have bq:Hid (h<E.heap.size):=aW aB.1 O.1.size;have bz:=ap O.2.1;have cc:=ap O.2.2.1;have cd:=ap O.2.2.2;have cb:=ap aw.size;clear O bs aw bh;have bu:Hid (∃z p,(z=E.alloc (.cells #[ab a.1.1,ab a.1.2.1,af a.1.2.2,ae a.2.1.1 a.2.2.length a.2.1.2] 31)/\p=E.heap.size)/\am E z/\z.heap[p]?=some (.cells #[ab a.1.1,ab a.1.2.1,af a.1.2.2,ae a.2.1.1 a.2.2.length a.2.1.2] 31)/\z.heap.size=E.heap.size+1):=⟨_,_,⟨rfl,rfl⟩,aS _ _,aD _ _,by simp⟩;cases o with
 | none=>
  simp only[nE];go_wp2_with fail;go_region
  all_goals
   go_wp2_with fail
   go_ret
   exact⟨rfl,λ_=>(ax.alloc ax.size _).drew,λc=>(by cases c)⟩
 | some cV=>
  simp only[nF];go_wp2_with fail;obtain⟨z,p,⟨bZ,M⟩,D⟩:=bu.out;rw[<-bZ,<-M];have b7:Hid (p=E.heap.size):=M;replace D:=ap D;clear bZ M bu;have I:=ap (ax.trans (D.1.mono ax.size));have a2:Hid (∀W:ag,am z W->W.heap[h]?=some (.cells #[ab k,ab T,ab U,af V,ae xa X xc,ab y0,ab y1,af y2,ae ya yl yc,af nm,ab g] 248)/\W.heap[p]?=some (.cells #[ab a.1.1,ab a.1.2.1,af a.1.2.2,ae a.2.1.1 a.2.2.length a.2.1.2] 31)):=λW c=>⟨(c.block h (by have:=bq.out;have:=D.2.2;omega)).trans ((D.1.block h bq).trans b6),(c.block p (aI.1 D.2.1).1).trans D.2.1⟩;have az:Hid (∀W:ag,am z W->(W.cell? ⟨f,0,none⟩=some (ae (some ⟨d,0,none⟩) 4 P)/\W.cell? ⟨h,10,none⟩=some (ab g))/\W.cell? ⟨d,g*4,none⟩=some (ab H)/\W.cell? ⟨d,g*4+1,none⟩=some (ab ad)/\W.cell? ⟨d,g*4+2,none⟩=some (af ai)/\W.cell? ⟨d,g*4+3,none⟩=some (ae al au an)):=λW c=>by
   have R:=I.trans (c.mono I.size);have aU:=λj=>R.cell (p:=⟨d,j,none⟩) ba;exact⟨⟨(R.cell (p:=⟨f,0,none⟩) aV).trans K.2.1,ah (a2 W c).1 10⟩,(aU _).trans J.1,(aU _).trans J.2.1,(aU _).trans J.2.2.1,(aU _).trans J.2.2.2⟩
  obtain⟨⟨cl,cm⟩,cn,cp,cq,cr⟩:=az.out z (aA _ _);have Z:Hid (am z z.drew):=(aA _ _).drew;have cT:(0:Int)<=(g:Int):=by omega
  have cU:(g:Int)<4:=by omega
  have bn:=ap (a1 z.drew);clear a1;cases t
  ·go_region_held3 (λW=>(W.cell? ⟨f,0,none⟩=some (ae (some ⟨d,0,none⟩) 4 P)/\W.cell? ⟨h,10,none⟩=some (ab g))/\W.cell? ⟨d,g*4,none⟩=some (ab H)/\W.cell? ⟨d,g*4+1,none⟩=some (ab ad)/\W.cell? ⟨d,g*4+2,none⟩=some (af ai)/\W.cell? ⟨d,g*4+3,none⟩=some (ae al au an)) (first|(go_keep;done)|exact az _ Z|exact az _ A) ((first
     | (go_at_call 197;refine bn.mono ?_;rintro e S ⟨rfl,aE⟩;have A:=ap (Z.trans (aE.mono Z.size));clear aE)))
   go_wp2_with fail
   go_ret
   exact⟨rfl,λ_=>I.trans (A.mono I.size),λc=>(by cases c)⟩
  ·go_region_held3 (λW=>(W.cell? ⟨f,0,none⟩=some (ae (some ⟨d,0,none⟩) 4 P)/\W.cell? ⟨h,10,none⟩=some (ab g))/\W.cell? ⟨d,g*4,none⟩=some (ab H)/\W.cell? ⟨d,g*4+1,none⟩=some (ab ad)/\W.cell? ⟨d,g*4+2,none⟩=some (af ai)/\W.cell? ⟨d,g*4+3,none⟩=some (ae al au an)) (first|(go_keep;done)|exact az _ Z|exact az _ A) ((first
     | (go_at_call 197;refine bn.mono ?_;rintro e S ⟨rfl,aE⟩;have A:=ap (Z.trans (aE.mono Z.size));clear aE)))
   clear cl cm cn cp cq cr;go_wp2_with fail;have bf:=ap (I.trans (A.mono I.size));have aO:Hid (∀W:ag,am S W->W.cell? ⟨f,4,none⟩=some (ae r L s)/\W.cell? ⟨f,2,none⟩=some (ab next)/\W.cell? ⟨h,9,none⟩=some (af nm)/\W.cell? ⟨p,0,none⟩=some (ab a.1.1)/\W.cell? ⟨p,1,none⟩=some (ab a.1.2.1)/\W.cell? ⟨p,2,none⟩=some (af a.1.2.2)/\W.cell? ⟨p,3,none⟩=some (ae a.2.1.1 a.2.2.length a.2.1.2)):=λW c=>by
    have bF:=A.trans (c.mono A.size);have R:=I.trans (bF.mono I.size);obtain⟨aX,M⟩:=a2.out W bF;exact⟨(R.cell (p:=⟨f,4,none⟩) aV).trans K.1,(R.cell (p:=⟨f,2,none⟩) aV).trans K.2.2.1,ah aX 9,ah M 0,ah M 1,ah M 2,ah M 3⟩
   have x:=aO S.drew (aA _ _).drew;have bl:Hid (am S S.drew):=(aA _ _).drew;obtain⟨ce,d3,b2,ch,ci,cj,ck⟩:=aO.out S (aA _ _);have b8:=ap (ey nm S.drew cw);refine wp_region_noPanic ?_;refine jZ (λW=>W.cell? ⟨f,4,none⟩=some (ae r L s)/\W.cell? ⟨f,2,none⟩=some (ab next)/\W.cell? ⟨h,9,none⟩=some (af nm)/\W.cell? ⟨p,0,none⟩=some (ab a.1.1)/\W.cell? ⟨p,1,none⟩=some (ab a.1.2.1)/\W.cell? ⟨p,2,none⟩=some (af a.1.2.2)/\W.cell? ⟨p,3,none⟩=some (ae a.2.1.1 a.2.2.length a.2.1.2)) 18 (by kernel_rfl) ?_
   try simp only[ew]
   refine bi (i:=0) (v:= ?_) rfl (by kernel_rfl) (by kernel_rfl) (by kernel_rfl) (by kernel_rfl) (λ_ _ _ c=>c) rfl ?_ x ?_;rotate_left
   ·intro w' l
    try dsimp only at l
    go_simp
    try with_reducible rfl
   try simp only[Act.put,co]
   refine bi (i:=1) (v:= ?_) rfl (by kernel_rfl) (by kernel_rfl) (by kernel_rfl) (by kernel_rfl) (λ_ _ _ c=>c) rfl ?_ x ?_;rotate_left
   ·intro w' l
    try dsimp only at l
    go_simp
    try with_reducible rfl
   try simp only[Act.put]
   refine bi (i:=2) (v:= ?_) rfl (by kernel_rfl) (by kernel_rfl) (by kernel_rfl) (by kernel_rfl) (λ_ _ _ c=>c) rfl ?_ x ?_;rotate_left
   ·intro w' l
    try dsimp only at l
    go_simp
    try with_reducible rfl
   try simp only[Act.put]
   refine bi (i:=3) (v:= ?_) rfl (by kernel_rfl) (by kernel_rfl) (by kernel_rfl) (by kernel_rfl) (λ_ _ _ c=>c) rfl ?_ x ?_;rotate_left
   ·intro w' l
    try dsimp only at l
    go_simp
    try with_reducible rfl
   try simp only[Act.put]
   refine bi (i:=4) (v:= ?_) rfl (by kernel_rfl) (by kernel_rfl) (by kernel_rfl) (by kernel_rfl) (λ_ _ _ c=>c) rfl ?_ x ?_;rotate_left
   ·intro w' l
    try dsimp only at l
    go_simp
    try with_reducible rfl
   try simp only[Act.put]
   refine bi (i:=5) (v:= ?_) rfl (by kernel_rfl) (by kernel_rfl) (by kernel_rfl) (by kernel_rfl) (λ_ _ _ c=>c) rfl ?_ x ?_;rotate_left
   ·intro w' l
    try dsimp only at l
    go_simp
    try with_reducible rfl
   try simp only[Act.put]
   refine bi (i:=6) (v:= ?_) rfl (by kernel_rfl) (by kernel_rfl) (by kernel_rfl) (by kernel_rfl) (λ_ _ _ c=>c) rfl ?_ x ?_;rotate_left
   ·intro w' l
    try dsimp only at l
    go_simp
    try with_reducible rfl
   try simp only[Act.put]
   refine bi (i:=7) (v:= ?_) rfl (by kernel_rfl) (by kernel_rfl) (by kernel_rfl) (by kernel_rfl) (λ_ _ _ c=>c) rfl ?_ x ?_;rotate_left
   ·intro w' l
    try dsimp only at l
    go_simp
    try with_reducible rfl
   try simp only[Act.put]
   refine bi (i:=8) (v:= ?_) rfl (by kernel_rfl) (by kernel_rfl) (by kernel_rfl) (by kernel_rfl) (λ_ _ _ c=>c) rfl ?_ x ?_;rotate_left
   ·intro w' l
    try dsimp only at l
    go_simp
    try with_reducible rfl
   try simp only[Act.put]
   refine bi (i:=9) (v:= ?_) rfl (by kernel_rfl) (by kernel_rfl) (by kernel_rfl) (by kernel_rfl) (λ_ _ _ c=>c) rfl ?_ x ?_;rotate_left
   ·intro w' l
    try dsimp only at l
    go_simp
    try with_reducible rfl
   try simp only[Act.put]
   refine bi (i:=10) (v:= ?_) rfl (by kernel_rfl) (by kernel_rfl) (by kernel_rfl) (by kernel_rfl) (λ_ _ _ c=>c) rfl ?_ x ?_;rotate_left
   ·intro w' l
    try dsimp only at l
    go_simp
    try with_reducible rfl
   try simp only[Act.put]
   refine bi (i:=12) (v:= ?_) rfl (by kernel_rfl) (by kernel_rfl) (by kernel_rfl) (by kernel_rfl) (λ_ _ _ c=>c) rfl ?_ x ?_;rotate_left
   ·intro w' l
    try dsimp only at l
    go_simp
    try with_reducible rfl
   try simp only[Act.put]
   refine dr (i:=11) (by kernel_rfl) rfl rfl (λG q=>?_) (by decide)
   go_simp
   refine b8.mono ?_;rintro e u ⟨rfl,bH⟩;have F:=ap (bl.trans (bH.mono bl.size));have a8:=aO u F;refine q _ _ (λ_=>a8) (λ_=>?_);clear q G bH
   try simp only[Act.put,co,dE,dD]
   have bg:=ap (bf.trans (F.mono bf.size));obtain⟨y,bP⟩:∃y:Obj,y=.cells #[ab next,af nm,ab a.1.1,ab a.1.2.1,af a.1.2.2,ae a.2.1.1 a.2.2.length a.2.1.2] 174:=⟨_,rfl⟩;have ay:Hid (am u (u.alloc y)):=aS _ y;have a5:=ap (aO _ (F.trans (ay.mono F.size)));have aZ:=ap (bg.trans (ay.mono bg.size));have bp:Hid ((u.alloc y).ownsRow base 174 6 (ae r L s) L xs):=bB br (aR aZ λ_=>False) λ_ _ c=>c;have bo:Hid ((u.alloc y).heap[u.heap.size]?=some y):=aD u y;have aa:Hid ((u.alloc y).heap.size=u.heap.size+1):=(show _=_ by simp);have aC:Hid (z.heap.size=E.heap.size+1/\w.heap.size<=E.heap.size/\z.heap.size<=u.heap.size):=⟨D.2.2,ax.size,aF A.size F.size⟩;have bA:Hid (In (u.alloc y).heap.size (u.alloc y) (N+1) a):=(bz.below (D.1.trans ((A.trans ((F.trans (ay.mono F.size)).mono A.size)).mono D.1.size))).mono (by have:=aa.out;have:=aC.out;omega);have a3:Hid ((u.alloc y).heap[h]?=some (.cells #[ab k,ab T,ab U,af V,ae xa X xc,ab y0,ab y1,af y2,ae ya yl yc,af nm,ab g] 248)):=(a2 _ (A.trans ((F.trans (ay.mono F.size)).mono A.size))).1;rw[bP]at ay a5 aZ bp bo aa bA a3;clear bP y;refine bi (i:=13) (v:= ?_) rfl (by kernel_rfl) (by kernel_rfl) (by kernel_rfl) (by kernel_rfl) (λ_ _ _ c=>c) rfl ?_ a8 ?_;rotate_left
   ·intro w' l
    try dsimp only at l
    go_simp
    try with_reducible rfl
   try simp only[Act.put]
   refine dr (i:=14) (by kernel_rfl) rfl rfl (λG q=>?_) (by decide)
   go_simp
   refine q _ _ (λ_=>a5) (λct=>?_);clear q G
   try simp only[Act.put,co,dE,dD]
   refine dr (i:=15) (by kernel_rfl) rfl rfl (λG q=>?_) (by decide);refine wp_append_lies _ _ _ 115 rfl base 174 aK _ 6 80 underlying115 aN.1 aN.2.1 aN.2.2.1 aN.2.2.2 rfl (by decide) (ae r L s) L xs rfl bp ⟨u.heap.size,0,none⟩ 1 1 (Pw next nm a) rfl rfl (World.news_of_block (cs:= #[ab next,af nm,ab a.1.1,ab a.1.2.1,af a.1.2.2,ae a.2.1.1 a.2.2.length a.2.1.2]) (t:=174) (fr:=(0,0)) bo) (by simp[Pw,Value.oneCell']) (by decide) (by unfold maxLen;omega) (by omega) (by have:=aa.out;have:=aC.out;omega) _ rfl ?_;intro Q a6 m bR av a9 cv;have aP:Hid (bE (λC=>(Value.slice r L s).ownBlock=some C) w m):=bE.trans (aR aZ _) (eM av) λ_ _ e=>e;have b3:Hid ((Value.slice r L s).ownBlock=some Q\/w.heap.size<=Q):=by
    rcases a9 with e|e
    ·exact aj e
    ·exact ak (by have:=aa.out;have:=aC.out;omega)
   have b5:=ap bR;have aQ:Hid (∀b,(Value.slice r L s).ownBlock=some b->b<w.heap.size):=λb R=>(br.lt b R).2;have bx:Hid (In m.heap.size m (N+1) a/\cD (λC=>w.heap.size<=C/\C≠Q) (N+1) a):=by
    have bQ:cD (λC=>w.heap.size<=C/\C<E.heap.size) (N+1) a:=(In.offB cc bz).mono λC aJ=>⟨aF cb aJ.1,aJ.2⟩;refine⟨bA.kee (eM av) (bQ.mono λC aJ e=>?_),bQ.mono λC aJ=>⟨aJ.1,λe=>?_⟩⟩
    ·have:=aQ C e;omega
    ·rcases a9 with bC|bC
     ·have:=aQ Q bC;omega
     ·have:=aa.out;have:=aC.out;omega
   have Y:Hid (m.heap[f]?=w.heap[f]? /\m.heap[d]?=w.heap[d]? /\m.heap[h]?=some (.cells #[ab k,ab T,ab U,af V,ae xa X xc,ab y0,ab y1,af y2,ae ya yl yc,af nm,ab g] 248)):=by
    refine⟨aP.block f aV a4.1,aP.block d ba a4.2,(av.block h (aI.1 a3).1 λe=>?_).trans a3⟩;have:=aQ h e.symm;have:=aB.2;omega
   have bj:Hid (m.cell? ⟨f,4,none⟩=some (ae r L s)/\m.cell? ⟨f,2,none⟩=some (ab next)/\m.cell? ⟨h,9,none⟩=some (af nm)/\m.cell? ⟨p,0,none⟩=some (ab a.1.1)/\m.cell? ⟨p,1,none⟩=some (ab a.1.2.1)/\m.cell? ⟨p,2,none⟩=some (af a.1.2.2)/\m.cell? ⟨p,3,none⟩=some (ae a.2.1.1 a.2.2.length a.2.1.2)):=by
    have cW:=aa.out;have cY:=aC.out;have cZ:=b7.out;have cx:some p≠(Value.slice r L s).ownBlock:=λe=>by
     have:=aQ p e.symm;omega
    have k:=λj=>av.cell_far ⟨p,j,none⟩ (by show p<_;omega) cx;obtain⟨cE,cF,cS,cG,cH,cI,cJ⟩:=a5;have bK:=λj=>av.cell_far ⟨f,j,none⟩ (by show f<_;omega) λe=>a4.1 e.symm;exact⟨(bK 4).trans cE,(bK 2).trans cF,ah Y.2.2 9,(k 0).trans cG,(k 1).trans cH,(k 2).trans cI,(k 3).trans cJ⟩
   clear bR av a9 cv;refine q _ _ (λ_=>bj) (λa7=>?_);clear q G
   try simp only[Act.put,co]
   refine dr (i:=16) (by kernel_rfl) rfl rfl (λG q=>?_) (by decide)
   go_simp
   refine q _ _ (λ_=>a7) (λ_=>?_);clear q G
   try simp only[Act.put,co,dE,dD]
   refine bi (i:=17) (v:= ?_) rfl (by kernel_rfl) (by kernel_rfl) (by kernel_rfl) (by kernel_rfl) (λ_ _ _ c=>c) rfl ?_ a7 ?_;rotate_left
   ·intro w' l
    try dsimp only at l
    go_simp
    try with_reducible rfl
   try simp only[Act.put,co]
   have cg:m.frozen? ⟨f,4,none⟩=false:=by
    have B:=K.2.2.2.1 4;unfold World.frozen? at B ⊢;rw[Y.out.1];exact B
   have cf:=bj.1;refine jY (by kernel_rfl) rfl rfl (by kernel_rfl) (λG q=>?_)
   go_simp
   refine q _ _ (NoPanic.normal ?_);clear q G
   try simp only[Act.put,co,dE,dD]
   have bS:h≠f:=by have:=aB.2;omega
   have cy:h≠d:=by have:=aB.2;omega
   have cM:f≠h:=λe=>bS e.symm;have cN:d≠h:=λe=>cy e.symm;have bM:d≠f:=λe=>bL e.symm;have bk:Hid (∀j,m.cell? ⟨d,j,none⟩=w.cell? ⟨d,j,none⟩/\m.frozen? ⟨d,j,none⟩=false):=λj=>by
    have B:=K.2.2.2.2 j;unfold World.frozen? at B ⊢;unfold World.cell?;rw[Y.out.2.1];exact⟨rfl,B⟩
   have a0:Hid (∀j,m.cell? ⟨f,j,none⟩=w.cell? ⟨f,j,none⟩/\m.frozen? ⟨f,j,none⟩=false):=λj=>by
    have B:=K.2.2.2.1 j;unfold World.frozen? at B ⊢;unfold World.cell?;rw[Y.out.1];exact⟨rfl,B⟩
   have bv:Hid (∃n,n=m.setCell ⟨f,4,none⟩ (ae (some ⟨Q,0,none⟩) (L+1) a6)/\(n.cell? ⟨f,0,none⟩=some (ae (some ⟨d,0,none⟩) 4 P)/\n.cell? ⟨h,10,none⟩=some (ab g)/\n.cell? ⟨f,2,none⟩=some (ab next))/\(n.cell? ⟨d,g*4,none⟩=some (ab H)/\n.cell? ⟨d,g*4+1,none⟩=some (ab ad)/\n.cell? ⟨d,g*4+2,none⟩=some (af ai)/\n.cell? ⟨d,g*4+3,none⟩=some (ae al au an))/\(∀j,n.frozen? ⟨d,j,none⟩=false)/\n.frozen? ⟨f,2,none⟩=false):=by
    have bc:=bN m f 4 (ae (some ⟨Q,0,none⟩) (L+1) a6);have bI:d<m.heap.size:=aW ba aP.size;have cu:=bc.block d bI bM;have aT:=λj=>((bc.cell j bI bM).trans (bk j).1);refine⟨_,rfl,⟨(dP 0 (by decide)).trans ((a0 0).1.trans K.2.1),(bc.cell 10 (aI.1 Y.2.2).1 bS).trans (ah Y.2.2 10),(dP 2 (by decide)).trans ((a0 2).1.trans K.2.2.1)⟩,⟨(aT _).trans J.1,(aT _).trans J.2.1,(aT _).trans J.2.2.1,(aT _).trans J.2.2.2⟩,λj=>?_,?_⟩
    ·have B:=(bk j).2;unfold World.frozen? at B ⊢;rw[cu];exact B
    ·rw[ii];exact(a0 2).2
   go_wp2_with fail;obtain⟨n,bd,⟨b0,b1,be⟩,⟨cz,cA,cB,cC⟩,aG,bD⟩:=bv.out;rw[<-bd];have b9:=ap bd;have f0:=aG (g*4);have f1:=aG (g*4+1);have f2:=aG (g*4+2);have f3:=aG (g*4+3);clear bd bv aG x a8 ct a7 ce d3 b2 ch ci cj ck cg cf;have b4:Hid (n.drew.cell? ⟨f,0,none⟩=some (ae (some ⟨d,0,none⟩) 4 P)/\n.drew.cell? ⟨h,10,none⟩=some (ab g)/\n.drew.cell? ⟨f,2,none⟩=some (ab next)):=⟨b0,b1,be⟩;go_region_held3 (λW=>W.cell? ⟨f,0,none⟩=some (ae (some ⟨d,0,none⟩) 4 P)/\W.cell? ⟨h,10,none⟩=some (ab g)/\W.cell? ⟨f,2,none⟩=some (ab next)) (first|exact b4|(go_keep;done)) (fail);have bw:Hid (∃aM,aM=(df n d (g*4) (ab 3) (ab next) (af ⟨#[]⟩) (ae none 0 0)).drew/\aM.cell? ⟨f,2,none⟩=some (ab next)/\aM.frozen? ⟨f,2,none⟩=false):=by
    have bJ:(df n d (g*4) (ab 3) (ab next) (af ⟨#[]⟩) (ae none 0 0)).drew.heap[f]?=n.heap[f]? :=bm (w:=n) (o:=g*4) bL (ab 3) (ab next) (af ⟨#[]⟩) (ae none 0 0);refine⟨_,rfl,?_,?_⟩
    ·have c:=be;unfold World.cell? at c ⊢;rw[bJ];exact c
    ·have c:=bD;unfold World.frozen? at c ⊢;rw[bJ];exact c
   obtain⟨aM,aY,cR,b2⟩:=bw.out;have ca:=ap aY;unfold df at aY;rw[<-aY];clear aY bw b0 b1 be cz cA cB cC f0 f1 f2 f3 bD;go_wp2_with fail
   go_ret
   exact⟨rfl,λc=>(by cases c),λ_=>⟨a,Q,a6,m,n,aM,cd.out,bx.out.1,bx.out.2,b5.out,aP.out,b3.out,b9.out,ca.out,rfl⟩⟩
theorem Ld(k h i:Int)(j:aq)(xa:ar)(l xc:Nat)(y0 y1:Int)(y2:aq)(ya:ar)(yl yc:Nat)(nm:aq)(g:Int)(c:Nat)(w:ag)(R:Bool->bt)(D:c<w.heap.size)(B:Hid (∃A,ai w c 6 (.bool A)/\w.frozen? ⟨c,6,none⟩=false))(m:Hid (k=1->∀W,am w W->ao 186 #[aH c,.agg #[ab k,ab h,ab i,af j,ae xa l xc,ab y0,ab y1,af y2,ae ya yl yc,af nm,ab g]] W λe w'=>∃t,e=.returned (.bool t)/\Hid (R t w')))(n:Hid (k=2->∀W,am w W->ao 187 #[aH c,.agg #[ab k,ab h,ab i,af j,ae xa l xc,ab y0,ab y1,af y2,ae ya yl yc,af nm,ab g]] W λe w'=>∃t,e=.returned (.bool t)/\Hid (R t w')))(o:Hid (k=3->∀W,am w W->ao 188 #[aH c,.agg #[ab k,ab h,ab i,af j,ae xa l xc,ab y0,ab y1,af y2,ae ya yl yc,af nm,ab g]] W λe w'=>∃t,e=.returned (.bool t)/\Hid (R t w')))(q:Hid (k≠1->k≠2->k≠3->∀W,am w W->R true (W.setCell ⟨c,6,none⟩ (.bool true)))):ao 154 #[aH c,.agg #[ab k,ab h,ab i,af j,ae xa l xc,ab y0,ab y1,af y2,ae ya yl yc,af nm,ab g]] w λe w'=>∃t,e=.returned (.bool t)/\Hid (R t w'):=by
 have C:Hid (∃a b,(a=w.alloc (.cells #[ab k,ab h,ab i,af j,ae xa l xc,ab y0,ab y1,af y2,ae ya yl yc,af nm,ab g] 248)/\b=w.heap.size)/\am w a/\(ai a b 0 (ab k)/\ai a b 1 (ab h)/\ai a b 2 (ab i)/\ai a b 3 (af j)/\ai a b 4 (ae xa l xc)/\ai a b 5 (ab y0)/\ai a b 6 (ab y1)/\ai a b 7 (af y2)/\ai a b 8 (ae ya yl yc)/\ai a b 9 (af nm)/\ai a b 10 (ab g))):=by
  have d:=aD w (.cells #[ab k,ab h,ab i,af j,ae xa l xc,ab y0,ab y1,af y2,ae ya yl yc,af nm,ab g] 248);exact⟨_,_,⟨rfl,rfl⟩,aS _ _,ah d 0,ah d 1,ah d 2,ah d 3,ah d 4,ah d 5,ah d 6,ah d 7,ah d 8,ah d 9,ah d 10⟩
 go_enter func154,ntmps154;obtain⟨A,F,z⟩:=B.out;go_upto_region 1 with fail;obtain⟨a,b,⟨G,E⟩,y,M,N,P,Q,S,T,U,V,X,Y,O⟩:=C.out;rw[<-G,<-E];have s:=ap y;have I:Hid (ai a c 6 (.bool A)/\a.frozen? ⟨c,6,none⟩=false):=by
  refine⟨(y.cell (p:=⟨c,6,none⟩) D).trans F,?_⟩;unfold World.frozen? at z ⊢;rw[y.block c D];exact z
 clear G E y C F z B;by_cases u:k=1
 ·have r:=ap (m u a s);clear m n o q;subst u;go_wp2_with fail;refine r.mono ?_;rintro e H ⟨t,rfl,f⟩;go_wp2_with fail
  go_ret
  exact⟨t,rfl,f⟩
 ·by_cases v:k=2
  ·have r:=ap (n v a s);clear m n o q;subst v;go_wp2_with fail;refine r.mono ?_;rintro e H ⟨t,rfl,f⟩;go_wp2_with fail
   go_ret
   exact⟨t,rfl,f⟩
  ·by_cases x:k=3
   ·have r:=ap (o x a s);clear m n o q;subst x;go_wp2_with fail;refine r.mono ?_;rintro e H ⟨t,rfl,f⟩;go_wp2_with fail
    go_ret
    exact⟨t,rfl,f⟩
   ·have f:=ap (q u v x a s);obtain⟨Z,aa⟩:=I;have J:¬(1:Int)=k:=λe=>u e.symm;have K:¬(2:Int)=k:=λe=>v e.symm;have L:¬(3:Int)=k:=λe=>x e.symm;clear m n o q;go_wp2_with fail
    go_ret
    exact⟨true,rfl,f⟩
def PM{n:Nat}(a:Ac (n+1)):au:=.agg #[ab a.1,ab a.2.1.1.1.1,ab a.2.1.1.1.2.1,af a.2.1.1.1.2.2,ae a.2.1.1.2.1.1 a.2.1.1.2.2.length a.2.1.1.2.1.2,ab a.2.1.2.1.1,ab a.2.1.2.1.2.1,af a.2.1.2.1.2.2,ae a.2.1.2.2.1.1 a.2.1.2.2.2.length a.2.1.2.2.1.2,af a.2.2.1,ab a.2.2.2]
theorem JQ{n:Nat}(l:List (Ac (n+1)))(s:ar)(L C r:Nat)(w:ag)(S:Nat->bt)(k:bt)(D:L<=1000000)(z:Hid (l.length=L))(x:Hid (∀(i:Nat)(a:Ac (n+1)) W,l[i]?=some a->S i W->∃b o,s=some ⟨b,o,none⟩/\∀(j:Nat)(u:au),(gH (n+1) a)[j]?=some u->ai W b (o+i*11+j) u))(HB:Hid (∀i W q,S i W->am W q->S i q))(A:Hid (∀(i:Nat)(a:Ac (n+1)) W,l[i]?=some a->S i W->ao 154 #[aH r,PM a] W λe w'=>∃t,e=.returned (.bool t)/\Hid ((t=true->S (i+1) w')/\(t=false->k w'))))(v:Hid (S 0 w)):ao 116 #[aH r,ae s L C] w λe w'=>∃t,e=.returned (.bool t)/\Hid ((t=true->S L w')/\(t=false->k w')):=by
 go_enter func116,ntmps116;go_wp2_with fail;go_loopw [9] (λi wr=>∃j:Nat,j<=L/\i=ab j/\Hid (S j wr)) (λi _=>L-(intOf i).toNat)
 case atStart=>exact⟨0,aM _,rfl,v⟩
 case round=>
  obtain⟨j,E,rfl,g⟩:=hrel;by_cases B:j<L
  ·obtain⟨a,h⟩:∃a,l[j]?=some a:=⟨l[j]'(by rw[z.out];exact B),aN _⟩;obtain⟨b,o,rfl,c⟩:=x j a wr h g;have I:ai wr b (o+j*11) (ab a.1):=c 0 _ rfl;have J:=c 1 _ rfl;have M:=c 2 _ rfl;have N:=c 3 _ rfl;have O:=c 4 _ rfl;have P:=c 5 _ rfl;have Q:=c 6 _ rfl;have R:=c 7 _ rfl;have T:=c 8 _ rfl;have U:=c 9 _ rfl;have K:=c 10 _ rfl;have F:(0:Int)<=(j:Int):=by omega
   have G:(j:Int)<(L:Int):=by omega
   have m:=ap λW (d:am wr W)=>A j a W h (HB _ _ _ g d);unfold PM at m;have y:Hid (∀o:Obj,am wr (wr.alloc o)):=λo=>aS _ o;clear c h;go_wp2_with fail;refine(m _ (y _)).mono ?_;rintro e H ⟨t,rfl,p⟩;cases t
   ·have f:=ap (p.2 rfl);go_wp2_with fail
    go_ret
    exact⟨false,rfl,λd=>(by cases d),λ_=>f.out⟩
   ·have f:=ap (p.1 rfl);go_wp2_with fail;go_roundw
    case rel=>exact⟨j+1,by omega,by go_num,f⟩
    case measure=>simp[intOf];omega
  ·obtain rfl:j=L:=by omega
   go_wp2_with fail
   go_ret
   exact⟨true,rfl,λ_=>g,λd=>(by cases d)⟩
theorem BI(N:Nat)(s0 s1:Int)(Y:aq)(sa:ar)(sl sc:Nat)(P Q:Int)(R:aq)(ma:ar)(U T:Nat)(l:ar)(m ac:Nat)(o p:Int)(r:aq)(s:ar)(v u:Nat)(X n:Nat)(w:ag)(S:bt)(V:Bool->Tm (N+1)->bt)(c:Int->bt)(E:Hid (∀W,am w W->ao 116 #[aH n,ae l m ac] W λe w'=>∃t,e=.returned (.bool t)/\Hid ((∀q a,w.heap.size<=q->W.heap[q]?=some a->w'.heap[q]?=some a)/\(t=true->S w')/\(t=false->c 2 w'))))(G:Hid (∀W,S W->ao 117 #[aH n,.agg #[ab o,ab p,af r,ae s v u]] W λe w'=>∃(y:Tm (N+1))(t:Bool),e=.returned (.tuple #[.agg #[ab y.1.1,ab y.1.2.1,af y.1.2.2,ae y.2.1.1 y.2.2.length y.2.1.2],.bool t])/\Hid (V t y w')))(F:Hid (∀y d g,V false y d->am d g->c 2 g))(HB:Hid (∀y d g,V true y d->am d g->ao 118 #[aH X,.agg #[ab y.1.1,ab y.1.2.1,af y.1.2.2,ae y.2.1.1 y.2.2.length y.2.1.2]] g λe w'=>∃t,e=.returned (.bool t)/\Hid ((t=false->c 3 w')/\(t=true->∃i,ai w' n 6 (.bool i)/\(i=true->c 1 w')/\(i=false->c 0 w'))))):ao 79 #[aH X,.agg #[ab s0,ab s1,af Y,ae sa sl sc,ab P,ab Q,af R,ae ma U T,ae l m ac,ab o,ab p,af r,ae s v u],aH n] w λe w'=>∃f,e=.returned (ab f)/\c f w':=by
 have H:Hid (∃x q a,(x=w.alloc a/\q=w.heap.size/\a=.cells #[ab s0,ab s1,af Y,ae sa sl sc,ab P,ab Q,af R,ae ma U T,ae l m ac,ab o,ab p,af r,ae s v u] 162)/\am w x/\x.heap[q]?=some a/\w.heap.size<=q/\∀W:ag,W.heap[q]?=some a->ai W q 8 (ae l m ac)/\ai W q 9 (ab o)/\ai W q 10 (ab p)/\ai W q 11 (af r)/\ai W q 12 (ae s v u)):=
  ⟨_,_,_,⟨rfl,rfl,rfl⟩,aS _ _,aD _ _,av _,λW h=>⟨ah h 8,ah h 9,ah h 10,ah h 11,ah h 12⟩⟩
 go_enter func79,ntmps79;go_wp2_with fail;obtain⟨x,q,a,⟨D,L,K⟩,I,M,O,J⟩:=H.out;rw[K]at D;rw[<-D];have Z:=ap I;have ad:=ap J;have aj:=ap M;have ak:=ap O;rw[<-L];clear D L K I J M O H;refine(E _ Z).mono ?_;rintro e an ⟨t,rfl,j⟩;obtain⟨ay,az,au,aw,ax⟩:=ad an (j.1 q a ak aj);cases t
 ·have b:=ap (j.2.2 rfl);go_wp2_with fail
  go_ret
  exact⟨2,rfl,b⟩
 ·have al:=ap (j.2.1 rfl);clear j E;go_wp2_with fail;refine(G _ al).mono ?_;rintro e z ⟨y,t,rfl,A⟩;cases t
  ·have b:=ap λa=>F y z (z.alloc a) A (aS _ a);go_wp2_with fail
   go_ret
   exact⟨2,rfl,b _⟩
  ·have aa:=ap λa=>HB y z (z.alloc a) A (aS _ a);clear A G F HB;go_wp2_with fail;refine(aa _).mono ?_;rintro e aB ⟨t,rfl,k⟩;cases t
   ·have b:=ap (k.1 rfl);go_wp2_with fail
    go_ret
    exact⟨3,rfl,b⟩
   ·obtain⟨i,aA,C,B⟩:=k.out.2 rfl;cases i
    ·have b:=ap (B rfl);clear C B k;go_wp2_with fail
     go_ret
     exact⟨0,rfl,b⟩
    ·have b:=ap (C rfl);clear C B k;go_wp2_with fail
     go_ret
     exact⟨1,rfl,b⟩
structure cN where
 b:Nat
 o:Nat
 pre:List Value
 post:List Value
 t:TypeId
def cN.own(b:Nat):cN:=⟨b,0,[],[],107⟩
def HB(a:cN)(room:Int)(tv lv mv:Value)(w:World):Prop:=(a.pre.length=a.o/\(a.t=107\/a.t=111))/\w.heap[a.b]?=some (.cells (a.pre++ .int .i64 room::tv::lv::mv::a.post).toArray a.t)
theorem HB.lt{a:cN}{room:Int}{tv lv mv:Value}{w:World}(c:HB a room tv lv mv w):a.b<w.heap.size:=(aI.1 c.2).1
theorem HB.cells{a:cN}{room:Int}{tv lv mv:Value}{w:World}(c:HB a room tv lv mv w):(w.cell? ⟨a.b,a.o,none⟩=some (.int .i64 room)/\w.cell? ⟨a.b,a.o+1,none⟩=some tv/\w.cell? ⟨a.b,a.o+2,none⟩=some lv/\w.cell? ⟨a.b,a.o+3,none⟩=some mv)/\∀j,w.frozen? ⟨a.b,j,none⟩=false:=by
 obtain⟨⟨d,_⟩,e⟩:=c;refine⟨⟨?_,?_,?_,?_⟩,λj=>?_⟩
 all_goals simp[World.cell?,World.frozen?,e,<-d]
theorem HB.ty{a:cN}{room:Int}{tv lv mv:Value}{w:World}(c:HB a room tv lv mv w):a.t≠9/\a.t≠109:=by
 rcases c.1.2 with b|b<;>rw[b]<;>decide
theorem D6{l:List Value}{a:cN}{k:Nat}{room:Int}{tv lv mv v:Value}(b:a.pre.length=a.o)(c:l=(.int .i64 room::tv::lv::mv::a.post).set k v):(a.pre++ .int .i64 room::tv::lv::mv::a.post).set (a.o+k) v=a.pre++l:=by
 subst c;rw[<-b,List.set_append,if_neg (by omega),show a.pre.length+k-a.pre.length=k by omega]
theorem HB.set1{a:cN}{room:Int}{tv lv mv:Value}{w:World}(c:HB a room tv lv mv w)(v:Value):HB a room v lv mv (w.setCell ⟨a.b,a.o+1,none⟩ v):=by
 refine⟨c.1,?_⟩;have d:=D6 (k:=1) (room:=room) (tv:=tv) (lv:=lv) (mv:=mv) (v:=v) c.1.1 rfl;simp only[dD,dE]at d;simp[World.setCell,bT,c.2,d]
theorem HB.set2{a:cN}{room:Int}{tv lv mv:Value}{w:World}(c:HB a room tv lv mv w)(v:Value):HB a room tv v mv (w.setCell ⟨a.b,a.o+2,none⟩ v):=by
 refine⟨c.1,?_⟩;have d:=D6 (k:=2) (room:=room) (tv:=tv) (lv:=lv) (mv:=mv) (v:=v) c.1.1 rfl;simp only[dD,dE]at d;simp[World.setCell,bT,c.2,d]
theorem HB.set3{a:cN}{room:Int}{tv lv mv:Value}{w:World}(c:HB a room tv lv mv w)(v:Value):HB a room tv lv v (w.setCell ⟨a.b,a.o+3,none⟩ v):=by
 refine⟨c.1,?_⟩;have d:=D6 (k:=3) (room:=room) (tv:=tv) (lv:=lv) (mv:=mv) (v:=v) c.1.1 rfl;simp only[dD,dE]at d;simp[World.setCell,bT,c.2,d]
theorem HB.kept{a:cN}{room:Int}{tv lv mv:Value}{w w':World}(c:HB a room tv lv mv w)(k:w'.heap[a.b]?=w.heap[a.b]?):HB a room tv lv mv w':=⟨c.1,k.trans c.2⟩
structure ch (S:Nat->Prop) (w w':World):Prop where
 os:w'.os=w.os
 tape:w'.tape=w.tape
 output:w'.output=w.output
 size:w.heap.size<=w'.heap.size
 block:∀b,b<w.heap.size->¬S b->w'.heap[b]?=w.heap[b]?
theorem ch.refl(S:Nat->Prop)(w:World):ch S w w:=⟨rfl,rfl,rfl,av _,λ_ _ _=>rfl⟩
theorem ch.trans{S T:Nat->Prop}{w w1 w2:World}(a:ch S w w1)(k:ch T w1 w2)(e:∀b,b<w.heap.size->T b->S b):ch S w w2:=
 ⟨k.os.trans a.os,k.tape.trans a.tape,k.output.trans a.output,aF a.size k.size,λb c d=>(k.block b (aW c a.size) (λf=>d (e b c f))).trans (a.block b c d)⟩
theorem ch.mono{S T:Nat->Prop}{w w1:World}(a:ch S w w1)(c:∀b,S b->T b):ch T w w1:=⟨a.os,a.tape,a.output,a.size,λb d e=>a.block b d λk=>e (c b k)⟩
theorem bu{w w':World}(a:Below w.heap.size w w')(S:Nat->Prop):ch S w w':=⟨a.os,a.tape,a.output,a.size,λb c _=>a.block b c⟩
theorem Ef{w w':World}{row:Option Nat}(a:w.grownBy w' row):ch (λb=>row=some b) w w':=⟨a.os,a.tape,a.output,a.size,λb c d=>a.block b c λe=>d e.symm⟩
theorem bF(w:World)(q o:Nat)(v:Value):ch (λb=>b=q) w (w.setCell ⟨q,o,none⟩ v):=
 ⟨rfl,rfl,rfl,by simp[World.setCell],λb _ c=>by
  have:¬q=b:=λa=>c a.symm
  simp[World.setCell,bT,this]⟩
def mapBlock:Value->Option Nat
 | .map (some b)=>some b
 | _=>none
theorem wT:Keyed Tryz.prog 9:=string_keyed underlying9
theorem sI(w:World):(zeroValue 3).run Tryz.prog w=.ok (.int .i64 0) w:=by kernel_rfl
def strCells(l:List ByteArray):List Value:=l.map .string
def sL(D:DataW Unit)(nm:List ByteArray):Prop:=∀s:ByteArray,(Maps.has D (.string s.data.toList)=true ↔ s∈nm)/\∀i:Nat,nm[i]?=some s->D.atKey (.string s.data.toList) (.lit (.int .i64 0))=.lit (.int .i64 i)
def ky(base:Nat)(nm:List ByteArray)(lv mv:Value)(w:World):Prop:=
 w.ownsRow base 9 1 lv nm.length (strCells nm)/\nm.Nodup/\
 ((mv=.map none/\nm=[]/\lv=.slice none 0 0)\/∃a b,mv=.map (some a)/\base<=a/\w.ownsMap Tryz.prog 9 (plainElem Tryz.prog 3) a nm.length b/\sL b nm/\lv.ownBlock≠some a)
theorem ky.kept{base:Nat}{nm:List ByteArray}{lv mv:Value}{w w':World}{S:Nat->Prop}(n:ky base nm lv mv w)(k:ch S w w')(o:∀b,lv.ownBlock=some b->¬S b)(p:∀b,mapBlock mv=some b->¬S b):ky base nm lv mv w':=by
 obtain⟨h,x,f⟩:=n;have v:w'.ownsRow base 9 1 lv nm.length (strCells nm):=by
  refine⟨h.1,?_⟩;rcases h.2 with⟨c,m⟩|⟨d,cap,l,c,r,a,e⟩
  ·exact aj ⟨c,m⟩
  ·exact ak ⟨d,cap,l,c,r,(k.block d (aI.1 a).1 (o d (by rw[c];rfl))).trans a,e⟩
 refine⟨v,x,?_⟩;rcases f with f|⟨g,i,rfl,q,s,t,u⟩
 ·exact aj f
 ·refine ak ⟨g,i,rfl,q,?_,t,u⟩;obtain⟨es,j,a,e⟩:=s;exact⟨es,j,(k.block g (aI.1 a).1 (p g rfl)).trans a,e⟩
theorem Ew{D:DataW Unit}{nm:List ByteArray}(d:sL D nm){s:ByteArray}{c:Int}(e:s∈nm)(a:D.atKey (.string s.data.toList) (.lit (.int .i64 0))=.lit (.int .i64 c)):∃i:Nat,nm[i]?=some s/\c=i:=by
 obtain⟨i,b⟩:=dp e;have:=(d s).2 i b;rw[this]at a;simp at a;exact⟨i,b,a.symm⟩
theorem Eu(a:cN)(room:Int)(tv lv:Value)(d:Nat)(D:DataW Unit)(nm:List ByteArray)(s:ByteArray)(w:World)(j:Hid (HB a room tv lv (.map (some d)) w))(l:Hid (w.ownsMap Tryz.prog 9 (plainElem Tryz.prog 3) d nm.length D))(f:Hid (sL D nm))(h:Hid (s∈nm))(x:s.size<=2048):Calls Tryz.prog 147 #[.pointer (some ⟨a.b,a.o+2,none⟩),.string s] w λe w'=>∃i:Nat,e=.returned (.int .i64 i)/\Hid (nm[i]?=some s)/\w'=w:=by
 have m:Maps.has D (.string s.data.toList)=true:=((f s).1).2 h;obtain⟨⟨q,r,t,u⟩,v⟩:=j.cells;go_enter func147,ntmps147;go_wp2_with (at_lookup;refine wpList_lookup_own_ok_int _ rfl _ _ 103 rfl 9 3 .i64 wT underlying103 underlying3 (sI _) d nm.length D rfl l _ _ rfl (nw underlying9 (by unfold maxLen;omega)) ?_;intro c g p;have k:=ap (Ew f h g);clear g p;rw[m]);obtain⟨i,n,rfl⟩:=k
 go_ret
 exact⟨i,rfl,n,rfl⟩
def rz(base:Nat)(d:cN)(room:Int)(tv lv mv:Value)(nm:List ByteArray)(s:ByteArray)(w w':World)(a c:Value):Prop:=
 HB d room tv a c w'/\ky base (nm++ [s]) a c w'/\ch (λb=>b=d.b\/lv.ownBlock=some b\/mapBlock mv=some b) w w'/\
 (∀b,a.ownBlock=some b->lv.ownBlock=some b\/w.heap.size<=b)/\∀b,mapBlock c=some b->mapBlock mv=some b\/w.heap.size<=b
theorem vH:(Tryz.prog.info? 9).map (λi=>(i.zero,i.size,i.bytes))=some (some (.string .empty),1,16):=by kernel_rfl
theorem Ga(l:List UInt8):WideAt.IsKeyLit (.string l):=by first|trivial|simp[WideAt.IsKeyLit]|decide
theorem Cc{base:Nat}{d:cN}{room:Int}{tv lv:Value}{e:Nat}{D:DataW Unit}{nm:List ByteArray}{s:ByteArray}{w w1 w2 w4:World}{o:Obj}{g c:Nat}(m:HB d room tv lv (.map (some e)) w)(Q:base<=e)(R:nm.Nodup)(A:sL D nm)(E:s∉nm)(ad:s.size<=maxLen)(O:lv.ownBlock≠some e)(C:w.ownsRow base 9 1 lv nm.length (strCells nm))(r:w.ownsMap Tryz.prog 9 (plainElem Tryz.prog 3) e nm.length D)(n:Below w.heap.size w w1)(S:w2.ownsRow base 9 1 (.slice (some ⟨g,0,none⟩) (nm.length+1) c) (nm.length+1) (strCells nm++ [.string s]))(p:(w1.alloc o).grownBy w2 lv.ownBlock)(v:lv.ownBlock=some g\/g=w1.heap.size+1)(P:w4.ownsMap Tryz.prog 9 (plainElem Tryz.prog 3) e (nm.length+1) (D.put (.string s.data.toList) (.lit (.int .i64 nm.length))))(k:(w2.setCell ⟨d.b,d.o+2,none⟩ (.slice (some ⟨g,0,none⟩) (nm.length+1) c)).grownBy w4 (some e)):rz base d room tv lv (.map (some e)) nm s w w4 (.slice (some ⟨g,0,none⟩) (nm.length+1) c) (.map (some e)):=by
 have M:=m.lt;have aa:=r.lt;have ab:=n.size;have es:(w1.alloc o).heap.size=w1.heap.size+1:=by simp
 have Z:=p.size;have T:d.b≠e:=by
  rintro rfl;obtain⟨es,W,x,_⟩:=r;have f:w.heap[d.b]?=_:=m.2;rw[x]at f;cases f
 have B:lv.ownBlock≠some d.b:=λa=>by
  rcases C.2 with⟨rfl,_⟩|⟨Y,cap,X,rfl,_,x,_⟩
  ·simp[Value.ownBlock]at a
  ·simp[Value.ownBlock]at a;subst a;have f:w.heap[d.b]?=_:=m.2;rw[x]at f;injection f with f;injection f with f G;exact m.ty.1 G.symm
 have q:∀b,lv.ownBlock=some b->b<w.heap.size:=λb a=>(C.lt b a).2;have L:g≠d.b:=by
  rintro rfl;rcases v with a|a
  ·exact B a
  ·omega
 have z:g≠e:=by
  rintro rfl;rcases v with a|a
  ·exact O a
  ·omega
 have f:∀b,b<w.heap.size->lv.ownBlock≠some b->w2.heap[b]?=w.heap[b]? :=λb j h=>((p.block b (by omega) (λa=>h a.symm)).trans ((di w1 o none).block b (by omega) (by simp))).trans (n.block b j);have y:=bF w2 d.b (d.o+2) (.slice (some ⟨g,0,none⟩) (nm.length+1) c);have U:=y.size;have ae:=k.size;have H:HB d room tv lv (.map (some e)) w2:=m.kept (f d.b M B);have I:=H.set2 (.slice (some ⟨g,0,none⟩) (nm.length+1) c);have J:HB d room tv (.slice (some ⟨g,0,none⟩) (nm.length+1) c) (.map (some e)) w4:=I.kept (k.block d.b (by omega) (λa=>T (az a)));refine⟨J,⟨?_,?_,ak ⟨e,_,rfl,Q,by simpa using P,?_,?_⟩⟩,⟨?_,?_,?_,?_,?_⟩,?_,?_⟩
 ·have a:strCells (nm++ [s])=strCells nm++ [.string s]:=by simp[strCells]
  rw[a,bz];have N:w2.grownBy (w2.setCell ⟨d.b,d.o+2,none⟩ (.slice (some ⟨g,0,none⟩) (nm.length+1) c)) (some d.b):=⟨rfl,rfl,rfl,U,λb j h=>y.block b j (λa=>h (by rw[a]))⟩;refine pW (pW S N (ak ?_)) k (ak ?_)
  ·simp only[Value.ownBlock];exact λa=>L (az a)
  ·simp only[Value.ownBlock];exact λa=>z (az a)
 ·rw[fM];refine⟨R,by simp,λV K b j=>?_⟩;simp at j;subst j;exact λa=>E (a▸K)
 ·intro t;by_cases u:t=s
  ·subst u;refine⟨?_,λl i=>?_⟩
   ·rw[has_put_same r.isMap (Ga _)];simp
   ·rw[atKey_put_same r.isMap (Ga _)];have:l=nm.length:=by
     by_cases q:l<nm.length
     ·rw[dB q]at i;exact absurd (aL i) E
     ·have:=(aZ.1 i).1;simp at this;omega
    rw[this]
  ·have h:(Lit.string t.data.toList)≠(Lit.string s.data.toList):=λa=>u (by
     injection a with a;cases t;cases s;simp only at a
     rw[Array.toList_inj.1 a])
   refine⟨?_,λl i=>?_⟩
   ·rw[has_put_other h,(A t).1];simp[u]
   ·rw[atKey_put_other h];refine(A t).2 l ?_;by_cases q:l<nm.length
    ·rw[dB q]at i;exact i
    ·have F:=(aZ.1 i).1;simp at F;have:l=nm.length:=by omega
     subst this;simp at i;exact absurd i.symm u
 ·simp only[Value.ownBlock];exact λa=>z (az a)
 ·exact(k.os.trans p.os).trans n.os
 ·exact(k.tape.trans p.tape).trans n.tape
 ·exact(k.output.trans p.output).trans n.output
 ·omega
 ·intro b j h;simp only[mapBlock,not_or]at h;exact(k.block b (by omega) (λa=>h.2.2 a.symm)).trans ((y.block b (by omega) h.1).trans (f b j h.2.1))
 ·intro b a;simp only[Value.ownBlock]at a;obtain rfl:=az a;rcases v with a|a
  ·exact aj a
  ·exact ak (by omega)
 ·exact λb a=>aj a
theorem wm(w:World)(s:ByteArray):∀j b,[Value.string s][j]?=some b->(w.alloc (.cells #[.string s] 9)).cell? ((⟨w.heap.size,0,none⟩:Addr).add j)=some b:=by
 intro j b a;rw[fG];cases j with
 | zero=>simp at a;subst a;simp[go_sem]
 | succ j=>simp at a
theorem Cb{base:Nat}{c:cN}{room:Int}{tv lv i mv:Value}{nm:List Value}{n:Nat}{w:World}(h:w.ownsRow base 9 1 lv n nm)(d:HB c room tv i mv w):lv.ownBlock≠some c.b:=λe=>by
 rcases h.2 with⟨rfl,_⟩|⟨k,cap,j,rfl,_,g,_⟩
 ·simp[Value.ownBlock]at e
 ·simp[Value.ownBlock]at e;subst e;have a:w.heap[c.b]?=_:=d.2;rw[g]at a;injection a with a;injection a with a f;exact d.ty.1 f.symm
theorem tN{c:cN}{lv v:Value}{w1 w2:World}{o:Obj}(i:c.b<w1.heap.size)(k:lv.ownBlock≠some c.b)(h:(w1.alloc o).grownBy w2 lv.ownBlock)(g:∀j,w1.frozen? ⟨c.b,j,none⟩=false)(f:w1.cell? ⟨c.b,c.o+2,none⟩=some v):w2.cell? ⟨c.b,c.o+2,none⟩=some v/\w2.frozen? ⟨c.b,c.o+2,none⟩=false:=by
 have d:w2.heap[c.b]?=w1.heap[c.b]? :=(h.block c.b (by simp;omega) (λe=>k e.symm)).trans ((di w1 o none).block c.b i (by simp));exact⟨(bH d _).trans f,(jI (a:=⟨c.b,c.o+2,none⟩) d).trans (g _)⟩
theorem tM{a:cN}{lv v:Value}{w1 w2:World}{o:Obj}(g:a.b<w1.heap.size)(h:lv.ownBlock≠some a.b)(f:(w1.alloc o).grownBy w2 lv.ownBlock)(e:w1.cell? ⟨a.b,a.o+3,none⟩=some v):w2.cell? ⟨a.b,a.o+3,none⟩=some v:=by
 have d:w2.heap[a.b]?=w1.heap[a.b]? :=(f.block a.b (by simp;omega) (λc=>h c.symm)).trans ((di w1 o none).block a.b g (by simp));exact(bH d _).trans e
theorem yq{c:cN}{d L:Nat}{lv:Value}{D:DataW Unit}{w1 w2:World}{o:Obj}(h:w1.ownsMap Tryz.prog 9 (plainElem Tryz.prog 3) d L D)(i:c.b≠d)(g:lv.ownBlock≠some d)(f:(w1.alloc o).grownBy w2 lv.ownBlock)(v:Value):(w2.setCell ⟨c.b,c.o+2,none⟩ v).ownsMap Tryz.prog 9 (plainElem Tryz.prog 3) d L D:=
 (((h.alloc o).kept f (λe=>g e.symm))).setCell (a:=⟨c.b,c.o+2,none⟩) (λe=>i e.symm) v
theorem Et(base:Nat)(a:cN)(room:Int)(tv lv:Value)(O:Option Addr)(P L:Nat)(d:Nat)(D:DataW Unit)(nm:List ByteArray)(s:ByteArray)(w:World)(af:lv=.slice O L P)(Q:Hid (nm.length=L))(ar:L<=100000)(f:Hid (HB a room tv lv (.map (some d)) w))(ag:Hid (base<=d))(au:base<=w.heap.size)(ah:Hid (nm.Nodup))(k:Hid (w.ownsMap Tryz.prog 9 (plainElem Tryz.prog 3) d L D))(u:Hid (sL D nm))(I:Hid (s∉nm))(ai:s.size<=2048)(E:Hid (lv.ownBlock≠some d))(q:Hid (w.ownsRow base 9 1 lv L (strCells nm))):Calls Tryz.prog 147 #[.pointer (some ⟨a.b,a.o+2,none⟩),.string s] w λe w'=>e=.returned (.int .i64 L)/\∃al am,Hid (rz base a room tv lv (.map (some d)) nm s w w' al am):=by
 subst af;have ad:Maps.has D (.string s.data.toList)=false:=by
  cases h:Maps.has D (.string s.data.toList)
  ·rfl
  ·exact absurd (((u s).1).1 h) I
 obtain⟨ak,C,J,K,M⟩:=bY vH;have l:=ap (⟨C,J,K,M⟩:_/\_/\_/\_);clear C J K M;obtain⟨⟨U,V,r,W⟩,Z⟩:=f.out.cells;have av:∀(w:World)(m:Option Nat),(binOp .eql 103 (.map m) (.map none)).run Tryz.prog w=.ok (.bool m.isNone) w:=λw m=>run_eql_map_nil w _ _ _ m underlying103;go_enter func147,ntmps147;go_wp2_with (at_lookup;refine wpList_lookup_own_ok_int _ rfl _ _ 103 rfl 9 3 .i64 wT underlying103 underlying3 (sI _) d L D rfl k _ _ rfl (nw underlying9 (by unfold maxLen;omega)) ?_;intro c Y aj;clear Y aj;rw[ad]);refine(ey s _ ai).mono ?_;rintro e j ⟨rfl,g⟩;have A:a.b<w.heap.size:=f.lt;have p:=ap g;obtain⟨⟨d0,d1,d2,d3⟩,aa⟩:=(f.kept (g.block a.b A)).cells;have B:a.b<j.heap.size:=aW A g.size;have T:Hid (a.b≠d):=by
  rintro rfl;obtain⟨es,an,ab,_⟩:=k.out;have x:w.heap[a.b]?=_:=f.2;rw[ab]at x;cases x
 have v:Hid ((Value.slice O L P).ownBlock≠some a.b):=Cb q f;have R:Hid (j.ownsMap Tryz.prog 9 (plainElem Tryz.prog 3) d L D):=k.kept (dg g none) (by simp);clear g U V r W Z
 go_wp2_with (first
  | (at_builtin;refine wpList_append_lies _ rfl _ _ 102 rfl base 9 ak _ 1 16 underlying102 l.1 l.2.1 l.2.2.1 l.2.2.2 rfl (by decide) _ L _ rfl ((ez q p).alloc _) ⟨j.heap.size,0,none⟩ 1 1 [.string s] rfl rfl (wm j s) (by intro aw N;simp at N;subst N;rfl) (by decide) (by unfold maxLen;omega) (by omega) (by have:=p.size;simp;omega) (j.heap.size+1) (by simp) ?_;intro X r ax G i y F;have n:=ap (⟨G,i,y,F⟩:_/\_/\_/\_);obtain⟨ao,f2⟩:=tN B v i aa d2;have aq:=tM B v i d3;have S:=ap (yq R T E i (.slice (some ⟨X,0,none⟩) (L+1) r));clear G i y F)
  | (at_mapUpdate;refine wpList_mapUpdate_own _ rfl _ _ _ 103 rfl 9 3 wT underlying103 (plainElem Tryz.prog 3) d L D rfl S (by unfold maxLen;omega) _ _ _ rfl rfl (nw underlying9 (by unfold maxLen;omega)) (.lit (.int .i64 L)) [] (plainElem_int underlying3 (iZ (by omega))) ?_;intro ay H z;have t:=ap (⟨H,z⟩:_/\_);clear H z))
 go_ret
 have ae:=Q.out;subst ae;exact⟨rfl,_,_,Cc f ag ah u I (by unfold maxLen;omega) E q k p n.1 n.2.1 n.2.2.1 t.1 t.2⟩
theorem DT{base:Nat}{c:cN}{room:Int}{tv lv e f:Value}{s:ByteArray}{w wA w4:World}(g:rz base c room tv lv (.map (some w.heap.size)) [] s wA w4 e f)(k:ch (λb=>b=c.b) w wA)(o:wA.heap.size=w.heap.size+1):rz base c room tv lv (.map none) [] s w w4 e f:=by
 obtain⟨h,i,j,l,m⟩:=g;refine⟨h,i,?_,?_,?_⟩
 ·refine(k.mono λb d=>aj d).trans j λb d n=>?_;rcases n with a|a|a
  ·exact aj a
  ·exact ak (aj a)
  ·simp only[mapBlock]at a;have:=az a;omega
 ·intro b a;rcases l b a with a|a
  ·exact aj a
  ·exact ak (by omega)
 ·intro b a;rcases m b a with a|a
  ·simp only[mapBlock]at a;have:=az a;exact ak (by omega)
  ·exact ak (by omega)
theorem La:sL (.map []) []:=λs=>⟨by simp[Maps.has],λi a=>by simp at a⟩
theorem Ak(base:Nat)(a:cN)(room:Int)(tv lv:Value)(s:ByteArray)(w:World)(V:lv=.slice none 0 0)(k:Hid (HB a room tv lv (.map none) w))(Q:base<=w.heap.size)(Z:s.size<=2048):Calls Tryz.prog 147 #[.pointer (some ⟨a.b,a.o+2,none⟩),.string s] w λe w'=>e=.returned (.int .i64 0)/\∃ab ad,Hid (rz base a room tv lv (.map none) [] s w w' ab ad):=by
 subst V;obtain⟨aa,v,B,C,D⟩:=bY vH;have h:=ap (⟨v,B,C,D⟩:_/\_/\_/\_);clear v B C D;obtain⟨⟨M,N,l,O⟩,R⟩:=k.out.cells;have T:a.b<w.heap.size:=k.lt;have ai:∀(w:World)(i:Option Nat),(binOp .eql 103 (.map i) (.map none)).run Tryz.prog w=.ok (.bool i.isNone) w:=λw i=>run_eql_map_nil w _ _ _ i underlying103;have U:(Instr.lookup 103 (.map none) (.string s) true).run Tryz.prog w=.ok (.tuple #[.int .i64 0,.bool false]) w:=by
  simpa using Maps.look_nil (w:=w) true wT underlying103 (sI _) (nw underlying9 (show s.size<=maxLen by unfold maxLen;omega))
 have W:= @lC Tryz.prog;go_enter func147,ntmps147;go_wp2_with fail;generalize F:(w.setCell ⟨a.b,a.o+3,none⟩ (.map (some w.heap.size))).alloc (.map #[] 0)=wA;have c:Hid (HB a room tv (.slice none 0 0) (.map (some w.heap.size)) wA/\wA.ownsMap Tryz.prog 9 (plainElem (H:=Unit) Tryz.prog 3) w.heap.size 0 (.map [])/\ch (λb=>b=a.b) w wA/\wA.heap.size=w.heap.size+1):=by
  subst F;have es:(w.setCell ⟨a.b,a.o+3,none⟩ (.map (some w.heap.size))).heap.size=w.heap.size:=by simp[World.setCell]
  have y:=nI (w.setCell ⟨a.b,a.o+3,none⟩ (.map (some w.heap.size))) Tryz.prog 9 (plainElem (H:=Unit) Tryz.prog 3);rw[es]at y;refine⟨(k.set3 (.map (some w.heap.size))).kept ((di _ _ none).block a.b (by rw[es];exact T) (by simp)),y,⟨rfl,rfl,rfl,by simp[World.setCell],λb q X=>?_⟩,by simp[World.setCell]⟩;exact((di _ _ none).block b (by rw[es];exact q) (by simp)).trans ((bF w a.b (a.o+3) (.map (some w.heap.size))).block b q X)
 clear F M N l O R U W;refine(ey s _ Z).mono ?_;rintro e f ⟨rfl,d⟩;have u:a.b<wA.heap.size:=c.1.lt;have G:=ap d;obtain⟨⟨d0,d1,d2,d3⟩,S⟩:=(c.1.kept (d.block a.b u)).cells;have t:a.b<f.heap.size:=aW u d.size;have L:Hid (a.b≠w.heap.size):=by unfold Hid;omega
 have n:Hid ((Value.slice none 0 0).ownBlock≠some a.b):=by simp[Hid,Value.ownBlock]
 have J:Hid (f.ownsMap Tryz.prog 9 (plainElem (H:=Unit) Tryz.prog 3) w.heap.size 0 (.map [])):=c.2.1.kept (dg d none) (by simp);have I:Hid (base<=f.heap.size):=by have ag:=c.2.2.2;have ah:=d.size;unfold Hid;omega
 clear d
 go_wp2_with (first
  | (at_builtin;refine wpList_append_lies _ rfl _ _ 102 rfl base 9 aa _ 1 16 underlying102 h.1 h.2.1 h.2.2.1 h.2.2.2 rfl (by decide) _ 0 [] rfl (eZ _ _ _ _) ⟨f.heap.size,0,none⟩ 1 1 [.string s] rfl rfl (wm f s) (by intro aj E;simp at E;subst E;rfl) (by decide) (by unfold maxLen;omega) (by omega) (by have:=I.out;simp;omega) (f.heap.size+1) (by simp) ?_;intro P l ak z g p x;have j:=ap (⟨z,g,p,x⟩:_/\_/\_/\_);obtain⟨ae,f2⟩:=tN t n g S d2;have af:=tM t n g d3;have K:=ap (yq (lv:=.slice none 0 0) J L (by simp[Value.ownBlock]) g (.slice (some ⟨P,0,none⟩) (0+1) l));clear z g p x)
  | (at_mapUpdate;refine wpList_mapUpdate_own _ rfl _ _ _ 103 rfl 9 3 wT underlying103 (plainElem Tryz.prog 3) w.heap.size 0 (.map []) rfl K (by unfold maxLen;omega) _ _ _ rfl rfl (nw underlying9 (by unfold maxLen;omega)) (.lit (.int .i64 0)) [] (plainElem_int underlying3 (iZ (by omega))) ?_;intro al A r;have m:=ap (⟨A,r⟩:_/\_);clear A r))
 go_ret
 have Y:=Cc (nm:=[]) c.1 Q (by simp) La (by simp) (show s.size<=maxLen by unfold maxLen;omega) (by simp[Value.ownBlock]) (eZ _ _ _ _) c.2.1 G j.1 j.2.1 j.2.2.1 m.1 m.2;exact⟨rfl,_,_,DT Y c.2.2.1 c.2.2.2⟩
theorem Es(base:Nat)(a:cN)(room:Int)(tv lv mv:Value)(nm:List ByteArray)(s:ByteArray)(w:World)(g:HB a room tv lv mv w)(J:ky base nm lv mv w)(C:base<=w.heap.size)(I:nm.length<=100000)(r:s.size<=2048):Calls Tryz.prog 147 #[.pointer (some ⟨a.b,a.o+2,none⟩),.string s] w λe w'=>∃i:Nat,e=.returned (.int .i64 i)/\∃j d f,Hid (j[i]?=some s/\(j=nm\/j=nm++ [s])/\HB a room tv d f w'/\ky base j d f w'/\ch (λb=>b=a.b\/lv.ownBlock=some b\/mapBlock mv=some b) w w'/\ (∀b,d.ownBlock=some b->lv.ownBlock=some b\/w.heap.size<=b)/\∀b,mapBlock f=some b->mapBlock mv=some b\/w.heap.size<=b):=by
 obtain⟨m,B,H⟩:=J;rcases H with⟨rfl,rfl,n⟩|⟨h,k,rfl,E,p,q,D⟩
 ·refine(Ak base a room tv lv s w n g C r).mono ?_;rintro e w' ⟨rfl,d,f,l⟩;obtain⟨t,u,v,x,y⟩:=l.out;exact⟨0,rfl,[s],d,f,rfl,ak rfl,t,u,v,x,y⟩
 ·by_cases F:s∈nm
  ·refine(Eu a room tv lv h k nm s w g p q F r).mono ?_;rintro e w' ⟨i,rfl,K,rfl⟩;exact⟨i,rfl,nm,lv,.map (some h),K,aj rfl,g,⟨m,B,ak ⟨h,k,rfl,E,p,q,D⟩⟩,ch.refl _ _,λb e=>aj e,λb e=>aj e⟩
  ·obtain⟨z,A,n⟩:∃z A,lv=.slice z nm.length A:=by
     rcases m.2 with⟨e,G⟩|⟨M,c,L,e,_⟩
     ·exact⟨none,0,by rw[e,G]⟩
     ·exact⟨_,c,e⟩
   refine(Et base a room tv lv z A nm.length h k nm s w n rfl I g E C B p q F r D m).mono ?_;rintro e w' ⟨rfl,d,f,l⟩;obtain⟨t,u,v,x,y⟩:=l;exact⟨nm.length,rfl,nm++ [s],d,f,by simp,ak rfl,t,u,v,x,y⟩
abbrev Wd:=Int×Int
def qv(x:Wd):List au:=[ab x.1,ab x.2]
def bq(l:List Wd):List au:=l.flatMap qv
theorem cP(l:List Wd):(bq l).length=l.length*2:=by
 induction l with
 | nil=>rfl
 | cons a l ih=>
  have:bq (a::l)=qv a++bq l:=rfl;rw[this,bz,ih,bA];have:(qv a).length=2:=rfl;omega
theorem qt(l r:List Wd):bq (l++r)=bq l++bq r:=by simp[bq]
theorem rh(l:List Wd):∀b∈bq l,b.oneCell'=true:=by
 intro b a;simp only[bq,iw]at a;obtain⟨c,_,a⟩:=a;simp[qv]at a;rcases a with rfl|rfl<;>rfl
theorem jx(l:List Wd)(k:Nat)(x:Wd)(a:l[k]?=some x)(j:Nat)(e:j<2):(bq l)[k*2+j]?=(qv x)[j]? :=by
 induction l generalizing k with
 | nil=>simp at a
 | cons b l ih=>
  have c:bq (b::l)=qv b++bq l:=rfl;have d:(qv b).length=2:=rfl;rw[c];cases k with
  | zero=>
   simp at a;subst a;rw[dB (by omega)];simp
  | succ k=>
   rw[dR (by omega),d,show (k+1)*2+j-2=k*2+j by omega];exact ih k (by simpa using a)
theorem lO:(Tryz.prog.info? 109).map (λi=>(i.zero,i.size,i.bytes))=some (some (.agg #[ab 0,ab 0]),2,16):=by kernel_rfl
theorem L8(w:ag)(x:Wd):∀j b,(qv x)[j]?=some b->(w.alloc (.cells #[ab x.1,ab x.2] 109)).cell? ((⟨w.heap.size,0,none⟩:Addr).add j)=some b:=by
 intro j b a;rw[fG];have:j<2:=(aZ.1 a).1;have c:j=0\/j=1:=by omega
 rcases c with rfl|rfl<;>simp[qv]at a<;>subst a<;>simp[go_sem]
theorem Oa(x:Wd):∀b∈qv x,b.oneCell'=true:=by
 intro b a;simp[qv]at a;rcases a with rfl|rfl<;>rfl
theorem ti{P:Program}(w:ag)(t a ty e d:TypeId)(g:P.underlying t=some (.slice e))(h:P.underlying a=some (.slice d))(i:TypeInfo)(f:P.info? e=some i)(b xa:ar)(n c m xc:Nat):(Builtin.append_ #[t,a] ty #[ae b n c,ae xa m xc]).run P w=(Builtin.append_ #[t,t] ty #[ae b n c,ae xa m xc]).run P w:=by
 simp[Builtin.append_,cC g,cC h,sizeOf,typeInfo,f,Builtin.lenOf]
theorem ou{P:Program}(w:ag)(t c ty e d:TypeId)(i:TypeInfo)(k:P.underlying t=some (.slice e))(l:P.underlying c=some (.slice d))(g:P.info? e=some i)(b xa:ar)(n cap xc:Nat)(j:n<=cap):(Builtin.append_ #[t,c] ty #[ae b n cap,ae xa 0 xc]).run P w=.ok (ae b n cap) w:=by
 have h:∀a:Addr,(loadCells a 0).run P w=.ok #[] w:=λa=>run_loadCells_list (P:=P) w a [] (λm o f=>by simp at f);cases b<;>cases xa<;>simp[Builtin.append_,cC k,cC l,sizeOf,typeInfo,g,Builtin.lenOf,Builtin.firstCells,j,storeCells,h]
def fC(w:ag)(ps:List Wd)(xa:ar):Prop:=ps=[]\/∃ad,xa=some ad/\∀j a,(bq ps)[j]?=some a->w.cell? (ad.add j)=some a
theorem tj{base:Nat}{v:au}{n m xc:Nat}{xs:cX}{ps:List Wd}{xa:ar}{w:ag}(ty:TypeId)(c:w.ownsRow base 109 2 v n xs)(t:fC w ps xa)(g:ps.length=m)(z:n+m<=200000)(q:base<=w.heap.size):∃a w',(Builtin.append_ #[101,100] ty #[v,ae xa m xc]).run Tryz.prog w=.ok a w'/\w'.ownsRow base 109 2 a (n+m) (xs++bq ps)/\w.grownBy w' v.ownBlock/\(a.ownBlock=v.ownBlock\/a.ownBlock=some w.heap.size):=by
 obtain⟨f,d,u,x,y⟩:=bY lO;rcases t with rfl|⟨ad,rfl,r⟩
 ·obtain rfl:m=0:=g.symm;obtain⟨b,cap,e,s⟩:∃b cap,v=ae b n cap/\n<=cap:=by
   rcases c.2 with⟨rfl,rfl⟩|⟨i,cap,h,rfl,_,_,j,_⟩
   ·exact⟨none,0,rfl,av _⟩
   ·exact⟨_,cap,rfl,j⟩
  subst e;refine⟨_,w,ou w _ _ ty _ _ f underlying101 underlying100 d b xa n cap xc s,by simpa [bq]using c,g8 _ _,aj rfl⟩
 ·obtain⟨b,cap,e⟩:∃b cap,v=ae b n cap:=by
    rcases c.2 with⟨rfl,rfl⟩|⟨i,cap,h,rfl,_⟩
    ·exact⟨none,0,rfl⟩
    ·exact⟨_,cap,rfl⟩
  subst e;rw[ti w _ _ ty _ _ underlying101 underlying100 f d];obtain⟨a,w',k,l,o,_,p⟩:=run_append_own_at (P:=Tryz.prog) w base 101 ty 109 f _ 2 16 underlying101 d u x y rfl (by decide) _ n xs c ad m xc (bq ps) (by rw[cP,g]) r (rh _) (by unfold maxLen;omega) (by omega) q;exact⟨a,w',k,l,o,p⟩
theorem qe{w:ag}{c:Array Oper}{d:List Oper}{o:Oper}{a:Act}{Q:Exit->Act->bt}(l:o.guard=none)(s x:Operand)(q:o.op=.call {callee:=.builtin .append,args:= #[s,x],argTypes:= #[101,100]}){base:Nat}{v:au}{n m xc:Nat}{xs:cX}{ps:List Wd}{xa:ar}(u:a.eval s=v)(z:a.eval x=ae xa m xc)(r:w.ownsRow base 109 2 v n xs)(y:fC w ps xa)(p:ps.length=m)(h:n+m<=200000)(k:base<=w.heap.size)(i:∀b w',w'.ownsRow base 109 2 b (n+m) (xs++bq ps)->w.grownBy w' v.ownBlock->(b.ownBlock=v.ownBlock\/b.ownBlock=some w.heap.size)->wpList Tryz.prog c Q d (a.put o.dst b) w'):wpList Tryz.prog c Q (o::d) a w:=
 wpList_plain l λA j=>by
  obtain⟨b,w',t,e,f,g⟩:=tj (xc:=xc) o.type r y p h k;unfold Oper.wp execOp;simp only[q,resolve,invoke,builtin,Sem.run_bind,Sem.run_pure,nH,nA,aV,cF,u,z,t];exact j _ _ (i b w' e f g)
def Oh(base a po:Nat)(tv:au)(ws ps:List Wd)(w w':ag)(c:au):Prop:=
 w'.ownsRow base 109 2 c (ws.length+1+ps.length) (bq (ws++(0,(ps.length:Int))::ps))/\w'.heap[a]?=(w.setCell ⟨a,po,none⟩ c).heap[a]? /\
 ch (λb=>b=a\/tv.ownBlock=some b) w w'/\∀b,c.ownBlock=some b->(tv.ownBlock=some b\/w.heap.size<=b)
theorem GD{b po:Nat}{v:au}{w w2:ag}{o c:Obj}{row:da}(i:b<w.heap.size)(j:row≠some b)(f:((w.alloc o).alloc c).grownBy w2 row)(g:w.cell? ⟨b,po,none⟩=some v)(h:w.frozen? ⟨b,po,none⟩=false):w2.cell? ⟨b,po,none⟩=some v/\w2.frozen? ⟨b,po,none⟩=false/\b<w2.heap.size:=by
 have d:((w.alloc o).alloc c).heap.size=w.heap.size+2:=by simp
 have e:w2.heap[b]?=w.heap[b]? :=((f.block b (by omega) (λd=>j d.symm)).trans ((di (w.alloc o) c none).block b (by simp;omega) (by simp))).trans ((di w o none).block b i (by simp));have:=f.size;exact⟨(bH e po).trans g,(jI (a:=⟨b,po,none⟩) e).trans h,by omega⟩
theorem MI{base a:Nat}{tv:au}{L c e:Nat}{ys:cX}{ps:List Wd}{pa:ar}{w w2:ag}{o j:Obj}(u:a<w.heap.size)(s:base<=w.heap.size)(i:tv.ownBlock≠some a)(q:w2.ownsRow base 109 2 (ae (some ⟨c,0,none⟩) (L+1) e) (L+1) ys)(f:((w.alloc o).alloc j).grownBy w2 tv.ownBlock)(k:tv.ownBlock=some c\/c=w.heap.size+2)(po:Nat)(r:∀w1,ch (λb=>b=a\/tv.ownBlock=some b) w w1->fC w1 ps pa):(w2.setCell ⟨a,po,none⟩ (ae (some ⟨c,0,none⟩) (L+1) e)).ownsRow base 109 2 (ae (some ⟨c,0,none⟩) (L+1) e) (L+1) ys/\fC (w2.setCell ⟨a,po,none⟩ (ae (some ⟨c,0,none⟩) (L+1) e)) ps pa/\base<=(w2.setCell ⟨a,po,none⟩ (ae (some ⟨c,0,none⟩) (L+1) e)).heap.size:=by
 have n:c≠a:=by
  rintro rfl;rcases k with d|d
  ·exact i d
  ·omega
 have d:((w.alloc o).alloc j).heap.size=w.heap.size+2:=by simp
 have t:=f.size;have g:=bF w2 a po (ae (some ⟨c,0,none⟩) (L+1) e);have p:ch (λb=>b=a\/tv.ownBlock=some b) w (w2.setCell ⟨a,po,none⟩ (ae (some ⟨c,0,none⟩) (L+1) e)):=by
  refine⟨?_,?_,?_,?_,?_⟩
  ·exact f.os
  ·exact f.tape
  ·exact f.output
  ·have:=g.size;omega
  ·intro b l h;simp only[not_or]at h;exact(g.block b (by omega) h.1).trans (((f.block b (by omega) (λd=>h.2 d.symm)).trans ((di (w.alloc o) j none).block b (by simp;omega) (by simp))).trans ((di w o none).block b l (by simp)))
 refine⟨pW q (row:=some a) ⟨rfl,rfl,rfl,g.size,λb m i=>g.block b m (λd=>i (by rw[d]))⟩ (ak ?_),r _ p,by have:=g.size;omega⟩;simp only[Value.ownBlock];exact λd=>n (az d)
theorem JO{base d po:Nat}{tv:au}{L e f:Nat}{xs:cX}{w w2 w4:ag}{i:Obj}{v0 v1 y:au}{g:Nat}(B:d<w.heap.size)(x:w.ownsRow base 109 2 tv L xs)(v:tv.ownBlock≠some d)(l:((w.alloc (.cells #[v0,v1] 109)).alloc i).grownBy w2 tv.ownBlock)(k:tv.ownBlock=some e\/e=w.heap.size+2)(r:(w2.setCell ⟨d,po,none⟩ (ae (some ⟨e,0,none⟩) g f)).grownBy w4 (Value.slice (some ⟨e,0,none⟩) g f).ownBlock)(p:w2.cell? ⟨d,po,none⟩=some y)(q:w2.frozen? ⟨d,po,none⟩=false):(w4.cell? ⟨w.heap.size,0,none⟩=some v0/\w4.cell? ⟨w.heap.size,1,none⟩=some v1)/\(w4.frozen? ⟨w.heap.size,0,none⟩=false/\w4.frozen? ⟨w.heap.size,1,none⟩=false)/\w4.cell? ⟨d,po,none⟩=some (ae (some ⟨e,0,none⟩) g f)/\w4.frozen? ⟨d,po,none⟩=false:=by
 have m:∀b,tv.ownBlock=some b->b<w.heap.size:=λb c=>(x.lt b c).2;have c:((w.alloc (.cells #[v0,v1] 109)).alloc i).heap.size=w.heap.size+2:=by simp
 have A:=l.size;have o:=bF w2 d po (ae (some ⟨e,0,none⟩) g f);have C:=o.size;have t:e≠w.heap.size:=by
  rintro rfl;rcases k with c|c
  ·have:=m _ c;omega
  ·omega
 have s:e≠d:=by
  rintro rfl;rcases k with c|c
  ·exact v c
  ·omega
 have j:∀b,b<w2.heap.size->b≠e->w4.heap[b]?=(w2.setCell ⟨d,po,none⟩ (ae (some ⟨e,0,none⟩) g f)).heap[b]? :=λb z u=>r.block b (by omega) (λc=>u (az c));have h:w4.heap[w.heap.size]?=some (.cells #[v0,v1] 109):=by
  refine(j _ (by omega) (λc=>t c.symm)).trans ((o.block _ (by omega) (by omega)).trans ((l.block _ (by omega) (λc=>by have:=m _ c.symm;omega)).trans (((di (w.alloc (.cells #[v0,v1] 109)) i none).block _ (by simp) (by simp)).trans (aD w _))))
 have n:=j d (by omega) (λc=>s c.symm);refine⟨⟨by simp[World.cell?,h],by simp[World.cell?,h]⟩,⟨by simp[World.frozen?,h],by simp[World.frozen?,h]⟩,?_,?_⟩
 ·rw[bH n po];simp[go_sem,p]
 ·rw[jI (a:=⟨d,po,none⟩) n];simp[go_sem,q]
theorem LH(w:ag)(q o:Nat)(a v:au):((w.setCell ⟨q,o,none⟩ a).setCell ⟨q,o,none⟩ v).heap[q]?=(w.setCell ⟨q,o,none⟩ v).heap[q]? :=by
 simp only[World.setCell,bT,dj];cases w.heap[q]? with
 | none=>rfl
 | some x=>cases x<;>simp
theorem yN{w w':ag}{q:Nat}(a:w'.heap[q]?=w.heap[q]?)(o:Nat)(v:au):(w'.setCell ⟨q,o,none⟩ v).heap[q]?=(w.setCell ⟨q,o,none⟩ v).heap[q]? :=by
 simp only[World.setCell,bT,dj,a]
theorem MH{base c po:Nat}{tv:au}{e h d g:Nat}{ws ps:List Wd}{w w2 w4:ag}{o s:Obj}{p t:au}(R:c<w.heap.size)(S:w.ownsRow base 109 2 tv ws.length (bq ws))(C:tv.ownBlock≠some c)(k:((w.alloc o).alloc s).grownBy w2 tv.ownBlock)(n:tv.ownBlock=some e\/e=w.heap.size+2)(Q:w4.ownsRow base 109 2 (ae (some ⟨d,0,none⟩) (ws.length+1+ps.length) g) (ws.length+1+ps.length) (bq ws++qv (0,(ps.length:Int))++bq ps))(l:(w2.setCell ⟨c,po,none⟩ (ae (some ⟨e,0,none⟩) (ws.length+1) h)).grownBy w4 (Value.slice (some ⟨e,0,none⟩) (ws.length+1) h).ownBlock)(M:(Value.slice (some ⟨d,0,none⟩) (ws.length+1+ps.length) g).ownBlock=(Value.slice (some ⟨e,0,none⟩) (ws.length+1) h).ownBlock\/(Value.slice (some ⟨d,0,none⟩) (ws.length+1+ps.length) g).ownBlock=some (w2.setCell ⟨c,po,none⟩ (ae (some ⟨e,0,none⟩) (ws.length+1) h)).heap.size):Oh base c po tv ws ps w (((w4.setCell ⟨c,po,none⟩ (ae (some ⟨d,0,none⟩) (ws.length+1+ps.length) g)).setCell ⟨w.heap.size,0,none⟩ p).setCell ⟨w.heap.size,1,none⟩ t) (ae (some ⟨d,0,none⟩) (ws.length+1+ps.length) g):=by
 have P:∀b,tv.ownBlock=some b->b<w.heap.size:=λb a=>(S.lt b a).2;have a:((w.alloc o).alloc s).heap.size=w.heap.size+2:=by simp
 have aa:=k.size;have D:=bF w2 c po (ae (some ⟨e,0,none⟩) (ws.length+1) h);have ad:=D.size;have Z:=l.size;have ab:e≠w.heap.size:=by
  rintro rfl;rcases n with a|a
  ·have:=P _ a;omega
  ·omega
 have O:e≠c:=by
  rintro rfl;rcases n with a|a
  ·exact C a
  ·omega
 have J:d=e\/w.heap.size+2<=d:=by
  rcases M with m|m
  ·exact aj (by simpa [Value.ownBlock]using m)
  ·have X:d=(w2.setCell ⟨c,po,none⟩ (ae (some ⟨e,0,none⟩) (ws.length+1) h)).heap.size:=by
     simp only[Value.ownBlock]at m;exact az m
   exact ak (by omega)
 have L:d≠w.heap.size:=by omega
 have K:d≠c:=by omega
 have y:∀b,b<w.heap.size->tv.ownBlock≠some b->w2.heap[b]?=w.heap[b]? :=λb i f=>((k.block b (by omega) (λa=>f a.symm)).trans ((di (w.alloc o) s none).block b (by simp;omega) (by simp))).trans ((di w o none).block b i (by simp));have z:∀b,b<w2.heap.size->b≠e->w4.heap[b]?=(w2.setCell ⟨c,po,none⟩ (ae (some ⟨e,0,none⟩) (ws.length+1) h)).heap[b]? :=λb i f=>l.block b (by omega) (λa=>f (az a));have r:=bF w4 c po (ae (some ⟨d,0,none⟩) (ws.length+1+ps.length) g);have E:=bF (w4.setCell ⟨c,po,none⟩ (ae (some ⟨d,0,none⟩) (ws.length+1+ps.length) g)) w.heap.size 0 p;have F:=bF ((w4.setCell ⟨c,po,none⟩ (ae (some ⟨d,0,none⟩) (ws.length+1+ps.length) g)).setCell ⟨w.heap.size,0,none⟩ p) w.heap.size 1 t;have af:=r.size;have ah:=E.size;have ai:=F.size;have q:∀b,b<w4.heap.size->b≠w.heap.size->(((w4.setCell ⟨c,po,none⟩ (ae (some ⟨d,0,none⟩) (ws.length+1+ps.length) g)).setCell ⟨w.heap.size,0,none⟩ p).setCell ⟨w.heap.size,1,none⟩ t).heap[b]?=(w4.setCell ⟨c,po,none⟩ (ae (some ⟨d,0,none⟩) (ws.length+1+ps.length) g)).heap[b]? :=λb i f=>(F.block b (by omega) f).trans (E.block b (by omega) f);refine⟨?_,?_,⟨?_,?_,?_,?_,?_⟩,?_⟩
 ·have I:bq (ws++(0,(ps.length:Int))::ps)=bq ws++qv (0,(ps.length:Int))++bq ps:=by simp[bq]
  rw[I];obtain⟨V,u⟩:=Q;refine⟨V,?_⟩;rcases u with⟨u,_⟩|⟨Y,cap,G,U,i,A,T⟩
  ·simp at u
  ·injection U with j W H;injection j with j;injection j with j _;subst j H;have B:=(aI.1 A).1;exact ak ⟨d,g,G,rfl,i,(q d B L).trans ((r.block d B K).trans A),T⟩
 ·refine(q c (by omega) (by omega)).trans ((yN (z c (by omega) (λa=>O a.symm)) po _).trans ((LH w2 c po _ _).trans (yN (y c R C) po _)))
 ·exact l.os.trans k.os
 ·exact l.tape.trans k.tape
 ·exact l.output.trans k.output
 ·omega
 ·intro b i f;simp only[not_or]at f;have N:b≠e:=by
   rintro rfl;rcases n with a|a
   ·exact f.2 a
   ·omega
  exact(q b (by omega) (by omega)).trans ((r.block b (by omega) f.1).trans ((z b (by omega) N).trans ((D.block b (by omega) f.1).trans (y b i f.2))))
 ·intro b x;simp only[Value.ownBlock]at x;obtain rfl:=az x;rcases J with a|a
  ·rw[a];rcases n with v|v
   ·exact aj v
   ·exact ak (by omega)
  ·exact ak (by omega)
theorem A3(base a po:Nat)(tv:au)(K:ar)(M L:Nat)(ws ps:List Wd)(m pc:Nat)(pa:ar)(w:ag)(G:tv=ae K L M)(A:Hid (ws.length=L))(r:Hid (ps.length=m))(T:L<=100000)(U:m<=1000)(D:base<=w.heap.size)(c0:w.cell? ⟨a,po,none⟩=some tv)(f0:w.frozen? ⟨a,po,none⟩=false)(h:a<w.heap.size)(g:Hid (tv.ownBlock≠some a))(k:Hid (w.ownsRow base 109 2 tv L (bq ws)))(B:Hid (∀w1,ch (λb=>b=a\/tv.ownBlock=some b) w w1->fC w1 ps pa)):ao 148 #[.pointer (some ⟨a,po,none⟩),ae pa m pc] w λe w'=>e=.returned (.agg #[ab 4,ab L])/\∃N,Hid (Oh base a po tv ws ps w w' N):=by
 subst G;obtain⟨H,t,x,y,z⟩:=bY lO;have d:=ap (⟨t,x,y,z⟩:_/\_/\_/\_);clear t x y z;go_enter func148,ntmps148
 go_wp2_with (first
  | (at_builtin;refine wpList_append_lies _ rfl _ _ 101 rfl base 109 H _ 2 16 underlying101 d.1 d.2.1 d.2.2.1 d.2.2.2 rfl (by decide) _ L _ rfl ((k.alloc _).alloc _) ⟨w.heap.size+1,0,none⟩ 1 1 (qv (0,(m:Int))) rfl rfl (by have:=L8 (w.alloc (.cells #[ab 0,ab 0] 109)) (0,(m:Int));simpa using this) (Oa _) (by decide) (by unfold maxLen;omega) (by omega) (by simp;omega) (w.heap.size+2) (by simp) ?_;intro R O Y p f l u;have c:=ap (⟨p,f,l,u⟩:_/\_/\_/\_);obtain⟨C,f2,V⟩:=GD h g f c0 f0;have i:=ap (MI h D g p f l po B);clear p f l u)
  | (at_builtin;refine qe rfl _ _ rfl (base:=base) (n:=L+1) rfl rfl i.1 i.2.1 r (by omega) i.2.2 ?_;intro X Z q o s;obtain⟨S,P,rfl,_,_⟩:=q.form (by omega);have j:=ap (⟨q,o,s⟩:_/\_/\_);obtain⟨⟨I,J⟩,W,Q,f4⟩:=JO h k g c.2.1 c.2.2.1 o C f2;clear q o s))
 have E:=A.out;have F:=r.out;subst E F;exact ay (v:=.agg #[ab 4,ab ws.length]) (by simp[results,results148,go_sem,I,J]) rfl ⟨rfl,_,MH h k g c.2.1 c.2.2.1 j.1 j.2.1 j.2.2⟩
def OR(room:Int)(w:ag)(e:Ending)(w':ag):Prop:=
    (¬(0<=room/\room<=1000)->e=.returned (.tuple #[.pointer none,ab 1])/\w'=w)/\
    (0<=room/\room<=1000->e=.returned (.tuple #[aH w.heap.size,ab 0])/\HB (cN.own w.heap.size) room (ae none 0 0) (ae none 0 0) (.map none) w'/\w'.heap.size=w.heap.size+1/\am w w')
theorem NB(room:Int)(w:ag):ao 72 #[ab room] w (OR room w):=by
 by_cases a:room<0
 ·have b:decide (room<0)=true:=by simpa using a
  go_enter func72,ntmps72;go_wp2_with fail
  go_ret2
  exact⟨λ_=>⟨rfl,rfl⟩,λc=>by omega⟩
 ·by_cases d:1000<room
  ·have b:decide (room<0)=false:=by simpa using a
   have e:decide (1000<room)=true:=by simpa using d
   go_enter func72,ntmps72;go_wp2_with fail
   go_ret2
   exact⟨λ_=>⟨rfl,rfl⟩,λc=>by omega⟩
  ·have b:decide (room<0)=false:=by simpa using a
   have e:decide (1000<room)=false:=by simpa using d
   go_enter func72,ntmps72;go_wp2_with fail
   go_ret2
   exact⟨λc=>by omega,λ_=>⟨rfl,⟨⟨rfl,aj rfl⟩,aD w _⟩,by simp,aS _ _⟩⟩
def gA(ws:List Wd)(i:Int):Bool:=decide (0<=i) && match ws[i.toNat]? with
 | some x=>x.1==0
 | none=>false
theorem jz{base g c L:Nat}{ws:List Wd}{w:ag}(d:w.ownsRow base 109 2 (ae (some ⟨g,0,none⟩) L c) L (bq ws))(k:Nat)(x:Wd)(b:ws[k]?=some x):ai w g (k*2) (ab x.1)/\ai w g (k*2+1) (ab x.2):=by
 have a:=d.cells (g:=g) rfl;refine⟨?_,?_⟩
 ·have:=a (k*2+0) (ab x.1) (by rw[jx ws k x b 0 (by omega)];rfl);rw[fG]at this;exact this
 ·have:=a (k*2+1) (ab x.2) (by rw[jx ws k x b 1 (by omega)];rfl);rw[fG]at this;exact this
theorem DE(base:Nat)(j:ar)(L l:Nat)(ws:List Wd)(i:Int)(w:ag)(b:Hid (ws.length=L))(p:L<=100000)(d:Hid (w.ownsRow base 109 2 (ae j L l) L (bq ws))):ao 150 #[ae j L l,ab i] w λe w'=>e=.returned (.bool (gA ws i))/\w'=w:=by
 by_cases g:0<=i
 ·obtain⟨k,rfl⟩:∃k:Nat,i=k:=⟨i.toNat,by omega⟩;by_cases n:k<L
  ·obtain⟨x,a⟩:∃x,ws[k]?=some x:=⟨ws[k]'(by rw[b.out];exact n),aN _⟩;obtain⟨o,c,h,_,_⟩:=d.out.form (by omega);simp at h;obtain⟨rfl,rfl⟩:=h;obtain⟨s,t⟩:=jz d k x a;have HB:Hid (gA ws k=(x.1==0)):=by simp[Hid,gA,a]
   have f:decide ((0:Int)<=(k:Int))=true:=by simp
   have m:decide ((k:Int)<(L:Int))=true:=by simp;omega
   have q:(0:Int)<=(k:Int):=by omega
   have r:(k:Int)<(L:Int):=by omega
   clear a;go_enter func150,ntmps150;go_wp2_with fail
   go_ret
   exact⟨fq HB.symm,rfl⟩
  ·have HB:Hid (gA ws k=false):=by
     have:ws[k]?=none:=eY (by rw[b.out];omega);simp[Hid,gA,this]
   have f:decide ((0:Int)<=(k:Int))=true:=by simp
   have m:decide ((k:Int)<(L:Int))=false:=by simp;omega
   go_enter func150,ntmps150;go_wp2_with fail
   go_ret
   exact⟨fq HB.symm,rfl⟩
 ·have HB:Hid (gA ws i=false):=by simp[Hid,gA,g]
  have f:decide (0<=i)=false:=by simpa using g
  go_enter func150,ntmps150;go_wp2_with fail
  go_ret
  exact⟨fq HB.symm,rfl⟩
def vE(L:Nat)(i:Int):Bool:=decide (0<=i) && decide (i<L)
theorem Ng(c:cN)(room:Int)(tv:au)(g:ar)(L h:Nat)(mv:au)(i:Int)(w:ag)(d:Hid (HB c room tv (ae g L h) mv w)):ao 149 #[.pointer (some ⟨c.b,c.o+2,none⟩),ab i] w λe w'=>e=.returned (.bool (vE L i))/\w'=w:=by
 obtain⟨⟨j,k,l,m⟩,n⟩:=d.cells;by_cases a:0<=i
 ·have HB:Hid (vE L i=decide (i<L)):=by simp[Hid,vE,a]
  have f:decide (0<=i)=true:=by simpa using a
  go_enter func149,ntmps149;go_wp2_with fail
  go_ret
  exact⟨fq HB.symm,rfl⟩
 ·have HB:Hid (vE L i=false):=by simp[Hid,vE,a]
  have f:decide (0<=i)=false:=by simpa using a
  go_enter func149,ntmps149;go_wp2_with fail
  go_ret
  exact⟨fq HB.symm,rfl⟩
theorem Px(l:br)(k:Nat)(s:aq)(a:l[k]?=some s):(strCells l)[k]?=some (af s):=by simp[strCells,a]
theorem Eo(base:Nat)(a:cN)(room:Int)(tv lv mv:au)(nm:br)(i:Nat)(s:aq)(w:ag)(h:Hid (HB a room tv lv mv w))(d:Hid (w.ownsRow base 9 1 lv nm.length (strCells nm)))(f:Hid (nm[i]?=some s))(r:nm.length<=100000)(l:s.size<=2048):ao 176 #[.pointer (some ⟨a.b,a.o+2,none⟩),ab i] w λe w'=>e=.returned (af s)/\am w w':=by
 have x:i<nm.length:=(aZ.1 f).1;obtain⟨g,c,rfl,_,_⟩:=d.out.form (by omega);have z:ai w g i (af s):=by
  have:=d.cells (g:=g) rfl i (af s) (Px nm i s f);rw[fG]at this;exact this
 obtain⟨⟨m,n,p,q⟩,t⟩:=h.cells;generalize nm.length=j at*;have u:(0:Int)<=(i:Int):=by omega
 have v:(i:Int)<(j:Int):=by omega
 go_enter func176,ntmps176;go_wp2_with fail;refine(ey s _ l).mono ?_;rintro e y ⟨rfl,k⟩;go_wp2_with fail
 go_ret
 exact⟨rfl,k⟩
theorem BQ(a:cN)(room n:Int)(d:ar)(L f:Nat)(lv mv:au)(w:ag)(k:L<=100000)(p:0<=room)(m:room<=1000)(c:Hid (HB a room (ae d L f) lv mv w)):ao 111 #[.pointer (some ⟨a.b,a.o,none⟩),ab n] w λe w'=>e=.returned (.bool (decide (n<=room-L)))/\am w w':=by
 obtain⟨⟨g,h,i,j⟩,l⟩:=c.cells;go_enter func111,ntmps111;go_wp2_with fail
 go_quiet (fail)
 go_wp2_with fail
 go_ret
 exact⟨rfl,⟨rfl,rfl,rfl,av _,λ_ _=>rfl⟩⟩
theorem tZ(ws:List Wd)(k n j:Nat)(f:j<n*2):(bq ((ws.drop k).take n))[j]?=(bq ws)[k*2+j]? :=by
 by_cases e:k+j / 2<ws.length
 ·obtain⟨x,a⟩:∃x,ws[k+j / 2]?=some x:=⟨_,aN e⟩;have d:((ws.drop k).take n)[j / 2]?=some x:=by
   rw[tA (by omega),lm];exact a
  have b:j=j / 2*2+j % 2:=by omega
  have c:k*2+j=(k+j / 2)*2+j % 2:=by omega
  rw[c,jx ws (k+j / 2) x a (j % 2) (by omega)]
  conv=>lhs;rw[b]
  rw[jx _ (j / 2) x d (j % 2) (by omega)]
 ·rw[eY (l:=bq ws) (by rw[cP];omega),eY (by rw[cP,dK,fw];omega)]
def MC(ws:List Wd)(k n g:Nat)(w:ag)(e:Ending)(w':ag):Prop:=w'=w/\∃pa pc,e=.returned (ae (some pa) n pc)/\pa.block=g/\fC w ((ws.drop (k+1)).take n) (some pa)/\∃o,pa=⟨g,o,none⟩
theorem NP{base g L c:Nat}{xs:cX}{ty:TypeId}{sz:Nat}{w:ag}(a:w.ownsRow base ty sz (ae (some ⟨g,0,none⟩) L c) L xs):L<=c/\c<=maxLen:=by
 rcases a.2 with⟨a,_⟩|⟨f,cap,e,a,_,_,b,d,_⟩
 ·simp at a
 ·injection a with _ _ a;subst a;exact⟨b,d⟩
theorem yy(base:Nat)(g L b k n:Nat)(ws:List Wd)(w:ag)(r:L<=100000)(c:Hid (w.ownsRow base 109 2 (ae (some ⟨g,0,none⟩) L b) L (bq ws)))(p:Hid (ws[k]?=some (0,(n:Int))))(s:k+1+n<=L):ao 178 #[ae (some ⟨g,0,none⟩) L b,ab k] w (MC ws k n g w):=by
 obtain⟨v,x⟩:=jz c k _ p;obtain⟨u,f⟩:=NP c;have e:Hid (∀o,(n=0\/o=(k+1)*2)->fC w ((ws.drop (k+1)).take n) (some ⟨g,o,none⟩)):=by
  rintro o (rfl|rfl)
  ·exact aj (by simp)
  ·refine ak ⟨_,rfl,λa q d=>?_⟩;have l:a<n*2:=by
    have:=(aZ.1 d).1;rw[cP,dK]at this;omega
   rw[tZ ws (k+1) n a l]at d;have:=c.cells (g:=g) rfl _ q d;rw[fG]at this;have h:(⟨g,(k+1)*2,none⟩:Addr).add a=⟨g,(k+1)*2+a,none⟩:=by
    unfold Addr.add;by_cases i:a=0<;>simp[i]
   rw[h];exact this
 have t:(b:Int)<=9223372036854775807:=by unfold maxLen at f;omega
 clear f;by_cases j:b=k+1
 ·subst j;have m:n=0:=by omega
  subst m;go_enter func178,ntmps178;go_wp2_with fail
  go_ret
  exact⟨rfl,_,_,rfl,rfl,e _ (by simp),_,rfl⟩
 ·go_enter func178,ntmps178;go_wp2_with fail
  go_ret
  exact⟨rfl,_,_,rfl,rfl,e _ (ak rfl),_,rfl⟩
def P8(s t:aq):Bool:=t.data==s.data
theorem pj(s t:aq):P8 s t=true ↔ t=s:=by
 cases s;cases t;simp[P8]
def fh(nm:br)(s:aq):List aq:=if nm.any (P8 s)then nm else nm++ [s]
def lT(nm:br)(s:aq):Nat:=nm.findIdx (P8 s)
theorem Ai(nm:br)(s:aq):nm.any (P8 s)=true ↔ s∈nm:=by
 rw[List.any_eq_true];constructor
 ·rintro ⟨t,c,a⟩;rw[pj]at a;exact a▸c
 ·exact λb=>⟨s,b,(pj s s).2 rfl⟩
theorem Cd{nm:br}{s:aq}(e:nm.Nodup){i:Nat}(b:nm[i]?=some s):lT nm s=i:=by
 have f:=(aZ.1 b).1;have a:lT nm s<nm.length:=by
  unfold lT;rw[List.findIdx_lt_length];exact⟨s,aL b,(pj s s).2 rfl⟩
 have d:nm[lT nm s]'a=s:=(pj s _).1 (List.findIdx_getElem (w:=a));have c:nm[lT nm s]?=nm[i]? :=by rw[b,aN a,d]
 exact(List.getElem?_inj a e).1 c
def bV{a:Type}(f:a->List Wd->List aq->Wd×List Wd×List aq):List a->List Wd->List aq->List Wd×List Wd×List aq
 | [],ws,nm=>([],ws,nm)
 | y::l,ws,nm=>((f y ws nm).1::(bV f l (f y ws nm).2.1 (f y ws nm).2.2).1,(bV f l (f y ws nm).2.1 (f y ws nm).2.2).2)
def bk:(n:Nat)->Tm n->List Wd->List aq->Wd×List Wd×List aq
 | 0,_,ws,nm=>((0,0),ws,nm)
 | n+1,x,ws,nm=>
  if x.1.1=2 then ((2,(lT (fh nm x.1.2.2) x.1.2.2:Int)),ws,fh nm x.1.2.2)
  else if x.1.1=4 then
   ((4,((bV (bk n) x.2.2 ws nm).2.1.length:Int)),(bV (bk n) x.2.2 ws nm).2.1++(0,(x.2.2.length:Int))::(bV (bk n) x.2.2 ws nm).1,(bV (bk n) x.2.2 ws nm).2.2)
  else ((x.1.1,x.1.2.1),ws,nm)
theorem Hx{a:Type}(f:a->List Wd->List aq->Wd×List Wd×List aq)(l:List a)(y:a)(ws:List Wd)(nm:br):bV f (l++ [y]) ws nm=((bV f l ws nm).1++ [(f y (bV f l ws nm).2.1 (bV f l ws nm).2.2).1],(f y (bV f l ws nm).2.1 (bV f l ws nm).2.2).2):=by
 induction l generalizing ws nm with
 | nil=>simp[bV]
 | cons b l ih=>simp[bV,ih]
theorem ip{a:Type}(f:a->List Wd->List aq->Wd×List Wd×List aq)(l:List a)(ws:List Wd)(nm:br):(bV f l ws nm).1.length=l.length:=by
 induction l generalizing ws nm with
 | nil=>simp[bV]
 | cons b l ih=>simp[bV,ih]
theorem Ah(nm:br)(s:aq):(fh nm s).length<=nm.length+1:=by
 unfold fh;split<;>simp
theorem jn:(n:Nat)->(x:Tm n)->(ws:List Wd)->(nm:br)->((bk n x ws nm).2.1.length:Int)=ws.length+sz n x/\(bk n x ws nm).2.2.length<=nm.length+(aC n x).length
 | 0,_,_,_=>by simp[bk,sz]
 | n+1,x,ws,nm=>by
  have key:∀(l:List (Tm n))(ws:List Wd)(nm:br),((bV (bk n) l ws nm).2.1.length:Int)+l.length=ws.length+(l.map λy=>1+sz n y).sum/\(bV (bk n) l ws nm).2.2.length<=nm.length+(l.flatMap λy=>aC n y).length:=by
   intro l
   induction l with
   | nil=>intro ws nm;simp[bV]
   | cons y l ih=>
    intro ws nm;obtain⟨e,f⟩:=jn n y ws nm;obtain⟨g,h⟩:=ih (bk n y ws nm).2.1 (bk n y ws nm).2.2;simp only[bV,aV,bR,bP,bz,bA];exact⟨by omega,by omega⟩
  obtain⟨i,j⟩:=key x.2.2 ws nm;have k:=Ah nm x.1.2.2;have c:=ip (bk n) x.2.2 ws nm;have d:(aC (n+1) x).length=1+(x.2.2.flatMap λy=>aC n y).length:=by simp[aC];omega
  rw[d];by_cases b:x.1.1=2
  ·have a:¬x.1.1=4:=by omega
   simp only[bk,sz,if_pos b,if_neg a];exact⟨by omega,by omega⟩
  ·by_cases a:x.1.1=4
   ·simp only[bk,sz,if_neg b,if_pos a,bz,bA,c];exact⟨by omega,by omega⟩
   ·simp only[bk,sz,if_neg b,if_neg a];exact⟨by omega,by omega⟩
def eh(base:Nat)(e:cN)(room:Int)(ws:List Wd)(nm:br)(M:aO)(w:ag):Prop:=
 ∃d a c,HB e room d a c w/\w.ownsRow base 109 2 d ws.length (bq ws)/\ky base nm a c w/\M e.b/\(∀b,d.ownBlock=some b->M b)/\(∀b,a.ownBlock=some b->M b)/\∀b,mapBlock c=some b->M b
theorem eE{base:Nat}{e:TypeId}{sz:Nat}{v:au}{n:Nat}{xs:cX}{w w':ag}{S:aO}(c:w.ownsRow base e sz v n xs)(k:ch S w w')(h:∀b,v.ownBlock=some b->¬S b):w'.ownsRow base e sz v n xs:=by
 refine⟨c.1,?_⟩;rcases c.2 with⟨e,g⟩|⟨a,cap,f,e,i,d,j⟩
 ·exact aj ⟨e,g⟩
 ·exact ak ⟨a,cap,f,e,i,(k.block a (aI.1 d).1 (h a (by rw[e];rfl))).trans d,j⟩
theorem eh.kept{base:Nat}{d:cN}{room:Int}{ws:List Wd}{nm:br}{M S:aO}{w w':ag}(m:eh base d room ws nm M w)(k:ch S w w')(c:∀b,M b->b<w.heap.size->¬S b):eh base d room ws nm M w':=by
 obtain⟨q,o,p,e,g,f,h,i,j,l⟩:=m;refine⟨q,o,p,e.kept (k.block d.b e.lt (c d.b h e.lt)),eE g k λb a=>c b (i b a) (g.lt b a).2,?_,h,i,j,l⟩;refine f.kept k (λb a=>c b (j b a) (f.1.lt b a).2) λb a=>c b (l b a) ?_;rcases f.2.2 with⟨rfl,_⟩|⟨s,r,rfl,_,n,_⟩
 ·simp[mapBlock]at a
 ·simp only[mapBlock]at a;obtain rfl:=az a;exact n.lt
theorem eh.mono{base:Nat}{c:cN}{room:Int}{ws:List Wd}{nm:br}{M S:aO}{w:ag}(d:eh base c room ws nm M w)(k:∀b,M b->S b):eh base c room ws nm S w:=by
 obtain⟨o,m,n,e,f,g,h,i,j,l⟩:=d;exact⟨o,m,n,e,f,g,k _ h,λb a=>k b (i b a),λb a=>k b (j b a),λb a=>k b (l b a)⟩
def mN(base:Nat)(a:cN)(room:Int)(ws:List Wd)(nm:br)(M:aO)(w w':ag):Prop:=eh base a room ws nm (λb=>M b\/w.heap.size<=b) w'/\ch M w w'
theorem yI{w:ag}{base h:Nat}{e f:TypeId}{s o n m:Nat}{v g:au}{xs ys:cX}(i:w.ownsRow base e s v n xs)(j:w.ownsRow h f o g m ys)(l:e≠f):∀b,v.ownBlock=some b->g.ownBlock≠some b:=by
 intro b c d;rcases i.2 with⟨rfl,_⟩|⟨t,cap,q,rfl,_,k,_⟩
 ·simp[Value.ownBlock]at c
 ·rcases j.2 with⟨rfl,_⟩|⟨u,p,r,rfl,_,a,_⟩
  ·simp[Value.ownBlock]at d
  ·simp only[Value.ownBlock]at c d;obtain rfl:=az c;obtain rfl:=az d;rw[k]at a;injection a with a;injection a with _ a;exact l a
theorem nZ{w:ag}{base:Nat}{e:TypeId}{s n:Nat}{v:au}{xs:cX}{c:cN}{room:Int}{tv lv mv:au}(h:w.ownsRow base e s v n xs)(f:HB c room tv lv mv w)(g:e≠107/\e≠111):v.ownBlock≠some c.b:=λe=>by
 rcases h.2 with⟨rfl,_⟩|⟨k,cap,j,rfl,_,i,_⟩
 ·simp[Value.ownBlock]at e
 ·simp[Value.ownBlock]at e;subst e;have a:w.heap[c.b]?=_:=f.2;rw[i]at a;injection a with a;injection a with a d;rcases f.1.2 with t1|t1
  ·exact g.1 (d.trans t1)
  ·exact g.2 (d.trans t1)
theorem Gi{w:ag}{base:Nat}{e:TypeId}{s n:Nat}{v:au}{xs:cX}{nm:br}{lv mv:au}{f:Nat}(g:w.ownsRow base e s v n xs)(h:ky f nm lv mv w):∀b,v.ownBlock=some b->mapBlock mv≠some b:=by
 intro b a c;rcases g.2 with⟨rfl,_⟩|⟨o,cap,m,rfl,_,i,_⟩
 ·simp[Value.ownBlock]at a
 ·rcases h.2.2 with⟨rfl,_⟩|⟨p,k,rfl,_,j,_⟩
  ·simp[mapBlock]at c
  ·simp only[Value.ownBlock,mapBlock]at a c;obtain rfl:=az a;obtain rfl:=az c;obtain⟨es,l,d,_⟩:=j;rw[i]at d;cases d
theorem uI{w:ag}{nm:br}{lv mv:au}{base:Nat}{a:cN}{room:Int}{tv i j:au}(f:ky base nm lv mv w)(d:HB a room tv i j w):mapBlock mv≠some a.b:=λe=>by
 rcases f.2.2 with⟨rfl,_⟩|⟨l,D,rfl,_,h,_⟩
 ·simp[mapBlock]at e
 ·simp only[mapBlock]at e;obtain rfl:=az e;obtain⟨es,k,g,_⟩:=h;have c:w.heap[a.b]?=_:=d.2;rw[g]at c;cases c
theorem Nj{nm b:br}{s:aq}{i:Nat}(f:b.Nodup)(e:b[i]?=some s)(a:b=nm\/b=nm++ [s]):b=fh nm s/\i=lT (fh nm s) s:=by
 have c:b=fh nm s:=by
  unfold fh;by_cases d:s∈nm
  ·rw[if_pos ((Ai nm s).2 d)];rcases a with a|a
   ·exact a
   ·rw[a,fM]at f;exact absurd rfl (f.2.2 s d s (by simp))
  ·rw[if_neg (λc=>d ((Ai nm s).1 c))];rcases a with a|a
   ·rw[a]at e;exact absurd (aL e) d
   ·exact a
 refine⟨c,?_⟩;rw[<-c];exact(Cd f e).symm
theorem NC(base:Nat)(a:cN)(room:Int)(ws:List Wd)(nm:br)(M:aO)(s:aq)(w:ag)(r:eh base a room ws nm M w)(v:base<=w.heap.size)(u:nm.length<=100000)(x:s.size<=2048):ao 147 #[.pointer (some ⟨a.b,a.o+2,none⟩),af s] w λe w'=>e=.returned (ab (lT (fh nm s) s:Int))/\Hid (mN base a room ws (fh nm s) M w w'):=by
 obtain⟨m,D,F,g,c,f,h,t,i,j⟩:=r;refine(Es base a room m D F nm s w g f v u x).mono ?_;rintro e w' ⟨H,rfl,I,E,G,n⟩;obtain⟨y,z,A,k,l,B,C⟩:=n;obtain⟨p,q⟩:=Nj k.2.1 y z;subst p;refine⟨by rw[q],⟨m,E,G,A,eE c l ?_,k,aj h,λb e=>aj (t b e),?_,?_⟩,l.mono ?_⟩
 ·rintro b e (rfl|d|d)
  ·exact nZ c g (by decide) e
  ·exact yI c f.1 (by decide) b e d
  ·exact Gi c f b e d
 ·intro b e;rcases B b e with e|e
  ·exact aj (i b e)
  ·exact ak e
 ·intro b e;rcases C b e with e|e
  ·exact aj (j b e)
  ·exact ak e
 ·rintro b (rfl|e|e)
  ·exact h
  ·exact i b e
  ·exact j b e
theorem QM(base:Nat)(d:cN)(room:Int)(ws:List Wd)(nm:br)(M:aO)(ps:List Wd)(m pc:Nat)(pa:ar)(w:ag)(x:eh base d room ws nm M w)(C:base<=w.heap.size)(A:ws.length<=100000)(E:ps.length=m)(B:m<=1000)(t:∀w1,ch M w w1->fC w1 ps pa):ao 148 #[.pointer (some ⟨d.b,d.o+1,none⟩),ae pa m pc] w λe w'=>e=.returned (.agg #[ab 4,ab ws.length])/\Hid (mN base d room (ws++(0,(m:Int))::ps) nm M w w'):=by
 obtain⟨q,J,K,a,f,g,i,j,y,z⟩:=x;obtain⟨⟨L,u,N,O⟩,D⟩:=a.cells;obtain⟨l,n,F⟩:∃l n,q=ae l ws.length n:=by
  rcases f.2 with⟨e,v⟩|⟨Q,c,P,e,_⟩
  ·exact⟨none,0,by rw[e,v]⟩
  ·exact⟨_,c,e⟩
 subst E;refine(A3 base d.b (d.o+1) q l n ws.length ws ps ps.length pc pa w F rfl rfl A B C u (D _) a.lt (nZ f a (by decide)) f ?_).mono ?_
 ·intro w1 k;refine t w1 (k.mono ?_);rintro b (rfl|e)
  ·exact i
  ·exact j b e
 ·rintro e w' ⟨rfl,r,s⟩;obtain⟨G,H,p,I⟩:=s;refine⟨rfl,⟨r,J,K,(a.set1 r).kept H,?_,g.kept p ?_ ?_,aj i,?_,λb e=>aj (y b e),λb e=>aj (z b e)⟩,p.mono ?_⟩
  ·have e:(ws++(0,(ps.length:Int))::ps).length=ws.length+1+ps.length:=by simp;omega
   rw[e];exact G
  ·rintro b e (rfl|h)
   ·exact nZ g.1 a (by decide) e
   ·exact yI f g.1 (by decide) b h e
  ·rintro b e (rfl|h)
   ·exact uI g a e
   ·exact Gi f g b h e
  ·intro b e;rcases I b e with e|e
   ·exact aj (j b e)
   ·exact ak e
  ·rintro b (rfl|e)
   ·exact i
   ·exact j b e
theorem eh.inside{base:Nat}{f:cN}{room:Int}{ws:List Wd}{nm:br}{M:aO}{w:ag}(g:eh base f room ws nm M w):eh base f room ws nm (λb=>M b/\b<w.heap.size) w:=by
 obtain⟨o,m,n,d,e,c,h,i,j,k⟩:=g;refine⟨o,m,n,d,e,c,⟨h,d.lt⟩,λb a=>⟨i b a,(e.lt b a).2⟩,λb a=>⟨j b a,(c.1.lt b a).2⟩,λb a=>⟨k b a,?_⟩⟩;rcases c.2.2 with⟨rfl,_⟩|⟨q,p,rfl,_,l,_⟩
 ·simp[mapBlock]at a
 ·simp only[mapBlock]at a;obtain rfl:=az a;exact l.lt
theorem eh.later{base:Nat}{c:cN}{room:Int}{ws:List Wd}{nm:br}{M:aO}{w wA:ag}(a:eh base c room ws nm M w)(d:am w wA):eh base c room ws nm (λb=>M b/\b<w.heap.size) wA:=
 a.inside.kept (bu d (λ_=>False)) λ_ _ _ a=>a
theorem BV{base:Nat}{d:cN}{room:Int}{ws:List Wd}{nm:br}{M:aO}{w wA w2:ag}(a:mN base d room ws nm (λb=>M b/\b<w.heap.size) wA w2)(i:am w wA)(n:w.heap.size+2<=wA.heap.size)(v0 v1:au):mN base d room ws nm M w ((w2.setCell ⟨w.heap.size+1,0,none⟩ v0).setCell ⟨w.heap.size+1,1,none⟩ v1):=by
 obtain⟨f,g⟩:=a;have k:=bF w2 (w.heap.size+1) 0 v0;have l:=bF (w2.setCell ⟨w.heap.size+1,0,none⟩ v0) (w.heap.size+1) 1 v1;have e:=k.trans l (λb _ a=>a);refine⟨(f.kept e ?_).mono ?_,?_⟩
 ·rintro b (⟨_,c⟩|c) _ m
  ·omega
  ·omega
 ·rintro b (⟨j,_⟩|c)
  ·exact aj j
  ·exact ak (by omega)
 ·have h:ch (λb=>(M b/\b<w.heap.size)\/b=w.heap.size+1) wA _:=(g.mono (λb a=>aj a)).trans e (λb _ a=>ak a);refine(bu i M).trans h ?_;rintro b c (a|a)
  ·exact a.1
  ·omega
theorem vN{base:Nat}{f:cN}{room:Int}{ws:List Wd}{nm:br}{M:aO}{w wA w2:ag}(d:mN base f room ws nm (λb=>M b/\b<w.heap.size) wA w2):∀b,w.heap.size<=b->b<wA.heap.size->∀o,w2.cell? ⟨b,o,none⟩=wA.cell? ⟨b,o,none⟩/\w2.frozen? ⟨b,o,none⟩=wA.frozen? ⟨b,o,none⟩:=by
 intro b g e o;have c:=d.2.block b e (λd=>by omega);exact⟨bH c o,jI (a:=⟨b,o,none⟩) c⟩
theorem KL(f:cN)(k d:Int)(s:aq)(a:ar)(l c:Nat)(w:ag)(g:¬k=2)(h:¬k=4):ao 112 #[.pointer (some ⟨f.b,f.o,none⟩),.agg #[ab k,ab d,af s,ae a l c]] w λe w'=>e=.returned (.agg #[ab k,ab d])/\am w w':=by
 have i:(k==2)=false:=by simpa using g
 have j:(k==4)=false:=by simpa using h
 go_enter func112,ntmps112;go_wp2_with fail;exact ay (v:=.agg #[ab k,ab d]) (by simp[results,results112,go_sem]) rfl ⟨rfl,by go_grown⟩
theorem KK(base:Nat)(f:cN)(room:Int)(ws:List Wd)(nm:br)(M:aO)(p:Int)(s:aq)(a:ar)(l c:Nat)(w:ag)(t:Hid (eh base f room ws nm M w))(z:base<=w.heap.size)(u:nm.length<=100000)(x:s.size<=2048):ao 112 #[.pointer (some ⟨f.b,f.o,none⟩),.agg #[ab 2,ab p,af s,ae a l c]] w λe w'=>e=.returned (.agg #[ab 2,ab (lT (fh nm s) s:Int)])/\Hid (mN base f room ws (fh nm s) M w w'):=by
 generalize n:lT (fh nm s) s=j;go_enter func112,ntmps112;go_wp2_with fail;generalize i:(w.alloc (Obj.cells #[Value.int IntKind.i64 2,Value.int IntKind.i64 p,Value.string s,Value.slice a l c] 31)).alloc (Obj.cells #[Value.int IntKind.i64 0,Value.int IntKind.i64 0] 109)=wA;have d:Hid (am w wA.drew/\wA.drew.heap.size=w.heap.size+2):=by
  subst i;exact⟨((aS _ _).alloc (by simp) _).drew,by simp[World.drew]⟩
 have y:wA.cell? ⟨w.heap.size,2,none⟩=some (af s):=by subst i;simp[go_sem]
 have h:Hid ((wA.cell? ⟨w.heap.size+1,0,none⟩=some (ab 0)/\wA.cell? ⟨w.heap.size+1,1,none⟩=some (ab 0))/\wA.frozen? ⟨w.heap.size+1,0,none⟩=false/\wA.frozen? ⟨w.heap.size+1,1,none⟩=false):=by subst i;simp[Hid,go_sem]
 have q:Hid (ao 147 #[.pointer (some ⟨f.b,f.o+2,none⟩),af s] wA.drew λe w'=>e=.returned (ab j)/\Hid (mN base f room ws (fh nm s) (λb=>M b/\b<w.heap.size) wA.drew w')):=by
  have m:=NC base f room ws nm _ s wA.drew (t.later d.1) (by have:=d.2;omega) u x;rw[n]at m;exact m
 clear i n;go_region_held3 (λw'=>w'.cell? ⟨w.heap.size,2,none⟩=some (af s)) (go_keep) ((go_at_call 147;refine q.mono ?_;rintro e B ⟨rfl,k⟩;have g:=ap (vN k);have A:=λo=>(g w.heap.size (av _) (by have:=d.2;omega) o).1;have d0:=(g (w.heap.size+1) (by omega) (by have:=d.2;omega) 0).1.trans h.1.1;have d1:=(g (w.heap.size+1) (by omega) (by have:=d.2;omega) 1).1.trans h.1.2;have f0:=(g (w.heap.size+1) (by omega) (by have:=d.2;omega) 0).2.trans h.2.1;have f1:=(g (w.heap.size+1) (by omega) (by have:=d.2;omega) 1).2.trans h.2.2));have r:=ap (BV k d.1 (dT d.2.symm) (ab 2) (ab j));go_wp2_with fail;exact ay (v:=.agg #[ab 2,ab j]) (by simp[results,results112,go_sem,d0,d1]) rfl ⟨rfl,r⟩
def JE(x:Wd):au:=.agg #[ab x.1,ab x.2]
def PT(n:Nat):Prop:=∀(x:Tm n)(base:Nat)(a:cN)(room:Int)(ws:List Wd)(nm:br)(M:aO)(w:ag),eh base a room ws nm M w->In w.heap.size w n x->cD (λb=>¬M b) n x->base<=w.heap.size->aJ ⟨n,x⟩->ws.length+2*(aC n x).length<=99000->nm.length+(aC n x).length<=99000->
 ao 112 #[.pointer (some ⟨a.b,a.o,none⟩),dG n x] w λe w'=>e=.returned (JE (bk n x ws nm).1)/\Hid (mN base a room (bk n x ws nm).2.1 (bk n x ws nm).2.2 M w w')
def zo(n:Nat)(p:List (Tm n))(len base:Nat)(c:cN)(room:Int)(ws:List Wd)(nm:br)(M:aO)(g:Nat)(w a:ag)(k:Nat)(wr:ag):Prop:=
 wr.ownsRow g 109 2 (ae (some ⟨g,0,none⟩) len len) len (bq ((bV (bk n) (p.take k) ws nm).1++List.replicate (len-k) (0,0)))/\
 eh base c room (bV (bk n) (p.take k) ws nm).2.1 (bV (bk n) (p.take k) ws nm).2.2 (λb=>(M b/\b<w.heap.size)\/a.heap.size<=b) wr/\
 ch (λb=>(M b/\b<w.heap.size)\/b=g) a wr
theorem vW(n:Nat):(madeCells #[ab 0,ab 0] (n*2)).toList=bq (List.replicate n (0,0)):=by
 apply List.ext_getElem?;intro b;by_cases d:b<n*2
 ·obtain⟨k,a,e,rfl⟩:∃k a,a<2/\b=k*2+a:=⟨b / 2,b % 2,Nat.mod_lt _ (by decide),by omega⟩;have f:k<n:=by omega
  rw[jx _ k (0,0) (by simp[f]) a e];have c:(madeCells #[ab 0,ab 0] (n*2))[k*2+a]?=some ((#[ab 0,ab 0]:Array au)[(k*2+a) % 2]!):=by
   simp[madeCells,d]
  rw[nv,c,show (k*2+a) % 2=a by omega];have:a=0\/a=1:=by omega
  rcases this with rfl|rfl<;>rfl
 ·rw[eY (by simp[size_madeCells];omega),eY (by rw[cP];simp;omega)]
theorem ri:(l:List Wd)->(i:Nat)->(x:Wd)->i<l.length->((bq l).set (i*2) (ab x.1)).set (i*2+1) (ab x.2)=bq (l.set i x)
 | [],i,x,h=>by simp at h
 | y::l,0,x,_=>by simp[bq,qv]
 | y::l,i+1,x,h=>by
  have ih:=ri l i x (by simpa using h);have e:bq (y::l)=qv y++bq l:=rfl;have b:bq ((y::l).set (i+1) x)=qv y++bq (l.set i x):=rfl;have a:(qv y).length=2:=rfl;rw[e,b,<-ih];rw[iV _ _ (by rw[a];omega),iV _ _ (by rw[a];omega),a];rw[show (i+1)*2-2=i*2 by omega,show (i+1)*2+1-2=i*2+1 by omega]
theorem KN{n:Nat}{p:List (Tm n)}{len base:Nat}{i:cN}{room:Int}{ws:List Wd}{nm:br}{M:aO}{w w0:ag}{t0 t1 t2 t3:au}(d:eh base i room ws nm M w)(c:w0.ownsRow (w.heap.size+2) 109 2 (.slice (some ⟨((w.alloc (.cells #[t0,t1,t2,t3] 31)).alloc (.cells #[ab 0,ab 0] 109)).heap.size,0,none⟩) len len) len (madeCells (Value.agg #[ab 0,ab 0]).cells (len*2)).toList)(a:((w.alloc (.cells #[t0,t1,t2,t3] 31)).alloc (.cells #[ab 0,ab 0] 109)).grownBy w0 none):(zo n p len base i room ws nm M (w.heap.size+2) w w0 0 w0/\am w w0/\w.heap.size+2<w0.heap.size)/\w0.cell? ⟨w.heap.size,3,none⟩=some t3/\ (w0.cell? ⟨w.heap.size+1,0,none⟩=some (ab 0)/\w0.cell? ⟨w.heap.size+1,1,none⟩=some (ab 0))/\w0.frozen? ⟨w.heap.size+1,0,none⟩=false/\w0.frozen? ⟨w.heap.size+1,1,none⟩=false:=by
 have j:((w.alloc (.cells #[t0,t1,t2,t3] 31)).alloc (.cells #[ab 0,ab 0] 109)).heap.size=w.heap.size+2:=by simp
 rw[j]at c;have m:am w ((w.alloc (.cells #[t0,t1,t2,t3] 31)).alloc (.cells #[ab 0,ab 0] 109)):=(aS _ _).alloc (by simp) _;have f:Below (w.heap.size+2) ((w.alloc (.cells #[t0,t1,t2,t3] 31)).alloc (.cells #[ab 0,ab 0] 109)) w0:=⟨a.os,a.tape,a.output,a.size,λb e=>a.block b (by omega) (by simp)⟩;have e:=m.trans (f.mono (by omega));have g:=aw f;have h:=ig f;refine⟨⟨⟨?_,?_,ch.refl _ _⟩,e,(c.lt _ rfl).2⟩,?_,⟨?_,?_⟩,?_,?_⟩
 ·simp only[nD,bV,iy,Nat.sub_zero];have k:=vW len;have l:(Value.agg #[ab 0,ab 0]).cells= #[ab 0,ab 0]:=rfl;rw[l,k]at c;exact c
 ·simp only[nD,bV];exact(d.later e).mono λb d=>aj d
 ·rw[g _ _ (by omega)];simp[go_sem]
 ·rw[g _ _ (by omega)];simp[go_sem]
 ·rw[g _ _ (by omega)];simp[go_sem]
 ·rw[h _ _ (by omega)];simp[go_sem]
 ·rw[h _ _ (by omega)];simp[go_sem]
theorem pA{w:ag}{base g L c:Nat}{ws:List Wd}(b:w.ownsRow base 109 2 (ae (some ⟨g,0,none⟩) L c) L (bq ws)):∀j,w.frozen? ⟨g,j,none⟩=false:=by
 intro j;rcases b.2 with⟨d,_⟩|⟨l,cap,h,f,m,e,_⟩
 ·simp at d
 ·injection f with a i k;injection a with a;injection a with a _;subst a;simp[World.frozen?,e]
theorem zo.step{n:Nat}{p:List (Tm n)}{len base:Nat}{l:cN}{room:Int}{ws:List Wd}{nm:br}{M:aO}{g:Nat}{w d:ag}{k:Nat}{wr w1 w2:ag}(H:zo n p len base l room ws nm M g w d k wr)(G:w.heap.size<=g)(I:g<d.heap.size)(K:k<len)(L:p.length=len){x:Tm n}(A:p[k]?=some x)(i:am wr w1)(z:mN base l room (bk n x (bV (bk n) (p.take k) ws nm).2.1 (bV (bk n) (p.take k) ws nm).2.2).2.1 (bk n x (bV (bk n) (p.take k) ws nm).2.1 (bV (bk n) (p.take k) ws nm).2.2).2.2 (λb=>((M b/\b<w.heap.size)\/d.heap.size<=b)/\b<wr.heap.size) w1 w2):zo n p len base l room ws nm M g w d (k+1) ((w2.setCell ⟨g,k*2,none⟩ (ab (bk n x (bV (bk n) (p.take k) ws nm).2.1 (bV (bk n) (p.take k) ws nm).2.2).1.1)).setCell ⟨g,k*2+1,none⟩ (ab (bk n x (bV (bk n) (p.take k) ws nm).2.1 (bV (bk n) (p.take k) ws nm).2.2).1.2))/\ (w2.cell? ⟨g,k*2,none⟩=some (ab 0)/\w2.cell? ⟨g,k*2+1,none⟩=some (ab 0))/\w2.frozen? ⟨g,k*2,none⟩=false/\w2.frozen? ⟨g,k*2+1,none⟩=false:=by
 obtain⟨m,E,o⟩:=H;obtain⟨u,q⟩:=z;have J:g<wr.heap.size:=(m.lt g rfl).2;have N:=i.size;have O:=o.size;have r:bV (bk n) (p.take (k+1)) ws nm=((bV (bk n) (p.take k) ws nm).1++ [(bk n x (bV (bk n) (p.take k) ws nm).2.1 (bV (bk n) (p.take k) ws nm).2.2).1],(bk n x (bV (bk n) (p.take k) ws nm).2.1 (bV (bk n) (p.take k) ws nm).2.2).2):=by
  rw[dF,A];exact Hx _ _ _ _ _
 have s:(bV (bk n) (p.take k) ws nm).1.length=k:=by rw[ip,dK];omega
 have f:w2.ownsRow g 109 2 (ae (some ⟨g,0,none⟩) len len) len (bq ((bV (bk n) (p.take k) ws nm).1++List.replicate (len-k) (0,0))):=by
  refine eE (ez m i) q λb h=>?_;simp only[Value.ownBlock]at h;obtain rfl:=az h;omega
 generalize bV (bk n) (p.take k) ws nm=e at*;generalize bk n x e.2.1 e.2.2=c at*;have B:(e.1++List.replicate (len-k) (0,0))[k]?=some ((0,0):Wd):=by
  rw[dR (by omega),s,gu,List.getElem?_replicate];simp;omega
 have C:=bF w2 g (k*2) (ab c.1.1);have D:=bF (w2.setCell ⟨g,k*2,none⟩ (ab c.1.1)) g (k*2+1) (ab c.1.2);have t:=C.trans D (λb _ a=>a);refine⟨⟨?_,?_,?_⟩,jz f k (0,0) B,pA f _,pA f _⟩
 ·rw[r];have j:=jM (jM f (k*2) (ab c.1.1)) (k*2+1) (ab c.1.2);rw[ri _ k c.1 (by simp;omega)]at j;have es:(e.1++List.replicate (len-k) ((0,0):Wd)).set k c.1=(e.1++ [c.1])++List.replicate (len-(k+1)) (0,0):=by
   rw[iV _ _ (by omega)];have:len-k=(len-(k+1))+1:=by omega
   rw[this,List.replicate_succ];simp[s]
  rw[es]at j;exact j
 ·rw[r];refine(u.kept t ?_).mono ?_
  ·rintro b (⟨a,_⟩|a) _ h<;>omega
  ·rintro b (⟨a,_⟩|a)
   ·exact a
   ·exact ak (by omega)
 ·have v:ch (λb=>(M b/\b<w.heap.size)\/b=g) d w1:=o.trans (bu i (λ_=>False)) (λ_ _ a=>a.elim)
  have y:ch (λb=>(M b/\b<w.heap.size)\/b=g) d w2:=v.trans q (λb F a=>by
   rcases a.1 with a|a
   ·exact aj a
   ·omega)
  exact y.trans t (λb _ a=>ak a)
theorem KO{n:Nat}{p:List (Tm n)}{len base:Nat}{q:cN}{room:Int}{ws:List Wd}{nm:br}{M:aO}{g:Nat}{w d:ag}{k:Nat}{wr:ag}(H:zo n p len base q room ws nm M g w d k wr)(t:w.heap.size<g)(u:g<d.heap.size)(h:am w d){b o:Nat}(i:b<w.heap.size)(m:¬M b){x:Tm n}(l:dH w b o n x)(e:In w.heap.size w n x)(f:cD (λb=>¬M b) n x):dH wr b o n x/\In w.heap.size wr n x/\cD (λb=>¬(((M b/\b<w.heap.size)\/d.heap.size<=b)/\b<wr.heap.size)) n x:=by
 have j:∀a,¬M a/\a<w.heap.size->wr.heap[a]?=d.heap[a]? :=λa r=>H.2.2.block a (by omega) (by rintro (c|c);exact r.1 c.1;omega);refine⟨(l.below h i).block (j b ⟨m,i⟩),In.off j (In.offB f e) (e.below h),(In.offB f e).mono ?_⟩;rintro a ⟨s,v⟩ ⟨c|c,_⟩
 ·exact s c.1
 ·omega
theorem KM{n:Nat}{p:List (Tm n)}{len base:Nat}{f:cN}{room:Int}{ws:List Wd}{nm:br}{M:aO}{g:Nat}{w e:ag}{wr:ag}(H:zo n p len base f room ws nm M g w e len wr)(E:p.length=len)(C:g=w.heap.size+2)(D:g<e.heap.size)(m:am w e):eh base f room (bV (bk n) p ws nm).2.1 (bV (bk n) p ws nm).2.2 (λb=>((M b/\b<w.heap.size)\/e.heap.size<=b)) wr/\(∀w1,ch (λb=>((M b/\b<w.heap.size)\/e.heap.size<=b)) wr w1->fC w1 (bV (bk n) p ws nm).1 (some ⟨g,0,none⟩))/\ (∀o,wr.cell? ⟨w.heap.size+1,o,none⟩=e.cell? ⟨w.heap.size+1,o,none⟩/\wr.frozen? ⟨w.heap.size+1,o,none⟩=e.frozen? ⟨w.heap.size+1,o,none⟩)/\ ∀k j w2,mN base f room k j (λb=>((M b/\b<w.heap.size)\/e.heap.size<=b)) wr w2-> (∀o,w2.cell? ⟨w.heap.size+1,o,none⟩=wr.cell? ⟨w.heap.size+1,o,none⟩/\w2.frozen? ⟨w.heap.size+1,o,none⟩=wr.frozen? ⟨w.heap.size+1,o,none⟩)/\ ∀v0 v1,mN base f room k j M w ((w2.setCell ⟨w.heap.size+1,0,none⟩ v0).setCell ⟨w.heap.size+1,1,none⟩ v1):=by
 obtain⟨h,l,i⟩:=H;rw[bD (by omega)]at h l;rw[gu,nC,dQ]at h;have F:=i.size;refine⟨l,λw1 x=>ak ⟨_,rfl,λy B v=>?_⟩,λo=>?_,λk j w2 q=>⟨λo=>?_,λv0 v1=>?_⟩⟩
 ·have:=(eE h x (λb d=>by
    simp only[Value.ownBlock]at d;obtain rfl:=az d
    omega)).cells (g:=g) rfl y B v
  exact this
 ·have d:=i.block (w.heap.size+1) (by omega) (by omega);exact⟨bH d o,jI (a:=⟨w.heap.size+1,o,none⟩) d⟩
 ·have d:=q.2.block (w.heap.size+1) (by omega) (by omega);exact⟨bH d o,jI (a:=⟨w.heap.size+1,o,none⟩) d⟩
 ·obtain⟨t,u⟩:=q;have z:=bF w2 (w.heap.size+1) 0 v0;have A:=bF (w2.setCell ⟨w.heap.size+1,0,none⟩ v0) (w.heap.size+1) 1 v1;have s:=z.trans A (λb _ c=>c);refine⟨(t.kept s ?_).mono ?_,?_⟩
  ·rintro b (c|c) _ d<;>omega
  ·rintro b ((c|c)|c)
   ·exact aj c.1
   ·exact ak (by omega)
   ·exact ak (by omega)
  ·refine(((bu m M).trans i ?_).trans u ?_).trans s ?_
   ·rintro b r (c|c)
    ·exact c.1
    ·omega
   ·rintro b r (c|c)
    ·exact c.1
    ·have:=m.size;omega
   ·intro b r c;omega
theorem vP(n:Nat)(l:List (Tm n))(ws:List Wd)(nm:br):(bV (bk n) l ws nm).2.1.length<=ws.length+2*(l.flatMap λy=>aC n y).length/\(bV (bk n) l ws nm).2.2.length<=nm.length+(l.flatMap λy=>aC n y).length:=by
 induction l generalizing ws nm with
 | nil=>simp[bV]
 | cons y l ih=>
  obtain⟨a,b⟩:=jn n y ws nm;obtain⟨d,e⟩:=ih (bk n y ws nm).2.1 (bk n y ws nm).2.2;have c:=(ft n y).2;simp only[bV,bP,bz];exact⟨by omega,by omega⟩
theorem BX(n:Nat)(p:List (Tm n))(k:Nat)(x:Tm n)(d:p[k]?=some x):((p.take k).flatMap λy=>aC n y).length+(aC n x).length<=(p.flatMap λy=>aC n y).length:=by
 have b:=aZ.1 d;obtain⟨c,rfl⟩:=b;have a:p=p.take k++p[k]::p.drop (k+1):=by
  rw[<-eX c,iA]
 conv=>rhs;rw[a]
 simp only[lk,bP,bz];omega
theorem Nr(n:Nat)(ih:PT n)(base:Nat)(d:cN)(room:Int)(ws:List Wd)(nm:br)(M:aO)(ah:Int)(s:aq)(a:ar)(len pc:Nat)(p:List (Tm n))(C:Hid (p.length=len))(w:ag)(Z:Hid (eh base d room ws nm M w))(aB:len<=8)(av:base<=w.heap.size)(F:Hid (p=[]\/∃b o,a=some ⟨b,o,none⟩/\b<w.heap.size/\¬M b/\∀(i:Nat)(y:Tm n),p[i]?=some y->dH w b (o+i*4) n y/\In w.heap.size w n y/\cD (λb=>¬M b) n y))(R:Hid (∀y∈p,aJ ⟨n,y⟩))(G:Hid (ws.length+2*(p.flatMap λy=>aC n y).length<=99000))(O:Hid (nm.length+(p.flatMap λy=>aC n y).length<=99000)):ao 112 #[.pointer (some ⟨d.b,d.o,none⟩),.agg #[ab 4,ab ah,af s,ae a len pc]] w λe w'=>e=.returned (JE (4,((bV (bk n) p ws nm).2.1.length:Int)))/\Hid (mN base d room ((bV (bk n) p ws nm).2.1++(0,(len:Int))::(bV (bk n) p ws nm).1) (bV (bk n) p ws nm).2.2 M w w'):=by
 obtain⟨ad,K,S,T,U⟩:=bY lO;go_enter func112,ntmps112;go_wp2_with (at_make;refine lD _ rfl _ _ 100 rfl (w.heap.size+2) 109 ad _ 2 underlying100 K S T _ _ _ _ len rfl rfl rfl rfl (by rw[U];omega) (by unfold maxLen;omega) (by simp) ?_;intro u P J;have j:=ap (KN (p:=p) Z P J);have an:=j.2.1;clear P J);clear K S T U;obtain⟨c,B⟩:∃c,w.heap.size+1+1=c:=⟨_,rfl⟩;have H:Hid (zo n p len base d room ws nm M c w u 0 u):=by subst B;exact j.1.1
 have E:c<u.heap.size:=by subst B;exact j.1.2.2
 rw[B];go_loopw [28] (λi wr=>∃k:Nat,k<=len/\i=ab k/\Hid (zo n p len base d room ws nm M c w u k wr)) (λi _=>len-(intOf i).toNat)
 case atStart=>exact⟨0,by omega,rfl,H⟩
 case round=>
  clear H;obtain⟨k,ax,rfl,f⟩:=hrel;by_cases L:k<len
  ·obtain⟨x,l⟩:∃x,p[k]?=some x:=⟨p[k]'(by rw[C.out];exact L),aN _⟩;obtain⟨b,o,rfl,aa,N,Q⟩:∃b o,a=some ⟨b,o,none⟩/\b<w.heap.size/\¬M b/\∀(i:Nat)(y:Tm n),p[i]?=some y->dH w b (o+i*4) n y/\In w.heap.size w n y/\cD (λb=>¬M b) n y:=by
    rcases F.out with e|e
    ·rw[e]at l;simp at l
    ·exact e
   obtain⟨V,W,X⟩:=Q k x l;obtain⟨y1,y2,Y⟩:=KO f (by omega) E j.1.2.1 aa N V W X;have aw:c<wr.heap.size:=(f.1.lt c rfl).2;have aG:=f.2.2.size;cases n with
   | zero=>exact y1.elim
   | succ n=>
   obtain⟨t,m⟩:∃t:Wd,Hid (∀D,am wr D->ao 112 #[.pointer (some ⟨d.b,d.o,none⟩),.agg #[ab x.1.1,ab x.1.2.1,af x.1.2.2,ae x.2.1.1 x.2.2.length x.2.1.2]] D λe g=>e=.returned (.agg #[ab t.1,ab t.2])/\
       Hid (zo (n+1) p len base d room ws nm M c w u (k+1) ((g.setCell ⟨c,k*2,none⟩ (ab t.1)).setCell ⟨c,k*2+1,none⟩ (ab t.2))/\
        (g.cell? ⟨c,k*2,none⟩=some (ab 0)/\g.cell? ⟨c,k*2+1,none⟩=some (ab 0))/\g.frozen? ⟨c,k*2,none⟩=false/\g.frozen? ⟨c,k*2+1,none⟩=false)):=by
    refine⟨(bk (n+1) x (bV (bk (n+1)) (p.take k) ws nm).2.1 (bV (bk (n+1)) (p.take k) ws nm).2.2).1,λD A=>?_⟩;have aH:=vP (n+1) (p.take k) ws nm;have aI:=BX (n+1) p k x l;have aF:=G.out;have aD:=O.out;have aE:=A.size;refine(ih x base d room _ _ _ D (f.2.1.later A) ((y2.below (A.mono (by omega))).mono (by omega)) Y (by omega) (R x (aL l)) (by omega) (by omega)).mono ?_;rintro e g ⟨rfl,z⟩;exact⟨rfl,f.step (by omega) E L C l A z⟩
   obtain⟨ai,aj,ak,al⟩:=y1;clear ih f F Q V W X y2 Y l N G O R;generalize x.2.2.length=aK at*;have az:(0:Int)<=(k:Int):=by omega
   have aA:(k:Int)<(len:Int):=by omega
   have au:b<wr.heap.size:=by omega
   go_wp2_with fail;refine(m _ (aS _ _)).mono ?_;rintro e g ⟨rfl,I⟩;obtain⟨⟨d0,d1⟩,f0,f1⟩:=I.out.2;clear m ai aj ak al;go_wp2_with fail;go_roundw
   case rel=>exact⟨k+1,by omega,by go_num,I.1⟩
   case measure=>simp[intOf];omega
  ·obtain rfl:k=len:=by omega
   have h:=ap (KM f C B.symm E j.1.2.1)
   have m:Hid (ao 148 #[.pointer (some ⟨d.b,d.o+1,none⟩),ae (some ⟨c,0,none⟩) k k] wr λe w'=>e=.returned (.agg #[ab 4,ab (bV (bk n) p ws nm).2.1.length])/\Hid (mN base d room ((bV (bk n) p ws nm).2.1++(0,(k:Int))::(bV (bk n) p ws nm).1) (bV (bk n) p ws nm).2.2 _ wr w')):=
    QM base d room (bV (bk n) p ws nm).2.1 (bV (bk n) p ws nm).2.2 _ (bV (bk n) p ws nm).1 k k (some ⟨c,0,none⟩) wr h.1 (by have:=f.2.2.size;omega) (by have:=(vP n p ws nm).1;have:=G.out;omega) (by rw[ip];exact C) (by omega) h.2.1
   have r:=j.2.2;clear f j ih F;go_wp2_with fail;refine m.mono ?_;rintro e g ⟨rfl,z⟩;have q:=ap (h.2.2.2 _ _ g z);have d0:=((q.1 0).1.trans (h.2.2.1 0).1).trans r.1.1;have d1:=((q.1 1).1.trans (h.2.2.1 1).1).trans r.1.2;have f0:=((q.1 0).2.trans (h.2.2.1 0).2).trans r.2.1;have f1:=((q.1 1).2.trans (h.2.2.1 1).2).trans r.2.2;clear m h z r;go_wp2_with fail;exact ay (v:=.agg #[ab 4,ab ((bV (bk n) p ws nm).2.1.length:Int)]) (by simp[results,results112,go_sem,d0,d1]) rfl ⟨rfl,q.2 _ _⟩
theorem Hw{base:Nat}{c:cN}{room:Int}{ws:List Wd}{nm:br}{M:aO}{w w':ag}(a:eh base c room ws nm M w)(b:am w w'):mN base c room ws nm M w w':=
 ⟨(a.later b).mono λ_ a=>aj a.1,bu b M⟩
theorem Nq(n:Nat):PT n:=by
 induction n with
 | zero=>intro x s m room c a r p _ v;exact v.elim
 | succ n ih=>
  intro x s m room c a r p t v j y A O J;have H:=v;obtain⟨⟨Q,R,N,M,L⟩,g⟩:=H;have z:=A (bO n x) (by simp[aC,bO]);have F:x.2.2.length<=8:=mW (bO n x) z;have G:x.1.2.2.size<=2048:=by have:=sY (bO n x) z;simp only[bO]at this;omega
  have K:(aC (n+1) x).length=1+(x.2.2.flatMap λe=>aC n e).length:=by simp[aC];omega
  by_cases f:x.1.1=2
  ·have d:bk (n+1) x c a=((2,(lT (fh a x.1.2.2) x.1.2.2:Int)),c,fh a x.1.2.2):=by simp only[bk,if_pos f]
   rw[d];have i:=KK s m room c a r x.1.2.1 x.1.2.2 x.2.1.1 x.2.2.length x.2.1.2 p t y (by omega) G;rw[<-f]at i;refine i.mono ?_;rintro d B ⟨rfl,q⟩;exact⟨by rw[f];rfl,q⟩
  ·by_cases h:x.1.1=4
   ·have d:bk (n+1) x c a=((4,((bV (bk n) x.2.2 c a).2.1.length:Int)),(bV (bk n) x.2.2 c a).2.1++(0,(x.2.2.length:Int))::(bV (bk n) x.2.2 c a).1,(bV (bk n) x.2.2 c a).2.2):=by simp only[bk,if_neg f,if_pos h]
    rw[d];have i:=Nr n ih s m room c a r x.1.2.1 x.1.2.2 x.2.1.1 x.2.2.length x.2.1.2 x.2.2 rfl p t F y ?_ (λe k=>bj n x e A k) (by unfold Hid;omega) (by unfold Hid;omega)
    ·rw[<-h]at i;refine i.mono ?_;rintro d B ⟨rfl,q⟩;exact⟨by rw[h],q⟩
    ·rcases g with g|⟨b,o,d,u,g⟩
     ·exact aj g
     ·rcases j with j|⟨I,P,l,E,j⟩
      ·exact aj j
      ·rw[d]at l;injection l with l;injection l with C D;subst C D;exact ak ⟨b,o,d,u,E,λw e k=>⟨(g w e k).1,(g w e k).2,j w e k⟩⟩
   ·have d:bk (n+1) x c a=((x.1.1,x.1.2.1),c,a):=by simp only[bk,if_neg f,if_neg h]
    rw[d];refine(KL m x.1.1 x.1.2.1 x.1.2.2 x.2.1.1 x.2.2.length x.2.1.2 p f h).mono ?_;rintro d B ⟨rfl,u⟩;exact⟨rfl,Hw t u⟩
def ei(ws:List Wd)(nm:br):(n:Nat)->Tm n->Wd->Prop
 | 0,_,_=>False
 | n+1,x,v=>(x.1.1=2->∃i:Nat,v=(2,(i:Int))/\nm[i]?=some x.1.2.2)/\
    (x.1.1=4->∃p:Nat,v=(4,(p:Int))/\ws[p]?=some (0,(x.2.2.length:Int))/\p+1+x.2.2.length<=ws.length/\∀(i:Nat)(y:Tm n),x.2.2[i]?=some y->∃a,ws[p+1+i]?=some a/\ei ws nm n y a)/\
    (x.1.1≠2->x.1.1≠4->v=(x.1.1,x.1.2.1))
def fk(w:ag)(vs:List Wd)(a:ar):Prop:=vs=[]\/∃b o,a=some ⟨b,o,none⟩/\b<w.heap.size/\∀(i:Nat)(v:Wd),vs[i]?=some v->w.cell? ⟨b,o+i*2,none⟩=some (ab v.1)/\w.cell? ⟨b,o+i*2+1,none⟩=some (ab v.2)
def QA(n:Nat):Prop:=∀(x:Tm n)(v:Wd)(base:Nat)(a:cN)(room:Int)(ws:List Wd)(nm:br)(M:aO)(w:ag),eh base a room ws nm M w->ws.length<=100000->nm.length<=100000->ei ws nm n x v->aJ ⟨n,x⟩->
 ao 140 #[.pointer (some ⟨a.b,a.o,none⟩),JE v] w λe w'=>∃y:Tm n,e=.returned (dG n y)/\Hid (am w w'/\In w'.heap.size w' n y/\cD (λq=>w.heap.size<=q) n y/\aB n y n x=true)
def rq(q:Nat)(w:ag):Prop:=w.heap[q]?=some (.cells #[ab 0,ab 0,af .empty,ae none 0 0] 31)
theorem rq.kept{q:Nat}{w w':ag}(a:rq q w)(k:w'.heap[q]?=w.heap[q]?):rq q w':=k.trans a
theorem rq.cells{q:Nat}{w:ag}(a:rq q w):(w.cell? ⟨q,0,none⟩=some (ab 0)/\w.cell? ⟨q,1,none⟩=some (ab 0)/\w.cell? ⟨q,2,none⟩=some (af .empty)/\w.cell? ⟨q,3,none⟩=some (ae none 0 0))/\∀j,w.frozen? ⟨q,j,none⟩=false:=by
 unfold rq at a;refine⟨⟨?_,?_,?_,?_⟩,λj=>?_⟩
 all_goals simp[World.cell?,World.frozen?,a]
theorem L7{n:Nat}{p:List (Tm n)}{len:Nat}{w w0:ag}(f:w0.ownsRow (w.heap.size+1) 31 4 (.slice (some ⟨(w.alloc (.cells #[ab 0,ab 0,af .empty,ae none 0 0] 31)).heap.size,0,none⟩) len len) len (madeCells (Value.agg #[ab 0,ab 0,af .empty,ae none 0 0]).cells (len*4)).toList)(a:(w.alloc (.cells #[ab 0,ab 0,af .empty,ae none 0 0] 31)).grownBy w0 none):am w w0/\uS n p len (w.heap.size+1) 0 [] w0/\rq w.heap.size w0:=by
 have c:(w.alloc (.cells #[ab 0,ab 0,af .empty,ae none 0 0] 31)).heap.size=w.heap.size+1:=by simp
 have g:am w (w.alloc (.cells #[ab 0,ab 0,af .empty,ae none 0 0] 31)):=aS _ _;have d:Below (w.heap.size+1) (w.alloc (.cells #[ab 0,ab 0,af .empty,ae none 0 0] 31)) w0:=⟨a.os,a.tape,a.output,a.size,λb h=>a.block b (by omega) (by simp)⟩;have e:=rK (w:=w.alloc (.cells #[ab 0,ab 0,af .empty,ae none 0 0] 31)) n p len (by rw[c]at f ⊢;exact f);rw[c]at e;exact⟨g.trans (d.mono (by omega)),e,(d.block _ (by omega)).trans (aD w _)⟩
theorem uS.end{n:Nat}{p:List (Tm n)}{len g:Nat}{l:List (Tm n)}{w wr:ag}(r:uS n p len g len l wr)(A:p.length=len)(z:g=w.heap.size+1)(c:am w wr)(t:len<=maxLen):∀v0 v1 v2 v3,il n p w (df wr w.heap.size 0 v0 v1 v2 v3) (some ⟨g,0,none⟩) len l:=by
 intro v0 v1 v2 v3;obtain⟨y,e,i,j⟩:=r;rw[bD (by omega)]at j;rw[gu,nC,dQ]at e;refine⟨⟨c.os,c.tape,c.output,aF c.size (dT (bG _ _ _ _).symm),λh f=>(bm (by omega) _ _ _ _).trans (c.block h f)⟩,by omega,by omega,t,j,ak ⟨g,0,rfl,⟨by omega,rfl,λv=>?_,λa d=>(i a d).2.mono λh f=>by omega⟩,by rw[bG];exact e.lt.2,λu a d=>?_⟩⟩
 ·have k:=e.free v;unfold World.frozen? at k ⊢;rw[bm (w:=wr) (g:=w.heap.size) (b:=g) (o:=0) (by omega) v0 v1 v2 v3];exact k
 have s:=e.cells u ⟨n,a⟩ (by simp[d]);have m:=(i a (aL d)).1;have q:=(i a (aL d)).2;refine⟨?_,?_,q.mono λh f=>by omega⟩
 ·cases n with
  | zero=>exact m.elim
  | succ n=>
   rw[cT];exact dH.block (bm (by omega) _ _ _ _) (n:=n+1) (x:=a) s
 ·rw[bG];exact In.off (λh f=>bm (by omega) _ _ _ _) q m
theorem AO(n:Nat)(ih:QA n)(base:Nat)(m:cN)(room:Int)(ws:List Wd)(nm:br)(M:aO)(a:ar)(len pc:Nat)(p:List (Tm n))(vs:List Wd)(Y:Hid (p.length=len))(aA:Hid (vs.length=len))(w:ag)(Q:Hid (eh base m room ws nm M w))(aX:len<=8)(ak:Hid (ws.length<=100000))(W:Hid (nm.length<=100000))(U:Hid (fk w vs a))(aa:Hid (∀(i:Nat)(y:Tm n)(v:Wd),p[i]?=some y->vs[i]?=some v->ei ws nm n y v))(Z:Hid (∀y∈p,aJ ⟨n,y⟩)):ao 177 #[.pointer (some ⟨m.b,m.o,none⟩),ae a len pc] w λe w'=>∃N O l,e=.returned (.agg #[ab 4,ab 0,af .empty,ae N len O])/\Hid (il n p w w' N O l):=by
 obtain⟨aC,V,ad,ah,ai⟩:=bY gO;go_enter func177,ntmps177;go_wp2_with (at_make;refine lD _ rfl _ _ 29 rfl (w.heap.size+1) 31 aC _ 4 underlying29 V ad ah _ _ _ _ len rfl rfl rfl rfl (by rw[ai];omega) (by unfold maxLen;omega) (by simp) ?_;intro F X T;have A:=ap (L7 (p:=p) X T);clear X T);clear V ad ah ai;obtain⟨d,S⟩:∃d,w.heap.size+1=d:=⟨_,rfl⟩;rw[S]at A ⊢;obtain⟨an,J,L⟩:Hid (am w F)/\Hid (uS n p len d 0 [] F)/\Hid (rq w.heap.size F):=A.out;clear A;go_loopw [13] (λi wr=>∃k:Nat,k<=len/\i=ab k/\Hid (am w wr/\rq w.heap.size wr/\∃l,uS n p len d k l wr)) (λi _=>len-(intOf i).toNat)
 case atStart=>exact⟨0,by omega,rfl,an,L,[],J⟩
 case round=>
  clear J L;obtain⟨k,aU,rfl,K⟩:=hrel;obtain⟨f,s,l,g⟩:Hid (am w wr)/\Hid (rq w.heap.size wr)/\∃l,Hid (uS n p len d k l wr):=K.out;clear K;by_cases B:k<len
  ·obtain⟨x,t⟩:∃x,p[k]?=some x:=⟨p[k]'(by rw[Y.out];exact B),aN _⟩;obtain⟨v,r⟩:∃v,vs[k]?=some v:=⟨vs[k]'(by rw[aA.out];exact B),aN _⟩;obtain⟨b,o,rfl,R,aj⟩:∃b o,a=some ⟨b,o,none⟩/\b<w.heap.size/\∀(i:Nat)(v:Wd),vs[i]?=some v->w.cell? ⟨b,o+i*2,none⟩=some (ab v.1)/\w.cell? ⟨b,o+i*2+1,none⟩=some (ab v.2):=by
    rcases U.out with e|e
    ·rw[e]at r;simp at r
    ·exact e
   obtain⟨D,E⟩:=aj k v r;replace D:=(aw f b (o+k*2) R).trans D;replace E:=(aw f b (o+k*2+1) R).trans E;have az:=ap t;have aT:d<wr.heap.size:=g.2.1.lt.2
   have H:Hid (∀(c:ag),am wr c->ao 140 #[.pointer (some ⟨m.b,m.o,none⟩),.agg #[ab v.1,ab v.2]] c λe w'=>∃y:Tm n,e=.returned (dG n y)/\Hid (am c w'/\In w'.heap.size w' n y/\cD (λu=>c.heap.size<=u) n y/\aB n y n x=true)):=
    λc h=>ih x v base m room ws nm _ c (Q.later (f.trans (h.mono f.size))) ak W (aa k x v t r) (Z x (aL t))
   clear ih t r aj U aa Z Q ak W;have aV:(0:Int)<=(k:Int):=by omega
   have aW:(k:Int)<(len:Int):=by omega
   have aY:b<wr.heap.size:=by omega
   go_wp2_with fail;refine(H _ (aS _ _)).mono ?_;rintro e c ⟨y,rfl,j⟩;have q:Hid (am wr c):=(aS _ _).trans (j.1.mono (by simp));have ax:=ap (g.step B x az q y j.2.1 (j.2.2.1.mono λu C=>by simp at C;omega) j.2.2.2);have z:=ap (g.2.1.below q);have I:=j.2.1;cases n with
   | zero=>exact I.elim
   | succ n=>
   clear I;have aq:Hid (am w (jT c d (k*4) (gK (n+1) y))):=by
    have h:=f.trans (q.mono f.size);exact⟨h.os,h.tape,h.output,aF h.size (dT (bG _ _ _ _).symm),λu C=>(bm (by omega) _ _ _ _).trans (h.block u C)⟩
   have au:Hid (rq w.heap.size (jT c d (k*4) (gK (n+1) y))):=s.kept ((bm (by omega) _ _ _ _).trans (q.block _ (by omega)));obtain⟨G,al⟩:∃G,(l.map (λx=>(⟨n+1,x⟩:An))++List.replicate (len-k) zA)[k]?=some G:=⟨_,aN (by simp[g.out.1];omega)⟩;obtain⟨aK,aM,aP,aQ⟩:=z.out.cells k G al;have aR:=λaD=>z.free aD;have P:dG (n+1) y=.agg #[ab y.1.1,ab y.1.2.1,af y.1.2.2,ae y.2.1.1 y.2.2.length y.2.1.2]:=rfl;rw[P];clear H g f j q z s D E al P;go_wp2_with fail;go_roundw
   case rel=>exact⟨k+1,by omega,by go_num,aq,au,l++ [y],ax⟩
   case measure=>simp[intOf];omega
  ·obtain rfl:k=len:=by omega
   have av:=ap (g.end Y S.symm f (by unfold maxLen;omega));obtain⟨⟨aE,aG,aH,aI⟩,f0⟩:=s.out.cells;clear g ih s;go_wp2_with fail;exact ay (v:=.agg #[ab 4,ab 0,af .empty,ae (some ⟨d,0,none⟩) k k]) (by simp[results,results177,go_sem,aE,aG,aH,aI];rfl) rfl ⟨_,_,l,rfl,av _ _ _ _⟩
theorem zx{w wA w2:ag}(b:am w wA)(c:am wA w2)(v0 v1 v2 v3:au):am w (df w2 (w.heap.size+1) 0 v0 v1 v2 v3):=by
 have a:=b.trans (c.mono b.size);exact⟨a.os,a.tape,a.output,aF a.size (dT (bG _ _ _ _).symm),λe d=>(bm (by omega) _ _ _ _).trans (a.block e d)⟩
theorem I9(c:cN)(k a:Int)(w:ag)(d:¬k=2)(f:¬k=4):ao 140 #[.pointer (some ⟨c.b,c.o,none⟩),.agg #[ab k,ab a]] w λe w'=>e=.returned (.agg #[ab k,ab a,af .empty,ae none 0 0])/\am w w':=by
 have g:(k==2)=false:=by simpa using d
 have h:(k==4)=false:=by simpa using f
 go_enter func140,ntmps140;go_wp2_with fail;exact ay (v:=.agg #[ab k,ab a,af .empty,ae none 0 0]) (by simp[results,results140,go_sem];rfl) rfl ⟨rfl,by go_grown⟩
theorem I8(base:Nat)(a:cN)(room:Int)(ws:List Wd)(nm:br)(M:aO)(i:Nat)(s:aq)(w:ag)(m:Hid (eh base a room ws nm M w))(q:nm.length<=100000)(r:Hid (nm[i]?=some s))(t:s.size<=2048):ao 140 #[.pointer (some ⟨a.b,a.o,none⟩),.agg #[ab 2,ab i]] w λe w'=>e=.returned (.agg #[ab 2,ab 0,af s,ae none 0 0])/\am w w':=by
 go_enter func140,ntmps140;go_wp2_with fail;generalize f:(w.alloc (Obj.cells #[Value.int IntKind.i64 2,Value.int IntKind.i64 i] 109)).alloc (Obj.cells #[ab 0,ab 0,af ⟨#[]⟩,ae none 0 0] 31)=wA;have c:Hid (am w wA.drew/\wA.drew.heap.size=w.heap.size+2):=by
  subst f;exact⟨((aS _ _).alloc (by simp) _).drew,by simp[World.drew]⟩
 have D:wA.cell? ⟨w.heap.size,1,none⟩=some (ab i):=by subst f;simp[go_sem]
 have l:Hid (rq (w.heap.size+1) wA.drew):=by
  subst f;have:=aD (w.alloc (Obj.cells #[Value.int IntKind.i64 2,Value.int IntKind.i64 i] 109)) (Obj.cells #[ab 0,ab 0,af ⟨#[]⟩,ae none 0 0] 31);have es:∀o,(w.alloc o).heap.size=w.heap.size+1:=λo=>by simp
  rw[es]at this;exact this
 have j:Hid (ao 176 #[.pointer (some ⟨a.b,a.o+2,none⟩),ab i] wA.drew λe w'=>e=.returned (af s)/\Below wA.drew.heap.size wA.drew w'):=by
  obtain⟨C,u,x,n,E,p,_⟩:=m.later c.1;exact Eo base a room C u x nm i s wA.drew n p.1 r q t
 clear f;go_region_held3 (λw'=>w'.cell? ⟨w.heap.size,1,none⟩=some (ab i)) (go_keep) ((go_at_call 176;refine j.mono ?_;rintro e G ⟨rfl,d⟩;have g:=ap d;have F:=λo=>aw d w.heap.size o (by have:=c.2;omega);have h:=ap (l.kept (d.block _ (by have:=c.2;omega)));obtain⟨⟨y,z,A,B⟩,f0⟩:=h.cells;clear d));have k:=ap (zx c.1 g (ab 2) (ab 0) (af s) (ae none 0 0));go_wp2_with fail;exact ay (v:=.agg #[ab 2,ab 0,af s,ae none 0 0]) (by simp[results,results140,go_sem,y,z,A,B]) rfl ⟨rfl,k⟩
theorem FB(g o j:Nat):(⟨g,o,none⟩:Addr).add j=⟨g,o+j,none⟩:=by
 unfold Addr.add;by_cases a:j=0<;>simp[a]
theorem Dn{w:ag}{vs:List Wd}{g o:Nat}(d:fC w vs (some ⟨g,o,none⟩))(h:g<w.heap.size):fk w vs (some ⟨g,o,none⟩):=by
 rcases d with d|⟨ad,c,e⟩
 ·exact aj d
 ·injection c with c;subst c;refine ak ⟨g,o,rfl,h,λa b f=>⟨?_,?_⟩⟩
  ·have:=e (a*2+0) (ab b.1) (by rw[jx vs a b f 0 (by omega)];rfl);rw[FB]at this;exact this
  ·have:=e (a*2+1) (ab b.2) (by rw[jx vs a b f 1 (by omega)];rfl);rw[FB]at this;exact this
theorem LY(n:Nat)(ih:QA n)(base:Nat)(a:cN)(room:Int)(ws:List Wd)(nm:br)(M:aO)(k len:Nat)(p:List (Tm n))(L:Hid (p.length=len))(w:ag)(G:Hid (eh base a room ws nm M w))(aj:len<=8)(D:Hid (ws.length<=100000))(K:Hid (nm.length<=100000))(J:Hid (ws[k]?=some (0,(len:Int))))(C:Hid (k+1+len<=ws.length))(O:Hid (∀(i:Nat)(y:Tm n),p[i]?=some y->∃E,ws[k+1+i]?=some E/\ei ws nm n y E))(N:Hid (∀y∈p,aJ ⟨n,y⟩)):ao 140 #[.pointer (some ⟨a.b,a.o,none⟩),.agg #[ab 4,ab k]] w λe w'=>∃g h l,e=.returned (.agg #[ab 4,ab 0,af .empty,ae g len h])/\Hid (il n p w w' g h l):=by
 go_enter func140,ntmps140;go_wp2_with fail;generalize u:(w.alloc (Obj.cells #[Value.int IntKind.i64 4,Value.int IntKind.i64 k] 109)).alloc (Obj.cells #[ab 0,ab 0,af ⟨#[]⟩,ae none 0 0] 31)=wA;have m:Hid (am w wA.drew/\wA.drew.heap.size=w.heap.size+2):=by
  subst u;exact⟨((aS _ _).alloc (by simp) _).drew,by simp[World.drew]⟩
 have X:wA.cell? ⟨w.heap.size,1,none⟩=some (ab k):=by subst u;simp[go_sem]
 have V:Hid (rq (w.heap.size+1) wA.drew):=by
  subst u;have:=aD (w.alloc (Obj.cells #[Value.int IntKind.i64 4,Value.int IntKind.i64 k] 109)) (Obj.cells #[ab 0,ab 0,af ⟨#[]⟩,ae none 0 0] 31);have es:∀o,(w.alloc o).heap.size=w.heap.size+1:=λo=>by simp
  rw[es]at this;exact this
 have z:=ap (G.later m.1);obtain⟨c,j,f,A,F⟩:∃c j f,wA.cell? ⟨a.b,a.o+1,none⟩=some (ae (some ⟨c,0,none⟩) j f)/\Hid (a.b<w.heap.size/\ao 178 #[ae (some ⟨c,0,none⟩) j f,ab k] wA.drew λe w'=>∃o pc,e=.returned (ae (some ⟨c,o,none⟩) len pc)/\w'=wA.drew/\Hid (fk wA.drew ((ws.drop (k+1)).take len) (some ⟨c,o,none⟩))):=by
  obtain⟨aM,aK,aL,Y,B,aE,Z,_⟩:=z.out;obtain⟨⟨aA,A,aB,aC⟩,aG⟩:=Y.cells;have ai:=C.out;obtain⟨c,f,rfl,_,_⟩:=B.form (by omega);refine⟨c,_,f,A,Z.2,?_⟩;refine(yy base c ws.length f k len ws wA.drew D B J ai).mono ?_;rintro e w' ⟨rfl,pa,pc,rfl,_,an,o,rfl⟩;exact⟨o,pc,rfl,rfl,Dn an (B.lt c rfl).2⟩
 have S:Hid (∀o pc,fk wA.drew ((ws.drop (k+1)).take len) (some ⟨c,o,none⟩)->ao 177 #[.pointer (some ⟨a.b,a.o,none⟩),ae (some ⟨c,o,none⟩) len pc] wA.drew λe w'=>∃g h l,e=.returned (.agg #[ab 4,ab 0,af .empty,ae g len h])/\Hid (il n p wA.drew w' g h l)):=by
  intro o pc ah;refine AO n ih base a room ws nm _ (some ⟨c,o,none⟩) len pc p ((ws.drop (k+1)).take len) L ?_ wA.drew z aj D K ah ?_ N
  ·have:=C.out;unfold Hid;rw[dK,fw];omega
  ·intro i y v Q P;obtain⟨E,al,ak⟩:=O.out i y Q;have ad:i<len:=by have:=(aZ.1 Q).1;have:=L.out;omega
   rw[tA ad,lm,al]at P;obtain rfl:=az P;exact ak
 clear u ih O N G z J C D K;have aH:a.b<w.heap.size:=F.1;have aI:w.heap.size+1≠a.b:=by omega
 have U:Hid (∀(d:ag)(q r s t:au),(d.cell? ⟨w.heap.size,1,none⟩=some (ab k)/\d.cell? ⟨a.b,a.o+1,none⟩=some (ae (some ⟨c,0,none⟩) j f))->((((d.setCell ⟨w.heap.size+1,0,none⟩ q).setCell ⟨w.heap.size+1,1,none⟩ r).setCell ⟨w.heap.size+1,2,none⟩ s).setCell ⟨w.heap.size+1,3,none⟩ t).cell? ⟨w.heap.size,1,none⟩=some (ab k)/\((((d.setCell ⟨w.heap.size+1,0,none⟩ q).setCell ⟨w.heap.size+1,1,none⟩ r).setCell ⟨w.heap.size+1,2,none⟩ s).setCell ⟨w.heap.size+1,3,none⟩ t).cell? ⟨a.b,a.o+1,none⟩=some (ae (some ⟨c,0,none⟩) j f)):=by
  intro d q r s t I;exact⟨(bH (bm (o:=0) (w:=d) (show w.heap.size≠w.heap.size+1 by omega) q r s t) 1).trans I.1,(bH (bm (o:=0) (w:=d) (show a.b≠w.heap.size+1 by omega) q r s t) (a.o+1)).trans I.2⟩
 go_region_held3 (λw'=>w'.cell? ⟨w.heap.size,1,none⟩=some (ab k)/\w'.cell? ⟨a.b,a.o+1,none⟩=some (ae (some ⟨c,0,none⟩) j f)) (first|(go_keep;done)|exact U _ _ _ _ _ aa) ((first
  | (go_at_call 178;refine F.2.mono ?_;rintro e d ⟨o,pc,rfl,rfl,W⟩)
  | (go_at_call 177;refine(S _ _ W).mono ?_;rintro e d ⟨g,h,l,rfl,x⟩;have H:=λb o (aF:b<w.heap.size+1)=>aw x.1 b o (by have:=m.2;omega);have aa:d.cell? ⟨w.heap.size,1,none⟩=some (ab k)/\d.cell? ⟨a.b,a.o+1,none⟩=some (ae (some ⟨c,0,none⟩) j f):=⟨(H w.heap.size 1 (by omega)).trans X,(H a.b (a.o+1) (by omega)).trans A⟩;have R:=ap (V.kept (x.1.block _ (by have:=m.2;omega)));obtain⟨⟨aq,ar,av,ax⟩,f0⟩:=R.cells)))
 have T:=ap (x.box m.1 (by have:=m.2;omega) (ab 4) (ab 0) (af .empty) (ae g len h));go_wp2_with fail;exact ay (v:=.agg #[ab 4,ab 0,af .empty,ae g len h]) (by simp[results,results140,go_sem,aq,ar,av,ax]) rfl ⟨g,h,l,rfl,T⟩
theorem vC(x:Nd)(b:cQ x=true):dN x.1.1/\dN x.1.2.1:=by
 have c:=kP x b;unfold cQ rk at b;unfold dN;rcases c with a|a|a|a|a|⟨a,d⟩
 all_goals (rw[a]at b ⊢;simp at b;refine⟨by omega,by omega⟩)
theorem LX(n:Nat):QA n:=by
 induction n with
 | zero=>intro x af t p room B z s r _ _ _ w;exact w.elim
 | succ n ih=>
  intro x af t p room B z s r C V F w H;have m:=H (bO n x) (by simp[aC,bO]);have S:x.2.2.length<=8:=mW (bO n x) m;have G:x.1.2.2.size<=2048:=by have:=sY (bO n x) m;simp only[bO]at this;omega
  obtain⟨ad,ae,ab⟩:=w;have f:=e9 (bO n x) m;have I:∀(d:ag)(k A:Int)(q:aq),dN k->dN A->q.size<=2048->In d.heap.size d (n+1) ((k,A,q),(none,0),[]):=λd k A q M c ah=>⟨⟨M,c,by unfold maxLen;show q.size<=_;omega,av _,aM _⟩,aj rfl⟩;by_cases c:x.1.1=2
  ·obtain⟨i,rfl,P⟩:=ad c;have y:x.2.2=[]:=bL (f.2.2.2.2 (by show x.1.1≠4;omega));refine(I8 t p room B z s i x.1.2.2 r C F P G).mono ?_;rintro e d ⟨rfl,u⟩;refine⟨((2,0,x.1.2.2),(none,0),[]),rfl,u,I d 2 0 _ (by unfold dN;omega) (by unfold dN;omega) G,aj rfl,?_⟩;have N:x.1.2.1=0:=f.2.1 c;simp[aB,c,N,y,aG]
  ·by_cases g:x.1.1=4
   ·obtain⟨k,rfl,Q,R,T⟩:=ae g;refine(LY n ih t p room B z s k x.2.2.length x.2.2 rfl r C S V F Q R T (λj h=>bj n x j H h)).mono ?_;rintro e d ⟨K,L,l,rfl,J⟩;obtain⟨W,X,Y,Z,aa,a⟩:=J;have O:x.1.2.1=0:=f.2.2.1 g;have v:x.1.2.2.toList=[]:=f.1 c;refine⟨((4,0,.empty),(K,L),l),by rw[<-X];rfl,W,⟨⟨by unfold dN;show (-9223372036854775808:Int)<=4/\(4:Int)<=9223372036854775807;omega,by unfold dN;show (-9223372036854775808:Int)<=0/\(0:Int)<=9223372036854775807;omega,by unfold maxLen;show (0:Nat)<=_;omega,Y,Z⟩,?_⟩,?_,?_⟩
    ·rcases a with a|⟨b,o,e,D,E,a⟩
     ·exact aj a
     ·exact ak ⟨b,o,e,E,λi j h=>⟨(a i j h).1,(a i j h).2.1⟩⟩
    ·rcases a with a|⟨b,o,e,D,E,a⟩
     ·exact aj a
     ·exact ak ⟨b,o,e,D.1,λi j h=>(a i j h).2.2⟩
    ·simp only[aB];rw[g,O,v,aa];simp
   ·have U:=ab c g;subst U;have y:x.2.2=[]:=bL (f.2.2.2.2 g);have v:x.1.2.2.toList=[]:=f.1 c;refine(I9 p x.1.1 x.1.2.1 r c g).mono ?_;rintro e d ⟨rfl,u⟩;refine⟨((x.1.1,x.1.2.1,.empty),(none,0),[]),rfl,u,I d _ _ _ ?_ ?_ (by show (0:Nat)<=_;omega),aj rfl,?_⟩
    ·exact(vC _ m).1
    ·exact(vC _ m).2
    ·simp only[aB];rw[v,y];simp[aG]
def dd(ws:List Wd)(nm:br)(v:Wd):Bool:=
 if v.1=1 then rk v.2 (-1099511627776) 1099511627776 else if v.1=3 then rk v.2 1 99 else if v.1=2 then vE nm.length v.2 else if v.1=4 then gA ws v.2 else false
def Ab(k a:Int):Tm 1:=((k,a,.empty),(none,0),[])
theorem KP(k a:Int)(b:k=1\/k=3):bJ 1 (Ab k a)=if cQ (bO 0 (Ab k a))then 0 else 5:=by
 rcases b with rfl|rfl<;>simp[bJ,Ab,aC,qk,DK,sz,nQ,bO]<;>rfl
theorem Hy(ws:List Wd)(nm:br)(k a:Int)(b:k=1\/k=3):cQ (bO 0 (Ab k a))=dd ws nm (k,a):=by
 rcases b with rfl|rfl<;>simp[cQ,Ab,bO,dd]
theorem wQ(i:cN)(ws:List Wd)(nm:br)(k a:Int)(w:ag)(d:k=1\/k=3)(j:dN a):ao 113 #[.pointer (some ⟨i.b,i.o,none⟩),.agg #[ab k,ab a]] w λe w'=>e=.returned (.bool (dd ws nm (k,a)))/\am w w':=by
 have f:Hid (∀c,ao 53 #[.agg #[ab k,ab a,af .empty,ae none 0 0]] c λe w'=>e=.returned (ab (if dd ws nm (k,a)then 0 else 5))/\am c w'):=by
  intro c;have g:=eq 1 (Ab k a) c.heap.size c ⟨⟨by rcases d with rfl|rfl<;>simp[Ab,dN],j,by simp[Ab,maxLen],av _,aM _⟩,aj rfl⟩ (av _) (by simp[aC,Ab]);rw[KP k a d,Hy ws nm k a d]at g;exact g
 generalize dd ws nm (k,a)=l at*;cases l
 all_goals
  simp only[dj,pK,if_false]at f;rcases d with rfl|rfl
  all_goals
   go_enter func113,ntmps113;go_wp2_with fail;refine(f _).mono ?_;rintro e m ⟨rfl,h⟩;have HB:=ap h;clear h;go_wp2_with fail
   go_ret
   exact⟨rfl,(aS _ _).trans (HB.mono (by simp))⟩
theorem C4(base:Nat)(d:cN)(room:Int)(ws:List Wd)(nm:br)(M:aO)(a:Int)(w:ag)(j:Hid (eh base d room ws nm M w)):ao 113 #[.pointer (some ⟨d.b,d.o,none⟩),.agg #[ab 2,ab a]] w λe w'=>e=.returned (.bool (vE nm.length a))/\am w w':=by
 have k:Hid (∀wA,am w wA->ao 149 #[.pointer (some ⟨d.b,d.o+2,none⟩),ab a] wA λe w'=>e=.returned (.bool (vE nm.length a))/\w'=wA):=by
  intro wA p;obtain⟨s,q,r,m,y,n,_⟩:=j.out.later p;obtain⟨g,h,rfl⟩:∃g h,q=ae g nm.length h:=by
   rcases n.1.2 with⟨e,l⟩|⟨x,c,u,e,_⟩
   ·exact⟨none,0,by rw[e,l]⟩
   ·exact⟨_,c,e⟩
  exact Ng d room s g nm.length h r a wA m
 clear j;generalize vE nm.length a=t at*;go_enter func113,ntmps113;go_wp2_with fail;generalize f:w.alloc (Obj.cells #[Value.int IntKind.i64 2,Value.int IntKind.i64 a] 109)=wA;have i:Hid (am w wA.drew):=by subst f;exact(aS _ _).drew
 have v:wA.cell? ⟨w.heap.size,1,none⟩=some (ab a):=by subst f;simp[go_sem]
 clear f;go_region_held3 (λw'=>w'.cell? ⟨w.heap.size,1,none⟩=some (ab a)) (go_keep) ((go_at_call 149;refine(k _ i).mono ?_;rintro e z ⟨rfl,rfl⟩));go_wp2_with fail
 go_ret
 exact⟨rfl,i⟩
theorem E0(base:Nat)(a:cN)(room:Int)(ws:List Wd)(nm:br)(M:aO)(g:Int)(w:ag)(l:Hid (eh base a room ws nm M w))(t:ws.length<=100000):ao 113 #[.pointer (some ⟨a.b,a.o,none⟩),.agg #[ab 4,ab g]] w λe w'=>e=.returned (.bool (gA ws g))/\am w w':=by
 obtain⟨d,f,s,k,p⟩:∃d f,a.b<w.heap.size/\w.cell? ⟨a.b,a.o+1,none⟩=some (ae d ws.length f)/\Hid (∀wA,am w wA->ao 150 #[ae d ws.length f,ab g] wA λe w'=>e=.returned (.bool (gA ws g))/\w'=wA):=by
  obtain⟨u,B,C,m,n,A,_⟩:=l.out;obtain⟨d,f,rfl⟩:∃d f,u=ae d ws.length f:=by
   rcases n.2 with⟨e,q⟩|⟨z,c,x,e,_⟩
   ·exact⟨none,0,by rw[e,q]⟩
   ·exact⟨_,c,e⟩
  exact⟨d,f,m.lt,m.cells.1.2.1,λwA r=>DE base d ws.length f ws g wA rfl t (ez n r)⟩
 clear l;generalize gA ws g=v at*;generalize ws.length=j at*;go_enter func113,ntmps113;go_wp2_with fail;generalize i:w.alloc (Obj.cells #[Value.int IntKind.i64 4,Value.int IntKind.i64 g] 109)=wA;have h:Hid (am w wA.drew):=by subst i;exact(aS _ _).drew
 have y:wA.cell? ⟨w.heap.size,1,none⟩=some (ab g):=by subst i;simp[go_sem]
 replace k:wA.cell? ⟨a.b,a.o+1,none⟩=some (ae d j f):=(aw h a.b (a.o+1) s).trans k;clear i;go_region_held3 (λw'=>w'.cell? ⟨w.heap.size,1,none⟩=some (ab g)/\w'.cell? ⟨a.b,a.o+1,none⟩=some (ae d j f)) (go_keep) ((go_at_call 150;refine(p _ h).mono ?_;rintro e D ⟨rfl,rfl⟩));go_wp2_with fail
 go_ret
 exact⟨rfl,h⟩
theorem C5(a:cN)(k h:Int)(w:ag)(c:¬k=1)(d:¬k=2)(f:¬k=3)(g:¬k=4):ao 113 #[.pointer (some ⟨a.b,a.o,none⟩),.agg #[ab k,ab h]] w λe w'=>e=.returned (.bool false)/\am w w':=by
 have i:(k==1)=false:=by simpa using c
 have j:(k==2)=false:=by simpa using d
 have l:(k==3)=false:=by simpa using f
 have m:(k==4)=false:=by simpa using g
 go_enter func113,ntmps113;go_wp2_with fail
 go_ret
 exact⟨rfl,by go_grown⟩
theorem wP(base:Nat)(c:cN)(room:Int)(ws:List Wd)(nm:br)(M:aO)(v:Wd)(w:ag)(i:eh base c room ws nm M w)(l:ws.length<=100000)(j:dN v.2):ao 113 #[.pointer (some ⟨c.b,c.o,none⟩),JE v] w λe w'=>e=.returned (.bool (dd ws nm v))/\am w w':=by
 obtain⟨k,a⟩:=v;by_cases d:k=1
 ·exact wQ c ws nm k a w (aj d) j
 ·by_cases g:k=3
  ·exact wQ c ws nm k a w (ak g) j
  ·by_cases f:k=2
   ·subst f;have e:dd ws nm (2,a)=vE nm.length a:=by simp[dd]
    rw[e];exact C4 base c room ws nm M a w i
   ·by_cases h:k=4
    ·subst h;have e:dd ws nm (4,a)=gA ws a:=by simp[dd]
     rw[e];exact E0 base c room ws nm M a w i l
    ·have e:dd ws nm (k,a)=false:=by simp[dd,d,f,g,h]
     rw[e];exact C5 c k a w d f g h
theorem zu(base:Nat)(j:cN)(room:Int)(ws:List Wd)(nm:br)(M:aO)(vs:List Wd)(a:ar)(len pc:Nat)(w:ag)(r:Hid (eh base j room ws nm M w))(D:ws.length<=100000)(y:Hid (vs.length=len))(I:len<=100000)(x:Hid (fk w vs a))(u:Hid (∀v∈vs,dN v.2)):ao 74 #[.pointer (some ⟨j.b,j.o,none⟩),ae a len pc] w λe w'=>e=.returned (.bool (vs.all (dd ws nm)))/\am w w':=by
 go_enter func74,ntmps74;go_wp2_with fail;go_loopw [9] (λg wr=>∃k:Nat,k<=len/\g=ab k/\Hid (am w wr/\(vs.take k).all (dd ws nm)=true)) (λg _=>len-(intOf g).toNat)
 case atStart=>exact⟨0,by omega,rfl,aA _ _,by simp⟩
 case round=>
  obtain⟨k,F,rfl,c⟩:=hrel;by_cases C:k<len
  ·obtain⟨v,f⟩:∃v,vs[k]?=some v:=⟨vs[k]'(by rw[y.out];exact C),aN _⟩;obtain⟨b,o,rfl,t,z⟩:∃b o,a=some ⟨b,o,none⟩/\b<w.heap.size/\∀(g:Nat)(v:Wd),vs[g]?=some v->w.cell? ⟨b,o+g*2,none⟩=some (ab v.1)/\w.cell? ⟨b,o+g*2+1,none⟩=some (ab v.2):=by
    rcases x.out with e|e
    ·rw[e]at f;simp at f
    ·exact e
   obtain⟨p,q⟩:=z k v f;replace p:=(aw c.1 b (o+k*2) t).trans p;replace q:=(aw c.1 b (o+k*2+1) t).trans q
   have h:Hid (∀(d:ag),am wr d->ao 113 #[.pointer (some ⟨j.b,j.o,none⟩),.agg #[ab v.1,ab v.2]] d λe w'=>e=.returned (.bool (dd ws nm v))/\am d w'):=
    λd B=>wP base j room ws nm _ v d (r.later (c.1.trans (B.mono c.1.size))) D (u v (aL f))
   have i:Hid ((dd ws nm v=true->(vs.take (k+1)).all (dd ws nm)=true)/\(dd ws nm v=false->vs.all (dd ws nm)=false)):=by
    refine⟨λe=>?_,λe=>?_⟩
    ·rw[dF,f,lf,c.out.2];simp[e]
    ·cases ha:vs.all (dd ws nm)
     ·rfl
     ·rw[cJ]at ha;rw[ha v (aL f)]at e;exact e
   have m:Hid (am w wr):=c.1;clear f z x r u c;have G:(0:Int)<=(k:Int):=by omega
   have H:(k:Int)<(len:Int):=by omega
   have E:=m.size;have J:b<wr.heap.size:=by omega
   clear E;cases hsb:dd ws nm v
   ·rw[hsb]at h;replace i:=ap (i.2 hsb);clear hsb;go_wp2_with fail;refine(h _ (aS _ _)).mono ?_;rintro e d ⟨rfl,n⟩;have l:Hid (am w d):=m.trans (((aS _ _).trans (n.mono (by simp))).mono m.size);clear n p q h;go_wp2_with fail
    go_ret
    exact⟨fq i.symm,l⟩
   ·rw[hsb]at h;replace i:=ap (i.1 hsb);clear hsb;go_wp2_with fail;refine(h _ (aS _ _)).mono ?_;rintro e d ⟨rfl,n⟩;have l:Hid (am w d):=m.trans (((aS _ _).trans (n.mono (by simp))).mono m.size);clear n p q h;go_wp2_with fail;go_roundw
    case rel=>exact⟨k+1,by omega,by go_num,l,i⟩
    case measure=>simp[intOf];omega
  ·have A:Hid (vs.all (dd ws nm)=true):=by
     have s:=c.2;rw[bD (by have:=y.out;omega)]at s;exact s
   have l:Hid (am w wr):=c.1;clear c;go_wp2_with fail
   go_ret
   exact⟨fq A.symm,l⟩
def mD(q:Nat)(k b:Int)(s:aq)(a:ar)(l c:Nat)(w:ag):Prop:=
 w.heap[q]?=some (.cells #[ab k,ab b,af s,ae a l c] 31)/\w.heap[q+1]?=some (.cells #[ab 0,ab 0] 109)
theorem uM(w:ag)(k b:Int)(s:aq)(a:ar)(l c:Nat):mD w.heap.size k b s a l c ((w.alloc (Obj.cells #[ab k,ab b,af s,ae a l c] 31)).alloc (Obj.cells #[ab 0,ab 0] 109)):=by
 refine⟨((di (w.alloc (Obj.cells #[ab k,ab b,af s,ae a l c] 31)) (Obj.cells #[ab 0,ab 0] 109) none).block _ (by simp) (by simp)).trans (aD w _),?_⟩;have:=aD (w.alloc (Obj.cells #[ab k,ab b,af s,ae a l c] 31)) (Obj.cells #[ab 0,ab 0] 109);have es:∀o,(w.alloc o).heap.size=w.heap.size+1:=λo=>by simp
 rw[es]at this;exact this
theorem mD.facts{q:Nat}{k b:Int}{s:aq}{a:ar}{l c:Nat}{w:ag}(d:mD q k b s a l c w):(w.cell? ⟨q,0,none⟩=some (ab k)/\w.cell? ⟨q,1,none⟩=some (ab b)/\w.cell? ⟨q,2,none⟩=some (af s)/\w.cell? ⟨q,3,none⟩=some (ae a l c))/\(w.cell? ⟨q+1,0,none⟩=some (ab 0)/\w.cell? ⟨q+1,1,none⟩=some (ab 0))/\w.frozen? ⟨q+1,0,none⟩=false/\w.frozen? ⟨q+1,1,none⟩=false:=by
 obtain⟨e,f⟩:=d;refine⟨⟨?_,?_,?_,?_⟩,⟨?_,?_⟩,?_,?_⟩
 all_goals simp[World.cell?,World.frozen?,e,f]
theorem gj{k f:Int}{s:aq}{a:ar}{l c:Nat}{w w1 w2:ag}(g:am w w1/\w.heap.size+2<=w1.heap.size/\mD w.heap.size k f s a l c w1)(b:am w1 w2):am w w2/\w.heap.size+2<=w2.heap.size/\mD w.heap.size k f s a l c w2:=by
 obtain⟨d,h,e⟩:=g;have:=b.size;exact⟨d.trans (b.mono d.size),by omega,(b.block _ (by omega)).trans e.1,(b.block _ (by omega)).trans e.2⟩
theorem qI{k j:Int}{s:aq}{a:ar}{l c:Nat}{w w1:ag}(d:am w w1/\w.heap.size+2<=w1.heap.size/\mD w.heap.size k j s a l c w1)(v0 v1:au):am w ((w1.setCell ⟨w.heap.size+1,0,none⟩ v0).setCell ⟨w.heap.size+1,1,none⟩ v1):=by
 obtain⟨f,m,n⟩:=d;have h:=bF w1 (w.heap.size+1) 0 v0;have i:=bF (w1.setCell ⟨w.heap.size+1,0,none⟩ v0) (w.heap.size+1) 1 v1;have e:=(bu f (λb=>b=w.heap.size+1)).trans (h.trans i (λb _ d=>d)) (λb _ d=>d);exact⟨e.os,e.tape,e.output,e.size,λb g=>e.block b g (by omega)⟩
theorem Pn(m:cN)(k f:Int)(s:aq)(a:ar)(l c:Nat)(w:ag)(d:Int)(t:(d !=0)=true)(p:Hid (∀w1,am w w1->ao 53 #[.agg #[ab k,ab f,af s,ae a l c]] w1 λe w'=>e=.returned (ab d)/\am w1 w')):ao 73 #[.pointer (some ⟨m.b,m.o,none⟩),.agg #[ab k,ab f,af s,ae a l c]] w λe w'=>e=.returned (.tuple #[.agg #[ab 0,ab 0],ab d])/\am w w':=by
 go_enter func73,ntmps73;go_wp2_with fail;generalize n:(w.alloc (Obj.cells #[ab k,ab f,af s,ae a l c] 31)).alloc (Obj.cells #[ab 0,ab 0] 109)=h;have g:Hid (am w h/\w.heap.size+2<=h.heap.size/\mD w.heap.size k f s a l c h):=by
  subst n;exact⟨(aS _ _).alloc (by simp) _,by simp,uM _ _ _ _ _ _ _⟩
 clear n;refine(p _ g.1).mono ?_;rintro e w1 ⟨rfl,j⟩;have i:=ap (gj g j);obtain⟨⟨t0,t1,t2,t3⟩,⟨q,r⟩,f0,f1⟩:=i.out.2.2.facts;clear j g;go_wp2_with fail;exact ay (v:=.tuple #[.agg #[ab 0,ab 0],ab d]) (by simp[results,results73,go_sem,q,r]) rfl ⟨rfl,qI i _ _⟩
theorem Po(p:cN)(k f:Int)(s:aq)(a:ar)(l c:Nat)(w:ag)(r:Hid (∀w1,am w w1->ao 53 #[.agg #[ab k,ab f,af s,ae a l c]] w1 λe w'=>e=.returned (ab 0)/\am w1 w'))(t:Hid (∀w1,am w w1->ao 54 #[.agg #[ab k,ab f,af s,ae a l c]] w1 λe w'=>e=.returned (.bool false)/\am w1 w')):ao 73 #[.pointer (some ⟨p.b,p.o,none⟩),.agg #[ab k,ab f,af s,ae a l c]] w λe w'=>e=.returned (.tuple #[.agg #[ab 0,ab 0],ab 5])/\am w w':=by
 go_enter func73,ntmps73;go_wp2_with fail;generalize q:(w.alloc (Obj.cells #[ab k,ab f,af s,ae a l c] 31)).alloc (Obj.cells #[ab 0,ab 0] 109)=m;have h:Hid (am w m/\w.heap.size+2<=m.heap.size/\mD w.heap.size k f s a l c m):=by
  subst q;exact⟨(aS _ _).alloc (by simp) _,by simp,uM _ _ _ _ _ _ _⟩
 clear q;refine(r _ h.1).mono ?_;rintro e w1 ⟨rfl,d⟩;have g:=ap (gj h d);obtain⟨⟨t0,t1,t2,t3⟩,⟨i,j⟩,f0,f1⟩:=g.out.2.2.facts;clear d h;go_wp2_with fail;clear t0 t1 t2 t3 i j f0 f1;refine(t _ g.1).mono ?_;rintro e u ⟨rfl,d⟩;have n:=ap (gj g d);obtain⟨⟨t0,t1,t2,t3⟩,⟨i,j⟩,f0,f1⟩:=n.out.2.2.facts;clear d g;go_wp2_with fail;exact ay (v:=.tuple #[.agg #[ab 0,ab 0],ab 5]) (by simp[results,results73,go_sem,i,j]) rfl ⟨rfl,qI n _ _⟩
theorem Pp(n:cN)(k h:Int)(s:aq)(a:ar)(l c:Nat)(w:ag)(u:Int)(x:Hid (∀w1,am w w1->ao 53 #[.agg #[ab k,ab h,af s,ae a l c]] w1 λe w'=>e=.returned (ab 0)/\am w1 w'))(z:Hid (∀w1,am w w1->ao 54 #[.agg #[ab k,ab h,af s,ae a l c]] w1 λe w'=>e=.returned (.bool true)/\am w1 w'))(A:Hid (∀w1,am w w1->ao 88 #[.agg #[ab k,ab h,af s,ae a l c]] w1 λe w'=>e=.returned (ab u)/\am w1 w'))(y:Hid (∀w1,am w w1->ao 111 #[.pointer (some ⟨n.b,n.o,none⟩),ab u] w1 λe w'=>e=.returned (.bool false)/\am w1 w')):ao 73 #[.pointer (some ⟨n.b,n.o,none⟩),.agg #[ab k,ab h,af s,ae a l c]] w λe w'=>e=.returned (.tuple #[.agg #[ab 0,ab 0],ab 6])/\am w w':=by
 go_enter func73,ntmps73;go_wp2_with fail;generalize t:(w.alloc (Obj.cells #[ab k,ab h,af s,ae a l c] 31)).alloc (Obj.cells #[ab 0,ab 0] 109)=q;have p:Hid (am w q/\w.heap.size+2<=q.heap.size/\mD w.heap.size k h s a l c q):=by
  subst t;exact⟨(aS _ _).alloc (by simp) _,by simp,uM _ _ _ _ _ _ _⟩
 clear t;refine(x _ p.1).mono ?_;rintro e w1 ⟨rfl,d⟩;have i:=ap (gj p d);obtain⟨⟨t0,t1,t2,t3⟩,⟨f,g⟩,f0,f1⟩:=i.out.2.2.facts;clear d p;go_wp2_with fail;clear t0 t1 t2 t3 f g f0 f1;refine(z _ i.1).mono ?_;rintro e B ⟨rfl,d⟩;have j:=ap (gj i d);obtain⟨⟨t0,t1,t2,t3⟩,⟨f,g⟩,f0,f1⟩:=j.out.2.2.facts;clear d i;go_wp2_with fail;clear t0 t1 t2 t3 f g f0 f1;refine(A _ j.1).mono ?_;rintro e C ⟨rfl,d⟩;have m:=ap (gj j d);obtain⟨⟨t0,t1,t2,t3⟩,⟨f,g⟩,f0,f1⟩:=m.out.2.2.facts;clear d j;go_wp2_with fail;clear t0 t1 t2 t3 f g f0 f1;refine(y _ m.1).mono ?_;rintro e D ⟨rfl,d⟩;have r:=ap (gj m d);obtain⟨⟨t0,t1,t2,t3⟩,⟨f,g⟩,f0,f1⟩:=r.out.2.2.facts;clear d m;go_wp2_with fail;exact ay (v:=.tuple #[.agg #[ab 0,ab 0],ab 6]) (by simp[results,results73,go_sem,f,g]) rfl ⟨rfl,qI r _ _⟩
theorem Pq(g:cN)(k j:Int)(s:aq)(a:ar)(l c:Nat)(w:ag)(y:Int)(V:Wd)(base:Nat)(room:Int)(ws:List Wd)(nm:br)(M:aO)(z:Hid (∀w1,am w w1->ao 53 #[.agg #[ab k,ab j,af s,ae a l c]] w1 λe w'=>e=.returned (ab 0)/\am w1 w'))(C:Hid (∀w1,am w w1->ao 54 #[.agg #[ab k,ab j,af s,ae a l c]] w1 λe w'=>e=.returned (.bool true)/\am w1 w'))(D:Hid (∀w1,am w w1->ao 88 #[.agg #[ab k,ab j,af s,ae a l c]] w1 λe w'=>e=.returned (ab y)/\am w1 w'))(B:Hid (∀w1,am w w1->ao 111 #[.pointer (some ⟨g.b,g.o,none⟩),ab y] w1 λe w'=>e=.returned (.bool true)/\am w1 w'))(E:Hid (∀w1,am w w1->ao 112 #[.pointer (some ⟨g.b,g.o,none⟩),.agg #[ab k,ab j,af s,ae a l c]] w1 λe w'=>e=.returned (.agg #[ab V.1,ab V.2])/\Hid (mN base g room ws nm (λb=>M b/\b<w.heap.size) w1 w'))):ao 73 #[.pointer (some ⟨g.b,g.o,none⟩),.agg #[ab k,ab j,af s,ae a l c]] w λe w'=>e=.returned (.tuple #[.agg #[ab V.1,ab V.2],ab 0])/\Hid (mN base g room ws nm M w w'):=by
 go_enter func73,ntmps73;go_wp2_with fail;generalize x:(w.alloc (Obj.cells #[ab k,ab j,af s,ae a l c] 31)).alloc (Obj.cells #[ab 0,ab 0] 109)=u;have r:Hid (am w u/\w.heap.size+2<=u.heap.size/\mD w.heap.size k j s a l c u):=by
  subst x;exact⟨(aS _ _).alloc (by simp) _,by simp,uM _ _ _ _ _ _ _⟩
 clear x;refine(z _ r.1).mono ?_;rintro e w1 ⟨rfl,d⟩;have n:=ap (gj r d);obtain⟨⟨t0,t1,t2,t3⟩,⟨h,i⟩,f0,f1⟩:=n.out.2.2.facts;clear d r;go_wp2_with fail;clear t0 t1 t2 t3 h i f0 f1;refine(C _ n.1).mono ?_;rintro e H ⟨rfl,d⟩;have p:=ap (gj n d);obtain⟨⟨t0,t1,t2,t3⟩,⟨h,i⟩,f0,f1⟩:=p.out.2.2.facts;clear d n;go_wp2_with fail;clear t0 t1 t2 t3 h i f0 f1;refine(D _ p.1).mono ?_;rintro e I ⟨rfl,d⟩;have q:=ap (gj p d);obtain⟨⟨t0,t1,t2,t3⟩,⟨h,i⟩,f0,f1⟩:=q.out.2.2.facts;clear d p;go_wp2_with fail;clear t0 t1 t2 t3 h i f0 f1;refine(B _ q.1).mono ?_;rintro e J ⟨rfl,d⟩;have f:=ap (gj q d);obtain⟨⟨t0,t1,t2,t3⟩,⟨h,i⟩,f0,f1⟩:=f.out.2.2.facts;clear d q;go_wp2_with fail;refine(E _ f.1).mono ?_;rintro e K ⟨rfl,t⟩;have m:=vN t;have d0:=(m (w.heap.size+1) (by omega) (by have:=f.2.1;omega) 0).1.trans h;have d1:=(m (w.heap.size+1) (by omega) (by have:=f.2.1;omega) 1).1.trans i;have F:=(m (w.heap.size+1) (by omega) (by have:=f.2.1;omega) 0).2.trans f0;have G:=(m (w.heap.size+1) (by omega) (by have:=f.2.1;omega) 1).2.trans f1;have A:=ap (BV t f.1 f.2.1 (ab V.1) (ab V.2));clear m t0 t1 t2 t3 h i f0 f1 t;go_wp2_with fail;exact ay (v:=.tuple #[.agg #[ab V.1,ab V.2],ab 0]) (by simp[results,results73,go_sem,d0,d1]) rfl ⟨rfl,A⟩
end Go.Proofs.YtmmahddlcldmiaaGreat

/- Proved here: plain facts and contracts. No condition but what each names. -/
import Derived.Test.YtmmahddlcldmiaaGreatDoorT12
namespace Go.Proofs.YtmmahddlcldmiaaGreatDoor
open Go.RowKit Go.Proofs.Tryz
open Go.RowKit Go.Maps
set_option maxHeartbeats 1000000
set_option maxRecDepth 100000
def dL(ws:List Wd)(nm:List ByteArray):(n:Nat)->Tm n->Wd->Prop
 | 0,_,_=>False
 | n+1,x,v=>(x.1.1=2->∃i:Nat,v=(2,(i:Int))/\nm[i]?=some x.1.2.2)/\
    (x.1.1=4->∃p:Nat,v=(4,(p:Int))/\ws[p]?=some (0,(x.2.2.length:Int))/\p+1+x.2.2.length<=ws.length/\∀(i:Nat)(y:Tm n),x.2.2[i]?=some y->∃a,ws[p+1+i]?=some a/\dL ws nm n y a)/\
    (x.1.1≠2->x.1.1≠4->v=(x.1.1,x.1.2.1))
def eN(w:World)(vs:List Wd)(a:Option Addr):Prop:=vs=[]\/∃b o,a=some ⟨b,o,none⟩/\b<w.heap.size/\∀(i:Nat)(v:Wd),vs[i]?=some v->w.cell? ⟨b,o+i*2,none⟩=some (ab v.1)/\w.cell? ⟨b,o+i*2+1,none⟩=some (ab v.2)
def PX(n:Nat):Prop:=∀(x:Tm n)(v:Wd)(base:Nat)(a:cu)(room:Int)(ws:List Wd)(nm:List ByteArray)(M:Nat->Prop)(w:World),dK base a room ws nm M w->ws.length<=100000->nm.length<=100000->dL ws nm n x v->aD ⟨n,x⟩->
 am 131 #[.pointer (some ⟨a.b,a.o,none⟩),I9 v] w λe w'=>∃y:Tm n,e=.returned (df n y)/\Hid (aj w w'/\In w'.heap.size w' n y/\cd (λq=>w.heap.size<=q) n y/\ay n y n x=true)
def qK(q:Nat)(w:World):Prop:=w.heap[q]?=some (.cells #[ab 0,ab 0,af .empty,ae none 0 0] 28)
theorem qK.kept{q:Nat}{w w':World}(a:qK q w)(k:w'.heap[q]?=w.heap[q]?):qK q w':=k.trans a
theorem qK.cells{q:Nat}{w:World}(a:qK q w):(w.cell? ⟨q,0,none⟩=some (ab 0)/\w.cell? ⟨q,1,none⟩=some (ab 0)/\w.cell? ⟨q,2,none⟩=some (af .empty)/\w.cell? ⟨q,3,none⟩=some (ae none 0 0))/\∀j,w.frozen? ⟨q,j,none⟩=false:=by
 unfold qK at a;refine⟨⟨?_,?_,?_,?_⟩,λj=>?_⟩
 all_goals simp[World.cell?,World.frozen?,a]
theorem Lu{n:Nat}{p:List (Tm n)}{len:Nat}{w w0:World}(f:w0.ownsRow (w.heap.size+1) 28 4 (.slice (some ⟨(w.alloc (.cells #[ab 0,ab 0,af .empty,ae none 0 0] 28)).heap.size,0,none⟩) len len) len (madeCells (Value.agg #[ab 0,ab 0,af .empty,ae none 0 0]).cells (len*4)).toList)(a:(w.alloc (.cells #[ab 0,ab 0,af .empty,ae none 0 0] 28)).grownBy w0 none):aj w w0/\uq n p len (w.heap.size+1) 0 [] w0/\qK w.heap.size w0:=by
 have c:(w.alloc (.cells #[ab 0,ab 0,af .empty,ae none 0 0] 28)).heap.size=w.heap.size+1:=by simp
 have g:aj w (w.alloc (.cells #[ab 0,ab 0,af .empty,ae none 0 0] 28)):=(ap _ _).alloc (ak _) _;have d:Below (w.heap.size+1) (w.alloc (.cells #[ab 0,ab 0,af .empty,ae none 0 0] 28)) w0:=⟨a.os,a.tape,a.output,a.size,λb h=>a.block b (by omega) (by simp)⟩;have e:=qV (w:=w.alloc (.cells #[ab 0,ab 0,af .empty,ae none 0 0] 28)) n p len (by rw[c]at f ⊢;exact f);rw[c]at e;exact⟨g.trans (d.mono (by omega)),e,(d.block _ (by omega)).trans (aE w _)⟩
theorem uq.end{n:Nat}{p:List (Tm n)}{len g:Nat}{l:List (Tm n)}{w wr:World}(r:uq n p len g len l wr)(A:p.length=len)(z:g=w.heap.size+1)(c:aj w wr)(t:len<=maxLen):∀v0 v1 v2 v3,gJ n p w (cW wr w.heap.size 0 v0 v1 v2 v3) (some ⟨g,0,none⟩) len l:=by
 intro v0 v1 v2 v3;obtain⟨y,e,i,j⟩:=r;rw[bu (by omega)]at j;rw[gU,mT,dY]at e;refine⟨⟨c.os,c.tape,c.output,az c.size (dz (bq _ _ _ _).symm),λh f=>(aW (by omega) _ _ _ _).trans (c.block h f)⟩,by omega,by omega,t,j,ai ⟨g,0,rfl,⟨by omega,rfl,λv=>?_,λa d=>(i a d).2.mono λh f=>by omega⟩,by rw[bq];exact e.lt.2,λu a d=>?_⟩⟩
 ·have k:=e.free v;unfold World.frozen? at k ⊢;rw[aW (w:=wr) (g:=w.heap.size) (b:=g) (o:=0) (by omega) v0 v1 v2 v3];exact k
 have s:=e.cells u ⟨n,a⟩ (by simp[d]);have m:=(i a (aH d)).1;have q:=(i a (aH d)).2;refine⟨?_,?_,q.mono λh f=>by omega⟩
 ·cases n with
  | zero=>exact m.elim
  | succ n=>
   rw[dc];exact dB.block (aW (by omega) _ _ _ _) (n:=n+1) (x:=a) s
 ·rw[bq];exact In.off (λh f=>aW (by omega) _ _ _ _) q m
theorem Al(n:Nat)(ih:PX n)(base:Nat)(q:cu)(room:Int)(ws:List Wd)(nm:List ByteArray)(M:Nat->Prop)(a:Option Addr)(len pc:Nat)(p:List (Tm n))(vs:List Wd)(Y:Hid (p.length=len))(aC:Hid (vs.length=len))(w:World)(Q:Hid (dK base q room ws nm M w))(aV:len<=8)(al:Hid (ws.length<=100000))(W:Hid (nm.length<=100000))(U:Hid (eN w vs a))(aa:Hid (∀(i:Nat)(y:Tm n)(v:Wd),p[i]?=some y->vs[i]?=some v->dL ws nm n y v))(Z:Hid (∀y∈p,aD ⟨n,y⟩)):am 165 #[.pointer (some ⟨q.b,q.o,none⟩),ae a len pc] w λe w'=>∃N O l,e=.returned (.agg #[ab 4,ab 0,af .empty,ae N len O])/\Hid (gJ n p w w' N O l):=by
 obtain⟨aE,V,ad,ag,ah⟩:=bP gh;go_enter func165,ntmps165;go_wp2_with (at_make;refine kO _ rfl _ _ 26 rfl (w.heap.size+1) 28 aE _ 4 underlying26 V ad ag _ _ _ _ len rfl rfl rfl rfl (by rw[ah];omega) (by unfold maxLen;omega) (by simp) ?_;intro F X T;have A:=aq (Lu (p:=p) X T);clear X T);clear V ad ag ah;obtain⟨d,S⟩:∃d,w.heap.size+1=d:=⟨_,rfl⟩;rw[S]at A ⊢;obtain⟨ao,J,L⟩:Hid (aj w F)/\Hid (uq n p len d 0 [] F)/\Hid (qK w.heap.size F):=A.out;clear A;go_loopw [13] (λi wr=>∃k:Nat,k<=len/\i=ab k/\Hid (aj w wr/\qK w.heap.size wr/\∃l,uq n p len d k l wr)) (λi _=>len-(intOf i).toNat)
 case atStart=>exact⟨0,by omega,rfl,ao,L,[],J⟩
 case round=>
  clear J L;obtain⟨k,aS,rfl,K⟩:=hrel;obtain⟨g,t,l,h⟩:Hid (aj w wr)/\Hid (qK w.heap.size wr)/\∃l,Hid (uq n p len d k l wr):=K.out;clear K;by_cases B:k<len
  ·obtain⟨f,u⟩:∃f,p[k]?=some f:=⟨p[k]'(by rw[Y.out];exact B),aG _⟩;obtain⟨v,s⟩:∃v,vs[k]?=some v:=⟨vs[k]'(by rw[aC.out];exact B),aG _⟩;obtain⟨b,o,rfl,R,ai⟩:∃b o,a=some ⟨b,o,none⟩/\b<w.heap.size/\∀(i:Nat)(v:Wd),vs[i]?=some v->w.cell? ⟨b,o+i*2,none⟩=some (ab v.1)/\w.cell? ⟨b,o+i*2+1,none⟩=some (ab v.2):=by
    rcases U.out with e|e
    ·rw[e]at s;simp at s
    ·exact e
   obtain⟨D,E⟩:=ai k v s;replace D:=(ar g b (o+k*2) R).trans D;replace E:=(ar g b (o+k*2+1) R).trans E;have aB:=aq u;have aR:d<wr.heap.size:=h.2.1.lt.2
   have H:Hid (∀(c:World),aj wr c->am 131 #[.pointer (some ⟨q.b,q.o,none⟩),.agg #[ab v.1,ab v.2]] c λe w'=>∃y:Tm n,e=.returned (df n y)/\Hid (aj c w'/\In w'.heap.size w' n y/\cd (λx=>c.heap.size<=x) n y/\ay n y n f=true)):=
    λc j=>ih f v base q room ws nm _ c (Q.later (g.trans (j.mono g.size))) al W (aa k f v u s) (Z f (aH u))
   clear ih u s ai U aa Z Q al W;have aT:(0:Int)<=(k:Int):=by omega
   have aU:(k:Int)<(len:Int):=by omega
   have aX:b<wr.heap.size:=by omega
   go_wp2_with fail;refine(H _ ((ap _ _).alloc (ak _) _)).mono ?_;rintro e c ⟨y,rfl,m⟩;have r:Hid (aj wr c):=((ap _ _).alloc (ak _) _).trans (m.1.mono (by simp));have aA:=aq (h.step B f aB r y m.2.1 (m.2.2.1.mono λx C=>by simp at C;omega) m.2.2.2);have z:=aq (h.2.1.below r);have I:=m.2.1;cases n with
   | zero=>exact I.elim
   | succ n=>
   clear I;have au:Hid (aj w (jv c d (k*4) (gg (n+1) y))):=by
    have j:=g.trans (r.mono g.size);exact⟨j.os,j.tape,j.output,az j.size (dz (bq _ _ _ _).symm),λx C=>(aW (by omega) _ _ _ _).trans (j.block x C)⟩
   have aw:Hid (qK w.heap.size (jv c d (k*4) (gg (n+1) y))):=t.kept ((aW (by omega) _ _ _ _).trans (r.block _ (by omega)));obtain⟨G,an⟩:∃G,(l.map (λf=>(⟨n+1,f⟩:An))++List.replicate (len-k) zA)[k]?=some G:=⟨_,aG (by simp[h.out.1];omega)⟩;obtain⟨aM,aN,aO,aP⟩:=z.out.cells k G an;have aQ:=λaF=>z.free aF;have P:df (n+1) y=.agg #[ab y.1.1,ab y.1.2.1,af y.1.2.2,ae y.2.1.1 y.2.2.length y.2.1.2]:=rfl;rw[P];clear H h g m r z t D E an P;go_wp2_with fail;go_roundw
   case rel=>exact⟨k+1,by omega,by go_num,au,aw,l++ [y],aA⟩
   case measure=>simp[intOf];omega
  ·obtain rfl:k=len:=by omega
   have ax:=aq (h.end Y S.symm g (by unfold maxLen;omega));obtain⟨⟨aI,aJ,aK,aL⟩,f0⟩:=t.out.cells;clear h ih t;go_wp2_with fail;exact av (v:=.agg #[ab 4,ab 0,af .empty,ae (some ⟨d,0,none⟩) k k]) (by simp[results,results165,go_sem,aI,aJ,aK,aL];rfl) rfl ⟨_,_,l,rfl,ax _ _ _ _⟩
theorem yP{w wA w2:World}(b:aj w wA)(c:aj wA w2)(v0 v1 v2 v3:Value):aj w (cW w2 (w.heap.size+1) 0 v0 v1 v2 v3):=by
 have a:=b.trans (c.mono b.size);exact⟨a.os,a.tape,a.output,az a.size (dz (bq _ _ _ _).symm),λe d=>(aW (by omega) _ _ _ _).trans (a.block e d)⟩
theorem Ix(c:cu)(k a:Int)(w:World)(d:¬k=2)(f:¬k=4):am 131 #[.pointer (some ⟨c.b,c.o,none⟩),.agg #[ab k,ab a]] w λe w'=>e=.returned (.agg #[ab k,ab a,af .empty,ae none 0 0])/\aj w w':=by
 have g:(k==2)=false:=by simpa using d
 have h:(k==4)=false:=by simpa using f
 go_enter func131,ntmps131;go_wp2_with fail;exact av (v:=.agg #[ab k,ab a,af .empty,ae none 0 0]) (by simp[results,results131,go_sem];rfl) rfl ⟨rfl,by go_grown⟩
theorem Iw(base:Nat)(a:cu)(room:Int)(ws:List Wd)(nm:List ByteArray)(M:Nat->Prop)(i:Nat)(s:ByteArray)(w:World)(m:Hid (dK base a room ws nm M w))(q:nm.length<=100000)(r:Hid (nm[i]?=some s))(t:s.size<=2048):am 131 #[.pointer (some ⟨a.b,a.o,none⟩),.agg #[ab 2,ab i]] w λe w'=>e=.returned (.agg #[ab 2,ab 0,af s,ae none 0 0])/\aj w w':=by
 go_enter func131,ntmps131;go_wp2_with fail;generalize f:(w.alloc (Obj.cells #[Value.int IntKind.i64 2,Value.int IntKind.i64 i] 154)).alloc (Obj.cells #[ab 0,ab 0,af ⟨#[]⟩,ae none 0 0] 28)=wA;have c:Hid (aj w wA.drew/\wA.drew.heap.size=w.heap.size+2):=by
  subst f;exact⟨(((ap _ _).alloc (ak _) _).alloc (by simp) _).drew,by simp[World.drew]⟩
 have D:wA.cell? ⟨w.heap.size,1,none⟩=some (ab i):=by subst f;simp[go_sem]
 have l:Hid (qK (w.heap.size+1) wA.drew):=by
  subst f;have:=aE (w.alloc (Obj.cells #[Value.int IntKind.i64 2,Value.int IntKind.i64 i] 154)) (Obj.cells #[ab 0,ab 0,af ⟨#[]⟩,ae none 0 0] 28);have es:∀o,(w.alloc o).heap.size=w.heap.size+1:=λo=>by simp
  rw[es]at this;exact this
 have j:Hid (am 164 #[.pointer (some ⟨a.b,a.o+2,none⟩),ab i] wA.drew λe w'=>e=.returned (af s)/\Below wA.drew.heap.size wA.drew w'):=by
  obtain⟨C,u,x,n,E,p,_⟩:=m.later c.1;exact DH base a room C u x nm i s wA.drew n p.1 r q t
 clear f;go_region_held3 (λw'=>w'.cell? ⟨w.heap.size,1,none⟩=some (ab i)) (go_keep) ((go_at_call 164;refine j.mono ?_;rintro e G ⟨rfl,d⟩;have g:=aq d;have F:=λo=>ar d w.heap.size o (by have:=c.2;omega);have h:=aq (l.kept (d.block _ (by have:=c.2;omega)));obtain⟨⟨y,z,A,B⟩,f0⟩:=h.cells;clear d));have k:=aq (yP c.1 g (ab 2) (ab 0) (af s) (ae none 0 0));go_wp2_with fail;exact av (v:=.agg #[ab 2,ab 0,af s,ae none 0 0]) (by simp[results,results131,go_sem,y,z,A,B]) rfl ⟨rfl,k⟩
theorem ER(g o j:Nat):(⟨g,o,none⟩:Addr).add j=⟨g,o+j,none⟩:=by
 unfold Addr.add;by_cases a:j=0<;>simp[a]
theorem CK{w:World}{vs:List Wd}{g o:Nat}(d:fe w vs (some ⟨g,o,none⟩))(h:g<w.heap.size):eN w vs (some ⟨g,o,none⟩):=by
 rcases d with d|⟨ad,c,e⟩
 ·exact ah d
 ·injection c with c;subst c;refine ai ⟨g,o,rfl,h,λa b f=>⟨?_,?_⟩⟩
  ·have:=e (a*2+0) (ab b.1) (by rw[iW vs a b f 0 (by omega)];rfl);rw[ER]at this;exact this
  ·have:=e (a*2+1) (ab b.2) (by rw[iW vs a b f 1 (by omega)];rfl);rw[ER]at this;exact this
theorem Lo(n:Nat)(ih:PX n)(base:Nat)(a:cu)(room:Int)(ws:List Wd)(nm:List ByteArray)(M:Nat->Prop)(k len:Nat)(p:List (Tm n))(L:Hid (p.length=len))(w:World)(G:Hid (dK base a room ws nm M w))(ai:len<=8)(D:Hid (ws.length<=100000))(K:Hid (nm.length<=100000))(J:Hid (ws[k]?=some (0,(len:Int))))(C:Hid (k+1+len<=ws.length))(O:Hid (∀(i:Nat)(y:Tm n),p[i]?=some y->∃E,ws[k+1+i]?=some E/\dL ws nm n y E))(N:Hid (∀y∈p,aD ⟨n,y⟩)):am 131 #[.pointer (some ⟨a.b,a.o,none⟩),.agg #[ab 4,ab k]] w λe w'=>∃g h l,e=.returned (.agg #[ab 4,ab 0,af .empty,ae g len h])/\Hid (gJ n p w w' g h l):=by
 go_enter func131,ntmps131;go_wp2_with fail;generalize u:(w.alloc (Obj.cells #[Value.int IntKind.i64 4,Value.int IntKind.i64 k] 154)).alloc (Obj.cells #[ab 0,ab 0,af ⟨#[]⟩,ae none 0 0] 28)=wA;have m:Hid (aj w wA.drew/\wA.drew.heap.size=w.heap.size+2):=by
  subst u;exact⟨(((ap _ _).alloc (ak _) _).alloc (by simp) _).drew,by simp[World.drew]⟩
 have X:wA.cell? ⟨w.heap.size,1,none⟩=some (ab k):=by subst u;simp[go_sem]
 have V:Hid (qK (w.heap.size+1) wA.drew):=by
  subst u;have:=aE (w.alloc (Obj.cells #[Value.int IntKind.i64 4,Value.int IntKind.i64 k] 154)) (Obj.cells #[ab 0,ab 0,af ⟨#[]⟩,ae none 0 0] 28);have es:∀o,(w.alloc o).heap.size=w.heap.size+1:=λo=>by simp
  rw[es]at this;exact this
 have z:=aq (G.later m.1);obtain⟨c,j,f,A,F⟩:∃c j f,wA.cell? ⟨a.b,a.o+1,none⟩=some (ae (some ⟨c,0,none⟩) j f)/\Hid (a.b<w.heap.size/\am 166 #[ae (some ⟨c,0,none⟩) j f,ab k] wA.drew λe w'=>∃o pc,e=.returned (ae (some ⟨c,o,none⟩) len pc)/\w'=wA.drew/\Hid (eN wA.drew ((ws.drop (k+1)).take len) (some ⟨c,o,none⟩))):=by
  obtain⟨aM,aK,aL,Y,B,aF,Z,_⟩:=z.out;obtain⟨⟨aA,A,aB,aC⟩,aH⟩:=Y.cells;have ah:=C.out;obtain⟨c,f,rfl,_,_⟩:=B.form (by omega);refine⟨c,_,f,A,Z.2,?_⟩;refine(xQ base c ws.length f k len ws wA.drew D B J ah).mono ?_;rintro e w' ⟨rfl,pa,pc,rfl,_,ao,o,rfl⟩;exact⟨o,pc,rfl,rfl,CK ao (B.lt c rfl).2⟩
 have S:Hid (∀o pc,eN wA.drew ((ws.drop (k+1)).take len) (some ⟨c,o,none⟩)->am 165 #[.pointer (some ⟨a.b,a.o,none⟩),ae (some ⟨c,o,none⟩) len pc] wA.drew λe w'=>∃g h l,e=.returned (.agg #[ab 4,ab 0,af .empty,ae g len h])/\Hid (gJ n p wA.drew w' g h l)):=by
  intro o pc ag;refine Al n ih base a room ws nm _ (some ⟨c,o,none⟩) len pc p ((ws.drop (k+1)).take len) L ?_ wA.drew z ai D K ag ?_ N
  ·have:=C.out;unfold Hid;rw[dy,eX];omega
  ·intro i y v Q P;obtain⟨E,an,al⟩:=O.out i y Q;have ad:i<len:=by have:=(aO.1 Q).1;have:=L.out;omega
   rw[sS ad,kH,an]at P;obtain rfl:=aw P;exact al
 clear u ih O N G z J C D K;have aI:a.b<w.heap.size:=F.1;have aJ:w.heap.size+1≠a.b:=by omega
 have U:Hid (∀(d:World)(q r s t:Value),(d.cell? ⟨w.heap.size,1,none⟩=some (ab k)/\d.cell? ⟨a.b,a.o+1,none⟩=some (ae (some ⟨c,0,none⟩) j f))->((((d.setCell ⟨w.heap.size+1,0,none⟩ q).setCell ⟨w.heap.size+1,1,none⟩ r).setCell ⟨w.heap.size+1,2,none⟩ s).setCell ⟨w.heap.size+1,3,none⟩ t).cell? ⟨w.heap.size,1,none⟩=some (ab k)/\((((d.setCell ⟨w.heap.size+1,0,none⟩ q).setCell ⟨w.heap.size+1,1,none⟩ r).setCell ⟨w.heap.size+1,2,none⟩ s).setCell ⟨w.heap.size+1,3,none⟩ t).cell? ⟨a.b,a.o+1,none⟩=some (ae (some ⟨c,0,none⟩) j f)):=by
  intro d q r s t I;exact⟨(bt (aW (o:=0) (w:=d) (show w.heap.size≠w.heap.size+1 by omega) q r s t) 1).trans I.1,(bt (aW (o:=0) (w:=d) (show a.b≠w.heap.size+1 by omega) q r s t) (a.o+1)).trans I.2⟩
 go_region_held3 (λw'=>w'.cell? ⟨w.heap.size,1,none⟩=some (ab k)/\w'.cell? ⟨a.b,a.o+1,none⟩=some (ae (some ⟨c,0,none⟩) j f)) (first|(go_keep;done)|exact U _ _ _ _ _ aa) ((first
  | (go_at_call 166;refine F.2.mono ?_;rintro e d ⟨o,pc,rfl,rfl,W⟩)
  | (go_at_call 165;refine(S _ _ W).mono ?_;rintro e d ⟨g,h,l,rfl,x⟩;have H:=λb o (aG:b<w.heap.size+1)=>ar x.1 b o (by have:=m.2;omega);have aa:d.cell? ⟨w.heap.size,1,none⟩=some (ab k)/\d.cell? ⟨a.b,a.o+1,none⟩=some (ae (some ⟨c,0,none⟩) j f):=⟨(H w.heap.size 1 (by omega)).trans X,(H a.b (a.o+1) (by omega)).trans A⟩;have R:=aq (V.kept (x.1.block _ (by have:=m.2;omega)));obtain⟨⟨au,ax,ay,az⟩,f0⟩:=R.cells)))
 have T:=aq (x.box m.1 (by have:=m.2;omega) (ab 4) (ab 0) (af .empty) (ae g len h));go_wp2_with fail;exact av (v:=.agg #[ab 4,ab 0,af .empty,ae g len h]) (by simp[results,results131,go_sem,au,ax,ay,az]) rfl ⟨g,h,l,rfl,T⟩
theorem uZ(x:Nd)(b:cg x=true):dt x.1.1/\dt x.1.2.1:=by
 have c:=ku x b;unfold cg oe at b;unfold dt;rcases c with a|a|a|a|a|⟨a,d⟩
 all_goals (rw[a]at b ⊢;simp at b;refine⟨by omega,by omega⟩)
theorem Ln(n:Nat):PX n:=by
 induction n with
 | zero=>intro a af u q room B z t s _ _ _ x;exact x.elim
 | succ n ih=>
  intro a af u q room B z t s C V F x H;have p:=H (bw n a) (by simp[ax,bw]);have S:a.2.2.length<=8:=mj (bw n a) p;have G:a.1.2.2.size<=2048:=by have:=sx (bw n a) p;simp only[bw]at this;omega
  obtain⟨ad,ae,ab⟩:=x;have g:=eI (bw n a) p;have I:∀(e:World)(k A:Int)(r:ByteArray),dt k->dt A->r.size<=2048->In e.heap.size e (n+1) ((k,A,r),(none,0),[]):=λe k A r M d ag=>⟨⟨M,d,by unfold maxLen;show r.size<=_;omega,ak _,aI _⟩,ah rfl⟩;by_cases d:a.1.1=2
  ·obtain⟨j,rfl,P⟩:=ad d;have y:a.2.2=[]:=bF (g.2.2.2.2 (by show a.1.1≠4;omega));refine(Iw u q room B z t j a.1.2.2 s C F P G).mono ?_;rintro f e ⟨rfl,v⟩;refine⟨((2,0,a.1.2.2),(none,0),[]),rfl,v,I e 2 0 _ (by unfold dt;omega) (by unfold dt;omega) G,ah rfl,?_⟩;have N:a.1.2.1=0:=g.2.1 d;simp[ay,d,N,y,aC]
  ·by_cases h:a.1.1=4
   ·obtain⟨k,rfl,Q,R,T⟩:=ae h;refine(Lo n ih u q room B z t k a.2.2.length a.2.2 rfl s C S V F Q R T (λm i=>aU n a m H i)).mono ?_;rintro f e ⟨K,L,l,rfl,J⟩;obtain⟨W,X,Y,Z,aa,c⟩:=J;have O:a.1.2.1=0:=g.2.2.1 h;have w:a.1.2.2.toList=[]:=g.1 d;refine⟨((4,0,.empty),(K,L),l),by rw[<-X];rfl,W,⟨⟨by unfold dt;show (-9223372036854775808:Int)<=4/\(4:Int)<=9223372036854775807;omega,by unfold dt;show (-9223372036854775808:Int)<=0/\(0:Int)<=9223372036854775807;omega,by unfold maxLen;show (0:Nat)<=_;omega,Y,Z⟩,?_⟩,?_,?_⟩
    ·rcases c with c|⟨b,o,f,D,E,c⟩
     ·exact ah c
     ·exact ai ⟨b,o,f,E,λj m i=>⟨(c j m i).1,(c j m i).2.1⟩⟩
    ·rcases c with c|⟨b,o,f,D,E,c⟩
     ·exact ah c
     ·exact ai ⟨b,o,f,D.1,λj m i=>(c j m i).2.2⟩
    ·simp only[ay];rw[h,O,w,aa];simp
   ·have U:=ab d h;subst U;have y:a.2.2=[]:=bF (g.2.2.2.2 h);have w:a.1.2.2.toList=[]:=g.1 d;refine(Ix q a.1.1 a.1.2.1 s d h).mono ?_;rintro f e ⟨rfl,v⟩;refine⟨((a.1.1,a.1.2.1,.empty),(none,0),[]),rfl,v,I e _ _ _ ?_ ?_ (by show (0:Nat)<=_;omega),ah rfl,?_⟩
    ·exact(uZ _ p).1
    ·exact(uZ _ p).2
    ·simp only[ay];rw[w,y];simp[aC]
def cI(ws:List Wd)(nm:List ByteArray)(v:Wd):Bool:=
 if v.1=1 then oe v.2 (-1099511627776) 1099511627776 else if v.1=3 then oe v.2 1 99 else if v.1=2 then vd nm.length v.2 else if v.1=4 then fU ws v.2 else false
def zu(k a:Int):Tm 1:=((k,a,.empty),(none,0),[])
theorem Ko(k a:Int)(b:k=1\/k=3):bv 1 (zu k a)=if cg (bw 0 (zu k a))then 0 else 5:=by
 rcases b with rfl|rfl<;>simp[bv,zu,ax,pN,C6,sz,nj,bw]<;>rfl
theorem GU(ws:List Wd)(nm:List ByteArray)(k a:Int)(b:k=1\/k=3):cg (bw 0 (zu k a))=cI ws nm (k,a):=by
 rcases b with rfl|rfl<;>simp[cg,zu,bw,cI]
theorem vY(i:cu)(ws:List Wd)(nm:List ByteArray)(k a:Int)(w:World)(d:k=1\/k=3)(j:dt a):am 130 #[.pointer (some ⟨i.b,i.o,none⟩),.agg #[ab k,ab a]] w λe w'=>e=.returned (.bool (cI ws nm (k,a)))/\aj w w':=by
 have f:Hid (∀c,am 23 #[.agg #[ab k,ab a,af .empty,ae none 0 0]] c λe w'=>e=.returned (ab (if cI ws nm (k,a)then 0 else 5))/\aj c w'):=by
  intro c;have g:=dC 1 (zu k a) c.heap.size c ⟨⟨by rcases d with rfl|rfl<;>simp[zu,dt],j,by simp[zu,maxLen],ak _,aI _⟩,ah rfl⟩ (ak _) (by simp[ax,zu]);rw[Ko k a d,GU ws nm k a d]at g;exact g
 generalize cI ws nm (k,a)=l at*;cases l
 all_goals
  simp only[cF,pf,if_false]at f;rcases d with rfl|rfl
  all_goals
   go_enter func130,ntmps130;go_wp2_with fail;refine(f _).mono ?_;rintro e m ⟨rfl,h⟩;have HB:=aq h;clear h;go_wp2_with fail
   go_ret
   exact⟨rfl,((ap _ _).alloc (ak _) _).trans (HB.mono (by simp))⟩
theorem Cq(base:Nat)(d:cu)(room:Int)(ws:List Wd)(nm:List ByteArray)(M:Nat->Prop)(a:Int)(w:World)(j:Hid (dK base d room ws nm M w)):am 130 #[.pointer (some ⟨d.b,d.o,none⟩),.agg #[ab 2,ab a]] w λe w'=>e=.returned (.bool (vd nm.length a))/\aj w w':=by
 have k:Hid (∀wA,aj w wA->am 162 #[.pointer (some ⟨d.b,d.o+2,none⟩),ab a] wA λe w'=>e=.returned (.bool (vd nm.length a))/\w'=wA):=by
  intro wA p;obtain⟨s,q,r,m,y,n,_⟩:=j.out.later p;obtain⟨g,h,rfl⟩:∃g h,q=ae g nm.length h:=by
   rcases n.1.2 with⟨e,l⟩|⟨x,c,u,e,_⟩
   ·exact⟨none,0,by rw[e,l]⟩
   ·exact⟨_,c,e⟩
  exact MF d room s g nm.length h r a wA m
 clear j;generalize vd nm.length a=t at*;go_enter func130,ntmps130;go_wp2_with fail;generalize f:w.alloc (Obj.cells #[Value.int IntKind.i64 2,Value.int IntKind.i64 a] 154)=wA;have i:Hid (aj w wA.drew):=by subst f;exact((ap _ _).alloc (ak _) _).drew
 have v:wA.cell? ⟨w.heap.size,1,none⟩=some (ab a):=by subst f;simp[go_sem]
 clear f;go_region_held3 (λw'=>w'.cell? ⟨w.heap.size,1,none⟩=some (ab a)) (go_keep) ((go_at_call 162;refine(k _ i).mono ?_;rintro e z ⟨rfl,rfl⟩));go_wp2_with fail
 go_ret
 exact⟨rfl,i⟩
theorem Ek(base:Nat)(a:cu)(room:Int)(ws:List Wd)(nm:List ByteArray)(M:Nat->Prop)(g:Int)(w:World)(l:Hid (dK base a room ws nm M w))(t:ws.length<=100000):am 130 #[.pointer (some ⟨a.b,a.o,none⟩),.agg #[ab 4,ab g]] w λe w'=>e=.returned (.bool (fU ws g))/\aj w w':=by
 obtain⟨d,f,s,k,p⟩:∃d f,a.b<w.heap.size/\w.cell? ⟨a.b,a.o+1,none⟩=some (ae d ws.length f)/\Hid (∀wA,aj w wA->am 163 #[ae d ws.length f,ab g] wA λe w'=>e=.returned (.bool (fU ws g))/\w'=wA):=by
  obtain⟨u,B,C,m,n,A,_⟩:=l.out;obtain⟨d,f,rfl⟩:∃d f,u=ae d ws.length f:=by
   rcases n.2 with⟨e,q⟩|⟨z,c,x,e,_⟩
   ·exact⟨none,0,by rw[e,q]⟩
   ·exact⟨_,c,e⟩
  exact⟨d,f,m.lt,m.cells.1.2.1,λwA r=>CY base d ws.length f ws g wA rfl t (dS n r)⟩
 clear l;generalize fU ws g=v at*;generalize ws.length=j at*;go_enter func130,ntmps130;go_wp2_with fail;generalize i:w.alloc (Obj.cells #[Value.int IntKind.i64 4,Value.int IntKind.i64 g] 154)=wA;have h:Hid (aj w wA.drew):=by subst i;exact((ap _ _).alloc (ak _) _).drew
 have y:wA.cell? ⟨w.heap.size,1,none⟩=some (ab g):=by subst i;simp[go_sem]
 replace k:wA.cell? ⟨a.b,a.o+1,none⟩=some (ae d j f):=(ar h a.b (a.o+1) s).trans k;clear i;go_region_held3 (λw'=>w'.cell? ⟨w.heap.size,1,none⟩=some (ab g)/\w'.cell? ⟨a.b,a.o+1,none⟩=some (ae d j f)) (go_keep) ((go_at_call 163;refine(p _ h).mono ?_;rintro e D ⟨rfl,rfl⟩));go_wp2_with fail
 go_ret
 exact⟨rfl,h⟩
theorem Cr(a:cu)(k h:Int)(w:World)(c:¬k=1)(d:¬k=2)(f:¬k=3)(g:¬k=4):am 130 #[.pointer (some ⟨a.b,a.o,none⟩),.agg #[ab k,ab h]] w λe w'=>e=.returned (.bool false)/\aj w w':=by
 have i:(k==1)=false:=by simpa using c
 have j:(k==2)=false:=by simpa using d
 have l:(k==3)=false:=by simpa using f
 have m:(k==4)=false:=by simpa using g
 go_enter func130,ntmps130;go_wp2_with fail
 go_ret
 exact⟨rfl,by go_grown⟩
theorem vX(base:Nat)(c:cu)(room:Int)(ws:List Wd)(nm:List ByteArray)(M:Nat->Prop)(v:Wd)(w:World)(i:dK base c room ws nm M w)(l:ws.length<=100000)(j:dt v.2):am 130 #[.pointer (some ⟨c.b,c.o,none⟩),I9 v] w λe w'=>e=.returned (.bool (cI ws nm v))/\aj w w':=by
 obtain⟨k,a⟩:=v;by_cases d:k=1
 ·exact vY c ws nm k a w (ah d) j
 ·by_cases g:k=3
  ·exact vY c ws nm k a w (ai g) j
  ·by_cases f:k=2
   ·subst f;have e:cI ws nm (2,a)=vd nm.length a:=by simp[cI]
    rw[e];exact Cq base c room ws nm M a w i
   ·by_cases h:k=4
    ·subst h;have e:cI ws nm (4,a)=fU ws a:=by simp[cI]
     rw[e];exact Ek base c room ws nm M a w i l
    ·have e:cI ws nm (k,a)=false:=by simp[cI,d,f,g,h]
     rw[e];exact Cr c k a w d f g h
theorem yM(base:Nat)(j:cu)(room:Int)(ws:List Wd)(nm:List ByteArray)(M:Nat->Prop)(vs:List Wd)(a:Option Addr)(len pc:Nat)(w:World)(r:Hid (dK base j room ws nm M w))(D:ws.length<=100000)(y:Hid (vs.length=len))(I:len<=100000)(x:Hid (eN w vs a))(u:Hid (∀v∈vs,dt v.2)):am 194 #[.pointer (some ⟨j.b,j.o,none⟩),ae a len pc] w λe w'=>e=.returned (.bool (vs.all (cI ws nm)))/\aj w w':=by
 go_enter func194,ntmps194;go_wp2_with fail;go_loopw [9] (λg wr=>∃k:Nat,k<=len/\g=ab k/\Hid (aj w wr/\(vs.take k).all (cI ws nm)=true)) (λg _=>len-(intOf g).toNat)
 case atStart=>exact⟨0,by omega,rfl,ap _ _,by simp⟩
 case round=>
  obtain⟨k,F,rfl,c⟩:=hrel;by_cases C:k<len
  ·obtain⟨v,f⟩:∃v,vs[k]?=some v:=⟨vs[k]'(by rw[y.out];exact C),aG _⟩;obtain⟨b,o,rfl,t,z⟩:∃b o,a=some ⟨b,o,none⟩/\b<w.heap.size/\∀(g:Nat)(v:Wd),vs[g]?=some v->w.cell? ⟨b,o+g*2,none⟩=some (ab v.1)/\w.cell? ⟨b,o+g*2+1,none⟩=some (ab v.2):=by
    rcases x.out with e|e
    ·rw[e]at f;simp at f
    ·exact e
   obtain⟨p,q⟩:=z k v f;replace p:=(ar c.1 b (o+k*2) t).trans p;replace q:=(ar c.1 b (o+k*2+1) t).trans q
   have h:Hid (∀(d:World),aj wr d->am 130 #[.pointer (some ⟨j.b,j.o,none⟩),.agg #[ab v.1,ab v.2]] d λe w'=>e=.returned (.bool (cI ws nm v))/\aj d w'):=
    λd B=>vX base j room ws nm _ v d (r.later (c.1.trans (B.mono c.1.size))) D (u v (aH f))
   have i:Hid ((cI ws nm v=true->(vs.take (k+1)).all (cI ws nm)=true)/\(cI ws nm v=false->vs.all (cI ws nm)=false)):=by
    refine⟨λe=>?_,λe=>?_⟩
    ·rw[dq,f,jg,c.out.2];simp[e]
    ·cases ha:vs.all (cI ws nm)
     ·rfl
     ·rw[bZ]at ha;rw[ha v (aH f)]at e;exact e
   have m:Hid (aj w wr):=c.1;clear f z x r u c;have G:(0:Int)<=(k:Int):=by omega
   have H:(k:Int)<(len:Int):=by omega
   have E:=m.size;have J:b<wr.heap.size:=by omega
   clear E;cases hsb:cI ws nm v
   ·rw[hsb]at h;replace i:=aq (i.2 hsb);clear hsb;go_wp2_with fail;refine(h _ ((ap _ _).alloc (ak _) _)).mono ?_;rintro e d ⟨rfl,n⟩;have l:Hid (aj w d):=m.trans ((((ap _ _).alloc (ak _) _).trans (n.mono (by simp))).mono m.size);clear n p q h;go_wp2_with fail
    go_ret
    exact⟨eS i.symm,l⟩
   ·rw[hsb]at h;replace i:=aq (i.1 hsb);clear hsb;go_wp2_with fail;refine(h _ ((ap _ _).alloc (ak _) _)).mono ?_;rintro e d ⟨rfl,n⟩;have l:Hid (aj w d):=m.trans ((((ap _ _).alloc (ak _) _).trans (n.mono (by simp))).mono m.size);clear n p q h;go_wp2_with fail;go_roundw
    case rel=>exact⟨k+1,by omega,by go_num,l,i⟩
    case measure=>simp[intOf];omega
  ·have A:Hid (vs.all (cI ws nm)=true):=by
     have s:=c.2;rw[bu (by have:=y.out;omega)]at s;exact s
   have l:Hid (aj w wr):=c.1;clear c;go_wp2_with fail
   go_ret
   exact⟨eS A.symm,l⟩
def lM(q:Nat)(k b:Int)(s:ByteArray)(a:Option Addr)(l c:Nat)(w:World):Prop:=
 w.heap[q]?=some (.cells #[ab k,ab b,af s,ae a l c] 28)/\w.heap[q+1]?=some (.cells #[ab 0,ab 0] 154)
theorem ui(w:World)(k b:Int)(s:ByteArray)(a:Option Addr)(l c:Nat):lM w.heap.size k b s a l c ((w.alloc (Obj.cells #[ab k,ab b,af s,ae a l c] 28)).alloc (Obj.cells #[ab 0,ab 0] 154)):=by
 refine⟨((dd (w.alloc (Obj.cells #[ab k,ab b,af s,ae a l c] 28)) (Obj.cells #[ab 0,ab 0] 154) none).block _ (by simp) (by simp)).trans (aE w _),?_⟩;have:=aE (w.alloc (Obj.cells #[ab k,ab b,af s,ae a l c] 28)) (Obj.cells #[ab 0,ab 0] 154);have es:∀o,(w.alloc o).heap.size=w.heap.size+1:=λo=>by simp
 rw[es]at this;exact this
theorem lM.facts{q:Nat}{k b:Int}{s:ByteArray}{a:Option Addr}{l c:Nat}{w:World}(d:lM q k b s a l c w):(w.cell? ⟨q,0,none⟩=some (ab k)/\w.cell? ⟨q,1,none⟩=some (ab b)/\w.cell? ⟨q,2,none⟩=some (af s)/\w.cell? ⟨q,3,none⟩=some (ae a l c))/\(w.cell? ⟨q+1,0,none⟩=some (ab 0)/\w.cell? ⟨q+1,1,none⟩=some (ab 0))/\w.frozen? ⟨q+1,0,none⟩=false/\w.frozen? ⟨q+1,1,none⟩=false:=by
 obtain⟨e,f⟩:=d;refine⟨⟨?_,?_,?_,?_⟩,⟨?_,?_⟩,?_,?_⟩
 all_goals simp[World.cell?,World.frozen?,e,f]
theorem fM{k f:Int}{s:ByteArray}{a:Option Addr}{l c:Nat}{w w1 w2:World}(g:aj w w1/\w.heap.size+2<=w1.heap.size/\lM w.heap.size k f s a l c w1)(b:aj w1 w2):aj w w2/\w.heap.size+2<=w2.heap.size/\lM w.heap.size k f s a l c w2:=by
 obtain⟨d,h,e⟩:=g;have:=b.size;exact⟨d.trans (b.mono d.size),by omega,(b.block _ (by omega)).trans e.1,(b.block _ (by omega)).trans e.2⟩
theorem qj{k j:Int}{s:ByteArray}{a:Option Addr}{l c:Nat}{w w1:World}(d:aj w w1/\w.heap.size+2<=w1.heap.size/\lM w.heap.size k j s a l c w1)(v0 v1:Value):aj w ((w1.setCell ⟨w.heap.size+1,0,none⟩ v0).setCell ⟨w.heap.size+1,1,none⟩ v1):=by
 obtain⟨f,m,n⟩:=d;have h:=bm w1 (w.heap.size+1) 0 v0;have i:=bm (w1.setCell ⟨w.heap.size+1,0,none⟩ v0) (w.heap.size+1) 1 v1;have e:=(aY f (λb=>b=w.heap.size+1)).trans (h.trans i (λb _ d=>d)) (λb _ d=>d);exact⟨e.os,e.tape,e.output,e.size,λb g=>e.block b g (by omega)⟩
theorem OO(m:cu)(k f:Int)(s:ByteArray)(a:Option Addr)(l c:Nat)(w:World)(d:Int)(t:(d !=0)=true)(p:Hid (∀w1,aj w w1->am 23 #[.agg #[ab k,ab f,af s,ae a l c]] w1 λe w'=>e=.returned (ab d)/\aj w1 w')):am 79 #[.pointer (some ⟨m.b,m.o,none⟩),.agg #[ab k,ab f,af s,ae a l c]] w λe w'=>e=.returned (.tuple #[.agg #[ab 0,ab 0],ab d])/\aj w w':=by
 go_enter func79,ntmps79;go_wp2_with fail;generalize n:(w.alloc (Obj.cells #[ab k,ab f,af s,ae a l c] 28)).alloc (Obj.cells #[ab 0,ab 0] 154)=h;have g:Hid (aj w h/\w.heap.size+2<=h.heap.size/\lM w.heap.size k f s a l c h):=by
  subst n;exact⟨((ap _ _).alloc (ak _) _).alloc (by simp) _,by simp,ui _ _ _ _ _ _ _⟩
 clear n;refine(p _ g.1).mono ?_;rintro e w1 ⟨rfl,j⟩;have i:=aq (fM g j);obtain⟨⟨t0,t1,t2,t3⟩,⟨q,r⟩,f0,f1⟩:=i.out.2.2.facts;clear j g;go_wp2_with fail;exact av (v:=.tuple #[.agg #[ab 0,ab 0],ab d]) (by simp[results,results79,go_sem,q,r]) rfl ⟨rfl,qj i _ _⟩
theorem OP(p:cu)(k f:Int)(s:ByteArray)(a:Option Addr)(l c:Nat)(w:World)(r:Hid (∀w1,aj w w1->am 23 #[.agg #[ab k,ab f,af s,ae a l c]] w1 λe w'=>e=.returned (ab 0)/\aj w1 w'))(t:Hid (∀w1,aj w w1->am 75 #[.agg #[ab k,ab f,af s,ae a l c]] w1 λe w'=>e=.returned (.bool false)/\aj w1 w')):am 79 #[.pointer (some ⟨p.b,p.o,none⟩),.agg #[ab k,ab f,af s,ae a l c]] w λe w'=>e=.returned (.tuple #[.agg #[ab 0,ab 0],ab 5])/\aj w w':=by
 go_enter func79,ntmps79;go_wp2_with fail;generalize q:(w.alloc (Obj.cells #[ab k,ab f,af s,ae a l c] 28)).alloc (Obj.cells #[ab 0,ab 0] 154)=m;have h:Hid (aj w m/\w.heap.size+2<=m.heap.size/\lM w.heap.size k f s a l c m):=by
  subst q;exact⟨((ap _ _).alloc (ak _) _).alloc (by simp) _,by simp,ui _ _ _ _ _ _ _⟩
 clear q;refine(r _ h.1).mono ?_;rintro e w1 ⟨rfl,d⟩;have g:=aq (fM h d);obtain⟨⟨t0,t1,t2,t3⟩,⟨i,j⟩,f0,f1⟩:=g.out.2.2.facts;clear d h;go_wp2_with fail;clear t0 t1 t2 t3 i j f0 f1;refine(t _ g.1).mono ?_;rintro e u ⟨rfl,d⟩;have n:=aq (fM g d);obtain⟨⟨t0,t1,t2,t3⟩,⟨i,j⟩,f0,f1⟩:=n.out.2.2.facts;clear d g;go_wp2_with fail;exact av (v:=.tuple #[.agg #[ab 0,ab 0],ab 5]) (by simp[results,results79,go_sem,i,j]) rfl ⟨rfl,qj n _ _⟩
theorem OQ(n:cu)(k h:Int)(s:ByteArray)(a:Option Addr)(l c:Nat)(w:World)(u:Int)(x:Hid (∀w1,aj w w1->am 23 #[.agg #[ab k,ab h,af s,ae a l c]] w1 λe w'=>e=.returned (ab 0)/\aj w1 w'))(z:Hid (∀w1,aj w w1->am 75 #[.agg #[ab k,ab h,af s,ae a l c]] w1 λe w'=>e=.returned (.bool true)/\aj w1 w'))(A:Hid (∀w1,aj w w1->am 54 #[.agg #[ab k,ab h,af s,ae a l c]] w1 λe w'=>e=.returned (ab u)/\aj w1 w'))(y:Hid (∀w1,aj w w1->am 107 #[.pointer (some ⟨n.b,n.o,none⟩),ab u] w1 λe w'=>e=.returned (.bool false)/\aj w1 w')):am 79 #[.pointer (some ⟨n.b,n.o,none⟩),.agg #[ab k,ab h,af s,ae a l c]] w λe w'=>e=.returned (.tuple #[.agg #[ab 0,ab 0],ab 6])/\aj w w':=by
 go_enter func79,ntmps79;go_wp2_with fail;generalize t:(w.alloc (Obj.cells #[ab k,ab h,af s,ae a l c] 28)).alloc (Obj.cells #[ab 0,ab 0] 154)=q;have p:Hid (aj w q/\w.heap.size+2<=q.heap.size/\lM w.heap.size k h s a l c q):=by
  subst t;exact⟨((ap _ _).alloc (ak _) _).alloc (by simp) _,by simp,ui _ _ _ _ _ _ _⟩
 clear t;refine(x _ p.1).mono ?_;rintro e w1 ⟨rfl,d⟩;have i:=aq (fM p d);obtain⟨⟨t0,t1,t2,t3⟩,⟨f,g⟩,f0,f1⟩:=i.out.2.2.facts;clear d p;go_wp2_with fail;clear t0 t1 t2 t3 f g f0 f1;refine(z _ i.1).mono ?_;rintro e B ⟨rfl,d⟩;have j:=aq (fM i d);obtain⟨⟨t0,t1,t2,t3⟩,⟨f,g⟩,f0,f1⟩:=j.out.2.2.facts;clear d i;go_wp2_with fail;clear t0 t1 t2 t3 f g f0 f1;refine(A _ j.1).mono ?_;rintro e C ⟨rfl,d⟩;have m:=aq (fM j d);obtain⟨⟨t0,t1,t2,t3⟩,⟨f,g⟩,f0,f1⟩:=m.out.2.2.facts;clear d j;go_wp2_with fail;clear t0 t1 t2 t3 f g f0 f1;refine(y _ m.1).mono ?_;rintro e D ⟨rfl,d⟩;have r:=aq (fM m d);obtain⟨⟨t0,t1,t2,t3⟩,⟨f,g⟩,f0,f1⟩:=r.out.2.2.facts;clear d m;go_wp2_with fail;exact av (v:=.tuple #[.agg #[ab 0,ab 0],ab 6]) (by simp[results,results79,go_sem,f,g]) rfl ⟨rfl,qj r _ _⟩
theorem OR(g:cu)(k j:Int)(s:ByteArray)(a:Option Addr)(l c:Nat)(w:World)(y:Int)(V:Wd)(base:Nat)(room:Int)(ws:List Wd)(nm:List ByteArray)(M:Nat->Prop)(z:Hid (∀w1,aj w w1->am 23 #[.agg #[ab k,ab j,af s,ae a l c]] w1 λe w'=>e=.returned (ab 0)/\aj w1 w'))(C:Hid (∀w1,aj w w1->am 75 #[.agg #[ab k,ab j,af s,ae a l c]] w1 λe w'=>e=.returned (.bool true)/\aj w1 w'))(D:Hid (∀w1,aj w w1->am 54 #[.agg #[ab k,ab j,af s,ae a l c]] w1 λe w'=>e=.returned (ab y)/\aj w1 w'))(B:Hid (∀w1,aj w w1->am 107 #[.pointer (some ⟨g.b,g.o,none⟩),ab y] w1 λe w'=>e=.returned (.bool true)/\aj w1 w'))(E:Hid (∀w1,aj w w1->am 108 #[.pointer (some ⟨g.b,g.o,none⟩),.agg #[ab k,ab j,af s,ae a l c]] w1 λe w'=>e=.returned (.agg #[ab V.1,ab V.2])/\Hid (lU base g room ws nm (λb=>M b/\b<w.heap.size) w1 w'))):am 79 #[.pointer (some ⟨g.b,g.o,none⟩),.agg #[ab k,ab j,af s,ae a l c]] w λe w'=>e=.returned (.tuple #[.agg #[ab V.1,ab V.2],ab 0])/\Hid (lU base g room ws nm M w w'):=by
 go_enter func79,ntmps79;go_wp2_with fail;generalize x:(w.alloc (Obj.cells #[ab k,ab j,af s,ae a l c] 28)).alloc (Obj.cells #[ab 0,ab 0] 154)=u;have r:Hid (aj w u/\w.heap.size+2<=u.heap.size/\lM w.heap.size k j s a l c u):=by
  subst x;exact⟨((ap _ _).alloc (ak _) _).alloc (by simp) _,by simp,ui _ _ _ _ _ _ _⟩
 clear x;refine(z _ r.1).mono ?_;rintro e w1 ⟨rfl,d⟩;have n:=aq (fM r d);obtain⟨⟨t0,t1,t2,t3⟩,⟨h,i⟩,f0,f1⟩:=n.out.2.2.facts;clear d r;go_wp2_with fail;clear t0 t1 t2 t3 h i f0 f1;refine(C _ n.1).mono ?_;rintro e H ⟨rfl,d⟩;have p:=aq (fM n d);obtain⟨⟨t0,t1,t2,t3⟩,⟨h,i⟩,f0,f1⟩:=p.out.2.2.facts;clear d n;go_wp2_with fail;clear t0 t1 t2 t3 h i f0 f1;refine(D _ p.1).mono ?_;rintro e I ⟨rfl,d⟩;have q:=aq (fM p d);obtain⟨⟨t0,t1,t2,t3⟩,⟨h,i⟩,f0,f1⟩:=q.out.2.2.facts;clear d p;go_wp2_with fail;clear t0 t1 t2 t3 h i f0 f1;refine(B _ q.1).mono ?_;rintro e J ⟨rfl,d⟩;have f:=aq (fM q d);obtain⟨⟨t0,t1,t2,t3⟩,⟨h,i⟩,f0,f1⟩:=f.out.2.2.facts;clear d q;go_wp2_with fail;refine(E _ f.1).mono ?_;rintro e K ⟨rfl,t⟩;have m:=vn t;have d0:=(m (w.heap.size+1) (by omega) (by have:=f.2.1;omega) 0).1.trans h;have d1:=(m (w.heap.size+1) (by omega) (by have:=f.2.1;omega) 1).1.trans i;have F:=(m (w.heap.size+1) (by omega) (by have:=f.2.1;omega) 0).2.trans f0;have G:=(m (w.heap.size+1) (by omega) (by have:=f.2.1;omega) 1).2.trans f1;have A:=aq (Bt t f.1 f.2.1 (ab V.1) (ab V.2));clear m t0 t1 t2 t3 h i f0 f1 t;go_wp2_with fail;exact av (v:=.tuple #[.agg #[ab V.1,ab V.2],ab 0]) (by simp[results,results79,go_sem,d0,d1]) rfl ⟨rfl,A⟩
theorem vE:(n:Nat)->(x:Tm n)->aD ⟨n,x⟩->((ax n x).length:Int)<=sz n x+1
 | 0,_,_=>by simp[ax,sz]
 | n+1,x,h=>by
  have c:=eI (bw n x) (h (bw n x) (by simp[ax,bw]));by_cases a:x.1.1=4
  ·have key:∀l:List (Tm n),(∀y∈l,aD ⟨n,y⟩)->((l.flatMap λy=>ax n y).length:Int)<=(l.map λy=>1+sz n y).sum:=by
     intro l
     induction l with
     | nil=>intro _;simp
     | cons y l ih=>
      intro b;have g:=vE n y (b y (by simp));have i:=ih (λf e=>b f (by simp[e]));simp only[bz,bk,aM,bA];omega
   have k:=key x.2.2 (λy d=>aU n x y h d);simp only[ax,bf,sz,if_pos a];omega
  ·have:x.2.2=[]:=bF (c.2.2.2.2 a);simp[ax,this,sz,a]
theorem Jx{n:Nat}{x:Tm n}(a:bv n x=0):bI n x=true:=by
 rw[<-gj]at a;unfold wV at a;cases hf:bI n x
 ·simp[hf]at a
 ·rfl
def jL(n:Nat)(x:Tm n)(room:Int)(ws:List Wd):Int:=if bv n x≠0 then bv n x else if aK n x=false then 5 else if decide (sz n x<=room-ws.length)=false then 6 else 0
def Jc(n:Nat)(x:Tm n)(base:Nat)(a:cu)(room:Int)(ws:List Wd)(nm:List ByteArray)(M:Nat->Prop)(w:World)(e:Ending)(w':World):Prop:=
 (jL n x room ws≠0->e=.returned (.tuple #[I9 (0,0),ab (jL n x room ws)])/\aj w w')/\
 (jL n x room ws=0->(bv n x=0/\aK n x=true/\sz n x<=room-ws.length)/\e=.returned (.tuple #[I9 (aV n x ws nm).1,ab 0])/\lU base a room (aV n x ws nm).2.1 (aV n x ws nm).2.2 M w w')
theorem ve(n:Nat)(x:Tm n)(base:Nat)(e:cu)(room:Int)(ws:List Wd)(nm:List ByteArray)(M:Nat->Prop)(w:World)(A:dK base e room ws nm M w)(m:In w.heap.size w n x)(G:cd (λb=>¬M b) n x)(B:(ax n x).length<=2097152)(S:base<=w.heap.size)(I:0<=room)(H:room<=1000)(V:ws.length<=1000)(T:nm.length<=50000):am 79 #[.pointer (some ⟨e.b,e.o,none⟩),df n x] w (Jc n x base e room ws nm M w):=by
 cases n with
 | zero=>exact m.elim
 | succ n=>
 have k:∀a,aj w a->am 23 #[df (n+1) x] a λd g=>d=.returned (ab (bv (n+1) x))/\aj a g:=λa f=>dC (n+1) x w.heap.size a (m.below f) f.size B;have l:∀a,aj w a->am 75 #[df (n+1) x] a λd g=>d=.returned (.bool (aK (n+1) x))/\aj a g:=λa f=>iH (n+1) x w.heap.size a (m.below f) f.size;have z:∀a,aj w a->am 54 #[df (n+1) x] a λd g=>d=.returned (ab (sz (n+1) x))/\aj a g:=λa f=>yu (n+1) x w.heap.size a (m.below f) f.size B;have q:∀a,aj w a->am 107 #[.pointer (some ⟨e.b,e.o,none⟩),ab (sz (n+1) x)] a λd g=>d=.returned (.bool (decide (sz (n+1) x<=room-ws.length)))/\aj a g:=by
  intro a f;obtain⟨P,N,O,K,L,W,_⟩:=A.later f;obtain⟨v,y,rfl⟩:∃v y,P=ae v ws.length y:=by
   rcases L.2 with⟨d,E⟩|⟨R,c,Q,d,_⟩
   ·exact⟨none,0,by rw[d,E]⟩
   ·exact⟨_,c,d⟩
  exact Bm e room (sz (n+1) x) v ws.length y N O a (by omega) I H K
 by_cases i:bv (n+1) x=0
 ·rw[i]at k;by_cases u:aK (n+1) x=false
  ·rw[u]at l;have d:jL (n+1) x room ws=5:=by simp[jL,i,u]
   refine(OP e x.1.1 x.1.2.1 x.1.2.2 x.2.1.1 x.2.2.length x.2.1.2 w k l).mono ?_;rintro s g ⟨rfl,h⟩;exact⟨λ_=>⟨by rw[d];rfl,h⟩,λj=>absurd (d.symm.trans j) (by decide)⟩
  ·have r:aK (n+1) x=true:=by simpa using u
   rw[r]at l;by_cases p:sz (n+1) x<=room-ws.length
   ·have t:decide (sz (n+1) x<=room-ws.length)=true:=by simpa using p
    rw[t]at q;have d:jL (n+1) x room ws=0:=by simp[jL,i,r,p]
    have C:aD ⟨n+1,x⟩:=aL.2 (Jx i);have U:=vE (n+1) x C;have D:∀a,aj w a->am 108 #[.pointer (some ⟨e.b,e.o,none⟩),df (n+1) x] a λd g=>d=.returned (I9 (aV (n+1) x ws nm).1)/\Hid (lU base e room (aV (n+1) x ws nm).2.1 (aV (n+1) x ws nm).2.2 (λb=>M b/\b<w.heap.size) a g):=by
     intro a f;have J:=f.size;exact MN (n+1) x base e room ws nm _ a (A.later f) ((m.below f).mono J) (G.mono λb h F=>h F.1) (by omega) C (by omega) (by omega)
    refine(OR e x.1.1 x.1.2.1 x.1.2.2 x.2.1.1 x.2.2.length x.2.1.2 w (sz (n+1) x) (aV (n+1) x ws nm).1 base room (aV (n+1) x ws nm).2.1 (aV (n+1) x ws nm).2.2 M k l z q D).mono ?_;rintro s g ⟨rfl,h⟩;exact⟨λj=>absurd d j,λ_=>⟨⟨i,r,p⟩,rfl,h⟩⟩
   ·have t:decide (sz (n+1) x<=room-ws.length)=false:=by simpa using p
    rw[t]at q;have d:jL (n+1) x room ws=6:=by simp[jL,i,r,p]
    refine(OQ e x.1.1 x.1.2.1 x.1.2.2 x.2.1.1 x.2.2.length x.2.1.2 w (sz (n+1) x) k l z q).mono ?_;rintro s g ⟨rfl,h⟩;exact⟨λ_=>⟨by rw[d];rfl,h⟩,λj=>absurd (d.symm.trans j) (by decide)⟩
 ·have d:jL (n+1) x room ws=bv (n+1) x:=by simp[jL,i]
  refine(OO e x.1.1 x.1.2.1 x.1.2.2 x.2.1.1 x.2.2.length x.2.1.2 w (bv (n+1) x) (by simpa using i) k).mono ?_;rintro s g ⟨rfl,h⟩;exact⟨λ_=>⟨by rw[d];rfl,h⟩,λj=>absurd (d.symm.trans j) i⟩
def pX(q:Nat)(k a:Int)(w:World):Prop:=w.heap[q]?=some (.cells #[ab k,ab a] 154)/\qK (q+1) w
theorem Ff(w:World)(k a:Int):pX w.heap.size k a ((w.alloc (Obj.cells #[ab k,ab a] 154)).alloc (Obj.cells #[ab 0,ab 0,af ⟨#[]⟩,ae none 0 0] 28)):=by
 refine⟨((dd (w.alloc (Obj.cells #[ab k,ab a] 154)) (Obj.cells #[ab 0,ab 0,af ⟨#[]⟩,ae none 0 0] 28) none).block _ (by simp) (by simp)).trans (aE w _),?_⟩;have:=aE (w.alloc (Obj.cells #[ab k,ab a] 154)) (Obj.cells #[ab 0,ab 0,af ⟨#[]⟩,ae none 0 0] 28);have es:∀o,(w.alloc o).heap.size=w.heap.size+1:=λo=>by simp
 rw[es]at this;exact this
theorem uY{k d:Int}{w w1 w2:World}(e:aj w w1/\w.heap.size+2<=w1.heap.size/\pX w.heap.size k d w1)(a:aj w1 w2):aj w w2/\w.heap.size+2<=w2.heap.size/\pX w.heap.size k d w2:=by
 obtain⟨b,f,c⟩:=e;have:=a.size;exact⟨b.trans (a.mono b.size),by omega,(a.block _ (by omega)).trans c.1,(a.block _ (by omega)).trans c.2⟩
theorem pX.cells{q:Nat}{k a:Int}{w:World}(b:pX q k a w):w.cell? ⟨q,0,none⟩=some (ab k)/\w.cell? ⟨q,1,none⟩=some (ab a):=by
 obtain⟨c,_⟩:=b;refine⟨?_,?_⟩
 all_goals simp[World.cell?,c]
theorem PN(c:cu)(k d:Int)(w:World)(j:Hid (∀w1,aj w w1->am 130 #[.pointer (some ⟨c.b,c.o,none⟩),.agg #[ab k,ab d]] w1 λe w'=>e=.returned (.bool false)/\aj w1 w')):am 109 #[.pointer (some ⟨c.b,c.o,none⟩),.agg #[ab k,ab d]] w λe w'=>e=.returned (.tuple #[.agg #[ab 0,ab 0,af .empty,ae none 0 0],ab 1])/\aj w w':=by
 go_enter func109,ntmps109;go_wp2_with fail;generalize h:(w.alloc (Obj.cells #[ab k,ab d] 154)).alloc (Obj.cells #[ab 0,ab 0,af ⟨#[]⟩,ae none 0 0] 28)=g;have a:Hid (aj w g/\w.heap.size+2<=g.heap.size/\pX w.heap.size k d g):=by
  subst h;exact⟨((ap _ _).alloc (ak _) _).alloc (by simp) _,by simp,Ff _ _ _⟩
 clear h;refine(j _ a.1).mono ?_;rintro e w1 ⟨rfl,f⟩;have i:=aq (uY a f);obtain⟨⟨m,n,p,q⟩,f0⟩:=i.2.2.2.cells;have l:=aq (λr s t u=>yP a.1 f r s t u);clear f a;go_wp2_with fail;exact av (v:=.tuple #[.agg #[ab 0,ab 0,af .empty,ae none 0 0],ab 1]) (by simp[results,results109,go_sem,m,n,p,q];rfl) rfl ⟨rfl,l _ _ _ _⟩
theorem OD(n:Nat)(x:Tm (n+1))(c:cu)(k d:Int)(w:World)(A:Hid (∀w1,aj w w1->am 130 #[.pointer (some ⟨c.b,c.o,none⟩),.agg #[ab k,ab d]] w1 λe w'=>e=.returned (.bool true)/\aj w1 w'))(C:Hid (∀w1,aj w w1->am 131 #[.pointer (some ⟨c.b,c.o,none⟩),.agg #[ab k,ab d]] w1 λe w'=>∃y:Tm (n+1),e=.returned (df (n+1) y)/\Hid (aj w1 w'/\In w'.heap.size w' (n+1) y/\cd (λq=>w1.heap.size<=q) (n+1) y/\ay (n+1) y (n+1) x=true))):am 109 #[.pointer (some ⟨c.b,c.o,none⟩),.agg #[ab k,ab d]] w λe w'=>∃y:Tm (n+1),e=.returned (.tuple #[df (n+1) y,ab 0])/\Hid (aj w w'/\In w'.heap.size w' (n+1) y/\cd (λq=>w.heap.size<=q) (n+1) y/\ay (n+1) y (n+1) x=true):=by
 go_enter func109,ntmps109;go_wp2_with fail;generalize t:(w.alloc (Obj.cells #[ab k,ab d] 154)).alloc (Obj.cells #[ab 0,ab 0,af ⟨#[]⟩,ae none 0 0] 28)=m;have j:Hid (aj w m/\w.heap.size+2<=m.heap.size/\pX w.heap.size k d m):=by
  subst t;exact⟨((ap _ _).alloc (ak _) _).alloc (by simp) _,by simp,Ff _ _ _⟩
 clear t;refine(A _ j.1).mono ?_;rintro e w1 ⟨rfl,s⟩;have a:=aq (uY j s);obtain⟨t0,t1⟩:=a.out.2.2.cells;clear s j;go_wp2_with fail;refine(C _ a.1).mono ?_;rintro e p ⟨y,rfl,l⟩;have z:=aq (uY a l.1);obtain⟨⟨H,I,J,K⟩,f0⟩:=z.2.2.2.cells;have B:Hid (∀f g h i,aj w (cW p (w.heap.size+1) 0 f g h i)/\In (cW p (w.heap.size+1) 0 f g h i).heap.size (cW p (w.heap.size+1) 0 f g h i) (n+1) y/\cd (λq=>w.heap.size<=q) (n+1) y/\ay (n+1) y (n+1) x=true):=by
  intro f g h i;obtain⟨E,F,u,G⟩:=l.out;have L:=a.2.1;refine⟨yP a.1 E f g h i,?_,u.mono λq D=>by omega,G⟩;rw[bq];exact In.off (λq D=>aW (by omega) _ _ _ _) u F
 have r:df (n+1) y=.agg #[ab y.1.1,ab y.1.2.1,af y.1.2.2,ae y.2.1.1 y.2.2.length y.2.1.2]:=rfl;rw[r];clear t0 t1 l a r;go_wp2_with fail;exact av (v:=.tuple #[df (n+1) y,ab 0]) (by simp[results,results109,go_sem,H,I,J,K,df]) rfl ⟨y,rfl,B _ _ _ _⟩
theorem DZ{c:Type}{l b:List c}(d:l <+:b){i:Nat}{x:c}(a:l[i]?=some x):b[i]?=some x:=by
 obtain⟨e,rfl⟩:=d;rw[dm (aO.1 a).1];exact a
theorem dL.mono{ws l:List Wd}{nm k:List ByteArray}(d:ws <+:l)(j:nm <+:k):{n:Nat}->{x:Tm n}->{v:Wd}->dL ws nm n x v->dL l k n x v
 | 0,_,_,h=>h
 | n+1,x,v,h=>by
  obtain⟨a,b,c⟩:=h;refine⟨λe=>?_,λe=>?_,c⟩
  ·obtain⟨i,f,g⟩:=a e;exact⟨i,f,DZ j g⟩
  ·obtain⟨p,f,g,m,o⟩:=b e;refine⟨p,f,DZ d g,az m d.length_le,λi y s=>?_⟩;obtain⟨t,q,r⟩:=o i y s;exact⟨t,DZ d q,r.mono d j⟩
theorem G5(nm:List ByteArray)(s:ByteArray):nm <+:eK nm s:=by
 unfold eK;split
 ·exact gz _
 ·exact pt _ _
theorem rm{n:Nat}(f:∀(x:Tm n)(ws:List Wd)(nm:List ByteArray),ws <+:(aV n x ws nm).2.1/\nm <+:(aV n x ws nm).2.2)(l:List (Tm n))(ws:List Wd)(nm:List ByteArray):ws <+:(bM (aV n) l ws nm).2.1/\nm <+:(bM (aV n) l ws nm).2.2:=by
 induction l generalizing ws nm with
 | nil=>exact⟨gz _,gz _⟩
 | cons a l ih=>
  obtain⟨d,b⟩:=f a ws nm;obtain⟨c,e⟩:=ih (aV n a ws nm).2.1 (aV n a ws nm).2.2;exact⟨d.trans c,b.trans e⟩
theorem mm:(n:Nat)->(x:Tm n)->(ws:List Wd)->(nm:List ByteArray)->ws <+:(aV n x ws nm).2.1/\nm <+:(aV n x ws nm).2.2
 | 0,_,_,_=>⟨gz _,gz _⟩
 | n+1,x,ws,nm=>by
  by_cases c:x.1.1=2
  ·simp only[aV,if_pos c];exact⟨gz _,G5 _ _⟩
  ·by_cases d:x.1.1=4
   ·simp only[aV,if_neg c,if_pos d];obtain⟨a,b⟩:=rm (mm n) x.2.2 ws nm;exact⟨a.trans (pt _ _),b⟩
   ·simp only[aV,if_neg c,if_neg d];exact⟨gz _,gz _⟩
theorem KC(nm:List ByteArray)(s:ByteArray):(eK nm s)[lh (eK nm s) s]?=some s:=by
 have d:s∈eK nm s:=by
  unfold eK;split
  ·rename_i b;exact(zC nm s).1 b
  ·simp
 have a:lh (eK nm s) s<(eK nm s).length:=by
  unfold lh;rw[List.findIdx_lt_length];exact⟨s,d,(oP s s).2 rfl⟩
 have c:(eK nm s)[lh (eK nm s) s]'a=s:=(oP s _).1 (List.findIdx_getElem (w:=a));rw[aG a,c]
theorem oh{n:Nat}(j:∀(x:Tm n)(ws:List Wd)(nm:List ByteArray),aD ⟨n,x⟩->dL (aV n x ws nm).2.1 (aV n x ws nm).2.2 n x (aV n x ws nm).1)(l:List (Tm n))(ws:List Wd)(nm:List ByteArray)(e:∀y∈l,aD ⟨n,y⟩):∀(i:Nat)(y:Tm n),l[i]?=some y->∃d,(bM (aV n) l ws nm).1[i]?=some d/\dL (bM (aV n) l ws nm).2.1 (bM (aV n) l ws nm).2.2 n y d:=by
 induction l generalizing ws nm with
 | nil=>intro i y a;simp at a
 | cons c l ih=>
  intro i y a;cases i with
  | zero=>
   simp at a;subst a;obtain⟨f,b⟩:=rm (mm n) l (aV n c ws nm).2.1 (aV n c ws nm).2.2;exact⟨(aV n c ws nm).1,rfl,(j c ws nm (e c (by simp))).mono f b⟩
  | succ i=>
   obtain⟨d,g,h⟩:=ih (aV n c ws nm).2.1 (aV n c ws nm).2.2 (λy a=>e y (by simp[a])) i y (by simpa using a);exact⟨d,by simpa [bM]using g,h⟩
theorem gL:(n:Nat)->(x:Tm n)->(ws:List Wd)->(nm:List ByteArray)->aD ⟨n,x⟩->dL (aV n x ws nm).2.1 (aV n x ws nm).2.2 n x (aV n x ws nm).1
 | 0,_,_,_,h=>(dh h).elim
 | n+1,x,ws,nm,h=>by
  by_cases b:x.1.1=2
  ·have c:¬x.1.1=4:=by omega
   simp only[aV,if_pos b];exact⟨λ_=>⟨_,rfl,KC _ _⟩,λa=>absurd a c,λa=>absurd b a⟩
  ·by_cases c:x.1.1=4
   ·simp only[aV,if_neg b,if_pos c];have j:=gM (aV n) x.2.2 ws nm;refine⟨λa=>absurd a b,λ_=>⟨_,rfl,?_,?_,λe f d=>?_⟩,λ_ a=>absurd c a⟩
    ·rw[eC (ak _),gU];rfl
    ·simp only[bk,bf,j];omega
    ·obtain⟨k,g,i⟩:=oh (gL n) x.2.2 ws nm (λf d=>aU n x f h d) e f d;refine⟨k,?_,i.mono (pt _ _) (gz _)⟩;rw[eC (by omega)];have:(bM (aV n) x.2.2 ws nm).2.1.length+1+e-(bM (aV n) x.2.2 ws nm).2.1.length=e+1:=by omega
     rw[this];simpa using g
   ·simp only[aV,if_neg b,if_neg c];exact⟨λa=>absurd a b,λa=>absurd a c,λ_ _=>rfl⟩
def AA(q:Nat)(w:World):Prop:=w.heap[q]?=some (.cells #[ab 0,ab 0] 154)
theorem AA.facts{q:Nat}{w:World}(a:AA q w):(w.cell? ⟨q,0,none⟩=some (ab 0)/\w.cell? ⟨q,1,none⟩=some (ab 0))/\w.frozen? ⟨q,0,none⟩=false/\w.frozen? ⟨q,1,none⟩=false:=by
 unfold AA at a;refine⟨⟨?_,?_⟩,?_,?_⟩
 all_goals simp[World.cell?,World.frozen?,a]
theorem Cp{ws:List Wd}{nm:List ByteArray}{n:Nat}{x:Tm n}{v:Wd}(h:dL ws nm n x v)(r:aD ⟨n,x⟩)(g:aK n x=true)(t:ws.length<=100000)(s:nm.length<=100000):cI ws nm v=true/\dt v.2:=by
 cases n with
 | zero=>exact h.elim
 | succ n=>
 have d:=r (bw n x) (by simp[ax,bw]);have i:=ku (bw n x) d;simp only[bw]at i;simp only[aK,aA,ph,iz]at g;obtain⟨m,b,c⟩:=h;by_cases e:x.1.1=2
 ·obtain⟨k,rfl,p⟩:=m e;have j:=(aO.1 p).1;refine⟨?_,?_⟩
  ·simp[cI,vd,j]
  ·unfold dt;show (-9223372036854775808:Int)<=(k:Int)/\(k:Int)<=9223372036854775807;omega
 ·by_cases f:x.1.1=4
  ·obtain⟨l,rfl,q,j,_⟩:=b f;refine⟨?_,?_⟩
   ·simp[cI,fU,q]
   ·unfold dt;show (-9223372036854775808:Int)<=(l:Int)/\(l:Int)<=9223372036854775807;omega
  ·obtain rfl:=c e f;refine⟨?_,(uZ _ d).2⟩;have o:x.1.1=1\/x.1.1=3:=by
    rcases i with a|a|a|a|a|a
    ·exact ah a
    ·exact absurd a e
    ·exact ai a
    ·exact absurd a f
    ·exact absurd a g.1.1
    ·exact absurd a.1 g.1.2
   unfold cg at d;simp only[bw]at d;rcases o with a|a
   ·simp[cI,a]at d ⊢;exact d.1.2
   ·simp[cI,a]at d ⊢;exact d.1.2
theorem Ka(n:Nat)(x:Tm n)(v:Wd)(base:Nat)(a:cu)(room:Int)(ws:List Wd)(nm:List ByteArray)(M:Nat->Prop)(w:World)(h:dK base a room ws nm M w)(d:dL ws nm n x v)(j:aD ⟨n,x⟩)(m:aK n x=true)(f:ws.length<=100000)(i:nm.length<=100000):am 109 #[.pointer (some ⟨a.b,a.o,none⟩),I9 v] w λe w'=>∃y:Tm n,e=.returned (.tuple #[df n y,ab 0])/\Hid (aj w w'/\In w'.heap.size w' n y/\cd (λq=>w.heap.size<=q) n y/\ay n y n x=true):=by
 cases n with
 | zero=>exact d.elim
 | succ n=>
 obtain⟨l,p⟩:=Cp d j m f i;refine OD n x a v.1 v.2 w ?_ ?_
 ·intro g c;have k:=vX base a room ws nm _ v g (h.later c) f p;rw[l]at k;exact k
 ·exact λg c=>Ln (n+1) x v base a room ws nm _ g (h.later c) f i d j
abbrev cR:=List (Nat×Nat)
def look(g:cR)(p:Nat):Option Nat:=(g.find? λe=>e.1==p).map λe=>e.2
theorem sC(g:cR)(p q:Nat):look ((p,q)::g) p=some q:=by simp[look]
theorem qp(g:cR){p r:Nat}(q:Nat)(a:r≠p):look ((p,q)::g) r=look g r:=by
 have:(p==r)=false:=by simp;omega
 simp[look,this]
def gK(f:Wd->List Wd×cR->Wd×List Wd×cR):List Wd->List Wd×cR->List Wd×List Wd×cR
 | [],S=>([],S)
 | v::l,S=>((f v S).1::(gK f l (f v S).2).1,(gK f l (f v S).2).2)
def jI(ws:List Wd):Nat->Wd->List Wd×cR->Wd×List Wd×cR
 | 0,v,S=>(v,S)
 | n+1,v,S=>
  if v.1=4 then
   match look S.2 v.2.toNat with
   | some q=>((4,(q:Int)),S)
   | none=>
    match ws[v.2.toNat]? with
    | some a=>((4,((gK (jI ws n) ((ws.drop (v.2.toNat+1)).take a.2.toNat) S).2.1.length:Int)),(gK (jI ws n) ((ws.drop (v.2.toNat+1)).take a.2.toNat) S).2.1++(0,a.2)::(gK (jI ws n) ((ws.drop (v.2.toNat+1)).take a.2.toNat) S).1,(v.2.toNat,(gK (jI ws n) ((ws.drop (v.2.toNat+1)).take a.2.toNat) S).2.1.length)::(gK (jI ws n) ((ws.drop (v.2.toNat+1)).take a.2.toNat) S).2.2)
    | none=>(v,S)
  else (v,S)
theorem JE(f:Wd->List Wd×cR->Wd×List Wd×cR)(l:List Wd)(v:Wd)(S:List Wd×cR):gK f (l++ [v]) S=((gK f l S).1++ [(f v (gK f l S).2).1],(f v (gK f l S).2).2):=by
 induction l generalizing S with
 | nil=>simp[gK]
 | cons a l ih=>simp[gK,ih]
theorem qd(f:Wd->List Wd×cR->Wd×List Wd×cR)(l:List Wd)(S:List Wd×cR):(gK f l S).1.length=l.length:=by
 induction l generalizing S with
 | nil=>simp[gK]
 | cons a l ih=>simp[gK,ih]
def uw(D:DataW Unit)(g:cR):Prop:=∀p:Nat,(Maps.has D (.int .i64 p)=true ↔ (look g p).isSome=true)/\∀q:Nat,look g p=some q->D.atKey (.int .i64 p) (.lit (.int .i64 0))=.lit (.int .i64 q)
theorem LH:uw (.map []) []:=λp=>⟨by simp[Maps.has,look],λq a=>by simp[look]at a⟩
theorem Ft(k:Int):WideAt.IsKeyLit (.int .i64 k):=by first|trivial|simp[WideAt.IsKeyLit]|decide
theorem LI{w:World}{j L:Nat}{D:DataW Unit}{g:cR}(f:w.ownsMap Tryz.prog 3 (plainElem Tryz.prog 3) j L D)(e:uw D g)(p q:Nat):uw (D.put (.int .i64 p) (.lit (.int .i64 q))) ((p,q)::g):=by
 intro c;by_cases b:c=p
 ·subst b;refine⟨?_,λi a=>?_⟩
  ·rw[has_put_same f.isMap (Ft _),sC];simp
  ·rw[sC]at a;rw[atKey_put_same f.isMap (Ft _),aw a]
 ·have h:(Lit.int .i64 (c:Int))≠(Lit.int .i64 (p:Int)):=λd=>b (by injection d with _ d;omega);refine⟨?_,λi a=>?_⟩
  ·rw[has_put_other h,qp g q b];exact(e c).1
  ·rw[qp g q b]at a;rw[atKey_put_other h];exact(e c).2 i a
theorem Dw:Keyed Tryz.prog 3:=int_keyed underlying3
def CB(a:Nat)(b tv mv:Value)(w:World):Prop:=w.heap[a]?=some (.cells #[b,tv,mv] 292)
theorem CB.lt{a:Nat}{b tv mv:Value}{w:World}(c:CB a b tv mv w):a<w.heap.size:=(aF.1 c).1
theorem CB.cells{a:Nat}{b tv mv:Value}{w:World}(c:CB a b tv mv w):(w.cell? ⟨a,0,none⟩=some b/\w.cell? ⟨a,1,none⟩=some tv/\w.cell? ⟨a,2,none⟩=some mv)/\∀j,w.frozen? ⟨a,j,none⟩=false:=by
 unfold CB at c;refine⟨⟨?_,?_,?_⟩,λj=>?_⟩
 all_goals simp[World.cell?,World.frozen?,c]
theorem CB.set1{a:Nat}{b tv mv:Value}{w:World}(c:CB a b tv mv w)(v:Value):CB a b v mv (w.setCell ⟨a,1,none⟩ v):=by
 unfold CB at*;simp[World.setCell,bN,c]
theorem CB.kept{a:Nat}{b tv mv:Value}{w w':World}(c:CB a b tv mv w)(k:w'.heap[a]?=w.heap[a]?):CB a b tv mv w':=k.trans c
def iB(base e:Nat)(f:Value)(S:List Wd×cR)(M:Nat->Prop)(w:World):Prop:=
 ∃c a d,CB e f c (.map (some a)) w/\w.ownsRow base 154 2 c S.1.length (aX S.1)/\w.ownsMap Tryz.prog 3 (plainElem Tryz.prog 3) a S.2.length d/\uw d S.2/\M e/\(∀b,c.ownBlock=some b->M b)/\M a
theorem iB.kept{base a:Nat}{g:Value}{S:List Wd×cR}{M T:Nat->Prop}{w w':World}(q:iB base a g S M w)(k:bV T w w')(d:∀b,M b->b<w.heap.size->¬T b):iB base a g S M w':=by
 obtain⟨u,e,o,c,h,i,r,j,l,m⟩:=q;refine⟨u,e,o,c.kept (k.block a c.lt (d a j c.lt)),dV h k λb f=>d b (l b f) (h.lt b f).2,?_,r,j,l,m⟩;have n:=i.lt;obtain⟨es,p,s,t⟩:=i;exact⟨es,p,(k.block e n (d e m n)).trans s,t⟩
theorem iB.inside{base a:Nat}{d:Value}{S:List Wd×cR}{M:Nat->Prop}{w:World}(i:iB base a d S M w):iB base a d S (λb=>M b/\b<w.heap.size) w:=by
 obtain⟨o,n,h,e,f,g,j,k,l,m⟩:=i;exact⟨o,n,h,e,f,g,j,⟨k,e.lt⟩,λb c=>⟨l b c,(f.lt b c).2⟩,m,g.lt⟩
theorem iB.later{base c:Nat}{d:Value}{S:List Wd×cR}{M:Nat->Prop}{w wA:World}(a:iB base c d S M w)(e:Below w.heap.size w wA):iB base c d S (λb=>M b/\b<w.heap.size) wA:=
 a.inside.kept (aY e (λ_=>False)) λ_ _ _ a=>a
theorem iB.mono{base a:Nat}{c:Value}{S:List Wd×cR}{M T:Nat->Prop}{w:World}(f:iB base a c S M w)(k:∀b,M b->T b):iB base a c S T w:=by
 obtain⟨p,o,d,g,h,i,j,l,m,n⟩:=f;exact⟨p,o,d,g,h,i,j,k _ l,λb e=>k b (m b e),k _ n⟩
theorem KG(b:Nat)(k a:Int)(w:World)(c:¬k=4):Calls Tryz.prog 205 #[.pointer (some ⟨b,0,none⟩),.agg #[.int .i64 k,.int .i64 a]] w λe w'=>e=.returned (.agg #[.int .i64 k,.int .i64 a])/\Below w.heap.size w w':=by
 have d:(k !=4)=true:=by simpa using c
 go_enter func205,ntmps205;go_wp2_with fail;exact av (v:=.agg #[.int .i64 k,.int .i64 a]) (by simp[results,results205,go_sem]) rfl ⟨rfl,by go_grown⟩
theorem ND{D:DataW Unit}{g:cR}(b:uw D g){p q:Nat}{c:Int}(d:look g p=some q)(a:D.atKey (.int .i64 p) (.lit (.int .i64 0))=.lit (.int .i64 c)):c=q:=by
 have:=(b p).2 q d;rw[this]at a;simp at a;exact a.symm
theorem MY(base g:Nat)(x:Value)(S:List Wd×cR)(M:Nat->Prop)(p q:Nat)(w:World)(a:Hid (iB base g x S M w))(r:Hid (look S.2 p=some q))(N:p<=100000):Calls Tryz.prog 205 #[.pointer (some ⟨g,0,none⟩),.agg #[.int .i64 4,.int .i64 p]] w λe w'=>e=.returned (.agg #[.int .i64 4,.int .i64 q])/\Below w.heap.size w w':=by
 go_enter func205,ntmps205;go_wp2_with fail;generalize h:(w.alloc (Obj.cells #[Value.int IntKind.i64 4,Value.int IntKind.i64 p] 154)).alloc (Obj.cells #[.int .i64 0,.int .i64 0] 154)=wA;have j:Hid (Below w.heap.size w wA.drew/\wA.drew.heap.size=w.heap.size+2):=by
  subst h;exact⟨(((ap _ _).alloc (ak _) _).alloc (by simp) _).drew,by simp[World.drew]⟩
 have K:wA.cell? ⟨w.heap.size,1,none⟩=some (.int .i64 p):=by subst h;simp[go_sem]
 have l:Hid (AA (w.heap.size+1) wA.drew):=by
  subst h;have:=aE (w.alloc (Obj.cells #[Value.int IntKind.i64 4,Value.int IntKind.i64 p] 154)) (Obj.cells #[.int .i64 0,.int .i64 0] 154);have es:∀o,(w.alloc o).heap.size=w.heap.size+1:=λo=>by simp
  rw[es]at this;exact this
 obtain⟨d,J,D⟩:∃d,wA.cell? ⟨g,2,none⟩=some (.map (some d))/\(Instr.lookup 290 (.map (some d)) (.int .i64 p) true).run Tryz.prog wA.drew=.ok (.tuple #[.int .i64 q,.bool true]) wA.drew:=by
  obtain⟨O,d,t,y,L,z,m,_⟩:=a.out.later j.1;obtain⟨v,ps,s,E⟩:=z.look_ok Dw underlying290 (rV _) (plainElem_int underlying3 (iw (by omega))) (keyOf_int_mk underlying3 (iw (n:=(p:Int)) (by omega)));obtain⟨c,rfl,B,_⟩:=plainElem_int_inv underlying3 E;have e:=ND m r (congrArg Prod.fst B);have C:Maps.has t (.int .i64 p)=true:=(m p).1.2 (by rw[r.out];rfl);rw[C,e]at s;exact⟨d,y.cells.1.2.2,s⟩
 clear h a;go_region_held3 (λw'=>w'.cell? ⟨w.heap.size,1,none⟩=some (.int .i64 p)/\w'.cell? ⟨g,2,none⟩=some (.map (some d))) (go_keep) (fail);obtain⟨⟨H,I⟩,f0,f1⟩:=l.out.facts;have u:Hid (∀i k,Below w.heap.size w ((wA.drew.setCell ⟨w.heap.size+1,0,none⟩ i).setCell ⟨w.heap.size+1,1,none⟩ k)):=by
  intro i k;have F:=bm wA.drew (w.heap.size+1) 0 i;have G:=bm (wA.drew.setCell ⟨w.heap.size+1,0,none⟩ i) (w.heap.size+1) 1 k;have f:=(aY j.1 (λb=>b=w.heap.size+1)).trans (F.trans G (λb _ a=>a)) (λb _ a=>a);exact⟨f.os,f.tape,f.output,f.size,λb A=>f.block b A (by omega)⟩
 clear D l j;generalize wA.drew=P at*;go_wp2_with fail;exact av (v:=.agg #[.int .i64 4,.int .i64 q]) (by simp[results,results205,go_sem,H,I]) rfl ⟨rfl,u _ _⟩
def xd(base a:Nat)(c:Value)(S:List Wd×cR)(M:Nat->Prop)(w w':World):Prop:=iB base a c S (λb=>M b\/w.heap.size<=b) w'/\bV M w w'
def yB(f:Wd->List Wd×cR->Wd×List Wd×cR)(vs:List Wd)(len base c:Nat)(d:Value)(S:List Wd×cR)(M:Nat->Prop)(g:Nat)(w a:World)(k:Nat)(wr:World):Prop:=
 wr.ownsRow g 154 2 (ae (some ⟨g,0,none⟩) len len) len (aX ((gK f (vs.take k) S).1++List.replicate (len-k) (0,0)))/\
 iB base c d (gK f (vs.take k) S).2 (λb=>(M b/\b<w.heap.size)\/a.heap.size<=b) wr/\
 bV (λb=>(M b/\b<w.heap.size)\/b=g) a wr
theorem Jk{f:Wd->List Wd×cR->Wd×List Wd×cR}{vs:List Wd}{len base g:Nat}{h:Value}{S:List Wd×cR}{M:Nat->Prop}{w w0:World}(d:iB base g h S M w)(e:w0.ownsRow w.heap.size 154 2 (ae (some ⟨w.heap.size,0,none⟩) len len) len (madeCells (Value.agg #[ab 0,ab 0]).cells (len*2)).toList)(a:w.grownBy w0 none):yB f vs len base g h S M w.heap.size w w0 0 w0/\aj w w0/\w.heap.size<w0.heap.size:=by
 have c:aj w w0:=⟨a.os,a.tape,a.output,a.size,λb c=>a.block b c (by simp)⟩;refine⟨⟨?_,?_,bV.refl _ _⟩,c,(e.lt _ rfl).2⟩
 ·simp only[List.take_zero,gK,mR,Nat.sub_zero];have i:=vx len;have j:(Value.agg #[ab 0,ab 0]).cells= #[ab 0,ab 0]:=rfl;rw[j,i]at e;exact e
 ·simp only[List.take_zero,gK];exact(d.later c).mono λb d=>ah d
theorem yB.step{f:Wd->List Wd×cR->Wd×List Wd×cR}{vs:List Wd}{len base i:Nat}{l:Value}{S:List Wd×cR}{M:Nat->Prop}{g:Nat}{w d:World}{k:Nat}{wr w1 w2:World}(H:yB f vs len base i l S M g w d k wr)(G:w.heap.size<=g)(I:g<d.heap.size)(K:k<len)(L:vs.length=len){v:Wd}(A:vs[k]?=some v)(m:aj wr w1)(z:xd base i l (f v (gK f (vs.take k) S).2).2 (λb=>((M b/\b<w.heap.size)\/d.heap.size<=b)/\b<wr.heap.size) w1 w2):yB f vs len base i l S M g w d (k+1) ((w2.setCell ⟨g,k*2,none⟩ (ab (f v (gK f (vs.take k) S).2).1.1)).setCell ⟨g,k*2+1,none⟩ (ab (f v (gK f (vs.take k) S).2).1.2))/\ (w2.cell? ⟨g,k*2,none⟩=some (ab 0)/\w2.cell? ⟨g,k*2+1,none⟩=some (ab 0))/\w2.frozen? ⟨g,k*2,none⟩=false/\w2.frozen? ⟨g,k*2+1,none⟩=false:=by
 obtain⟨o,E,p⟩:=H;obtain⟨u,q⟩:=z;have J:g<wr.heap.size:=(o.lt g rfl).2;have N:=m.size;have O:=p.size;have r:gK f (vs.take (k+1)) S=((gK f (vs.take k) S).1++ [(f v (gK f (vs.take k) S).2).1],(f v (gK f (vs.take k) S).2).2):=by
  rw[dq,A];exact JE _ _ _ _
 have s:(gK f (vs.take k) S).1.length=k:=by rw[qd,dy];omega
 have h:w2.ownsRow g 154 2 (ae (some ⟨g,0,none⟩) len len) len (aX ((gK f (vs.take k) S).1++List.replicate (len-k) (0,0))):=by
  refine dV (dS o m) q λb j=>?_;simp only[Value.ownBlock]at j;obtain rfl:=aw j;omega
 generalize gK f (vs.take k) S=e at*;generalize f v e.2=c at*;have B:(e.1++List.replicate (len-k) (0,0))[k]?=some ((0,0):Wd):=by
  rw[eC (by omega),s,gU,List.getElem?_replicate];simp;omega
 have C:=bm w2 g (k*2) (ab c.1.1);have D:=bm (w2.setCell ⟨g,k*2,none⟩ (ab c.1.1)) g (k*2+1) (ab c.1.2);have t:=C.trans D (λb _ a=>a);refine⟨⟨?_,?_,?_⟩,iY h k (0,0) B,oW h _,oW h _⟩
 ·rw[r];have n:=jo (jo h (k*2) (ab c.1.1)) (k*2+1) (ab c.1.2);rw[qG _ k c.1 (by simp;omega)]at n;have es:(e.1++List.replicate (len-k) ((0,0):Wd)).set k c.1=(e.1++ [c.1])++List.replicate (len-(k+1)) (0,0):=by
   rw[iq _ _ (by omega)];have:len-k=(len-(k+1))+1:=by omega
   rw[this,List.replicate_succ];simp[s]
  rw[es]at n;exact n
 ·rw[r];refine(u.kept t ?_).mono ?_
  ·rintro b (⟨a,_⟩|a) _ j<;>omega
  ·rintro b (⟨a,_⟩|a)
   ·exact a
   ·exact ai (by omega)
 ·have x:bV (λb=>(M b/\b<w.heap.size)\/b=g) d w1:=p.trans (aY m (λ_=>False)) (λ_ _ a=>a.elim)
  have y:bV (λb=>(M b/\b<w.heap.size)\/b=g) d w2:=x.trans q (λb F a=>by
   rcases a.1 with a|a
   ·exact ah a
   ·omega)
  exact y.trans t (λb _ a=>ai a)
def CT(f:Wd->List Wd×cR->Wd×List Wd×cR)(vs:List Wd)(base c:Nat)(d:Value)(S:List Wd×cR)(M:Nat->Prop)(g:Nat)(w w':World):Prop:=
 ∃a,iB base c d (gK f vs S).2 a w'/\bV M w w'/\(∀b,a b->M b\/w.heap.size<=b)/\¬a g/\w.heap.size<=g/\w'.ownsRow g 154 2 (ae (some ⟨g,0,none⟩) vs.length vs.length) vs.length (aX (gK f vs S).1)
theorem yB.done{f:Wd->List Wd×cR->Wd×List Wd×cR}{vs:List Wd}{len base h:Nat}{i:Value}{S:List Wd×cR}{M:Nat->Prop}{g:Nat}{w d wr:World}(H:yB f vs len base h i S M g w d len wr)(m:vs.length=len)(l:w.heap.size<=g)(o:g<d.heap.size)(j:aj w d):CT f vs base h i S M g w wr:=by
 obtain⟨c,e,k⟩:=H;rw[bu (by omega)]at c e;rw[gU,mT,dY]at c;subst m;refine⟨_,e,(aY j M).trans k ?_,?_,?_,l,c⟩
 ·rintro b n (a|a)
  ·exact a.1
  ·omega
 ·rintro b (a|a)
  ·exact ah a.1
  ·exact ai (by have:=j.size;omega)
 ·rintro (a|a)<;>omega
theorem yY(f:Wd->List Wd×cR->Wd×List Wd×cR)(vs:List Wd)(base d:Nat)(i:Value)(S:List Wd×cR)(M:Nat->Prop)(a:Option Addr)(len pc:Nat)(w:World)(s:Hid (vs.length=len))(X:len<=100000)(c:Hid (iB base d i S M w))(D:Hid (eN w vs a))(H:Hid (∀b o,a=some ⟨b,o,none⟩->¬M b))(ih:Hid (∀(k:Nat)(v:Wd),vs[k]?=some v->∀(M':Nat->Prop)(w1:World),iB base d i (gK f (vs.take k) S).2 M' w1->bV M w w1->(∀b,M' b->M b\/w.heap.size<=b)-> am 205 #[aB d,.agg #[ab v.1,ab v.2]] w1 λe w2=>e=.returned (.agg #[ab (f v (gK f (vs.take k) S).2).1.1,ab (f v (gK f (vs.take k) S).2).1.2])/\Hid (xd base d i (f v (gK f (vs.take k) S).2).2 M' w1 w2))):am 202 #[aB d,ae a len pc] w λe w'=>∃g,e=.returned (ae (some ⟨g,0,none⟩) len len)/\Hid (CT f vs base d i S M g w w'):=by
 obtain⟨Q,E,J,K,L⟩:=bP kZ;go_enter func202,ntmps202;go_wp2_with (at_make;refine kO _ rfl _ _ 157 rfl w.heap.size 154 Q _ 2 underlying157 E J K _ _ _ _ len rfl rfl rfl rfl (by rw[L];omega) (by unfold maxLen;omega) (ak _) ?_;intro p I C;have m:=aq (Jk (f:=f) (vs:=vs) c I C);clear I C);clear E J K L;have y:Hid (yB f vs len base d i S M w.heap.size w p 0 p):=m.1;have B:w.heap.size<p.heap.size:=m.2.2;go_loopw [13] (λj wr=>∃k:Nat,k<=len/\j=ab k/\Hid (yB f vs len base d i S M w.heap.size w p k wr)) (λj _=>len-(intOf j).toNat)
 case atStart=>exact⟨0,by omega,rfl,y⟩
 case round=>
  clear y;obtain⟨k,U,rfl,h⟩:=hrel;by_cases G:k<len
  ·obtain⟨v,l⟩:∃v,vs[k]?=some v:=⟨vs[k]'(by rw[s.out];exact G),aG _⟩;obtain⟨b,o,rfl,A,N⟩:∃b o,a=some ⟨b,o,none⟩/\b<w.heap.size/\∀(j:Nat)(v:Wd),vs[j]?=some v->w.cell? ⟨b,o+j*2,none⟩=some (ab v.1)/\w.cell? ⟨b,o+j*2+1,none⟩=some (ab v.2):=by
    rcases D.out with e|e
    ·rw[e]at l;simp at l
    ·exact e
   obtain⟨t,u⟩:=N k v l;have r:wr.heap[b]?=w.heap[b]? :=(h.2.2.block b (by omega) (by rintro (c|c);exact H b o rfl c.1;omega)).trans (m.2.1.block b A);replace t:=(bt r (o+k*2)).trans t;replace u:=(bt r (o+k*2+1)).trans u;have T:w.heap.size<wr.heap.size:=(h.1.lt _ rfl).2;have Y:=h.2.2.size;have F:bV M w wr:=(aY m.2.1 M).trans h.2.2 (by rintro b A (c|c);exact c.1;omega)
   obtain⟨n,x⟩:∃n:Wd,Hid (∀w1,aj wr w1->am 205 #[aB d,.agg #[ab v.1,ab v.2]] w1 λe w2=>e=.returned (.agg #[ab n.1,ab n.2])/\
       Hid (yB f vs len base d i S M w.heap.size w p (k+1) ((w2.setCell ⟨w.heap.size,k*2,none⟩ (ab n.1)).setCell ⟨w.heap.size,k*2+1,none⟩ (ab n.2))/\
        (w2.cell? ⟨w.heap.size,k*2,none⟩=some (ab 0)/\w2.cell? ⟨w.heap.size,k*2+1,none⟩=some (ab 0))/\w2.frozen? ⟨w.heap.size,k*2,none⟩=false/\w2.frozen? ⟨w.heap.size,k*2+1,none⟩=false)):=by
    refine⟨(f v (gK f (vs.take k) S).2).1,λw1 q=>?_⟩;refine(ih k v l _ w1 (h.2.1.later q) (F.trans (aY q M) (λ_ _ c=>c)) ?_).mono ?_
    ·rintro b ⟨c|c,_⟩
     ·exact ah c.1
     ·exact ai (by omega)
    ·rintro e w2 ⟨rfl,P⟩;exact⟨rfl,h.step (ak _) B G s l q P⟩
   clear ih h D N l H r F;have V:(0:Int)<=(k:Int):=by omega
   have W:(k:Int)<(len:Int):=by omega
   have R:b<wr.heap.size:=by omega
   go_wp2_with fail;refine(x _ ((ap _ _).alloc (ak _) _)).mono ?_;rintro e w2 ⟨rfl,z⟩;obtain⟨⟨d0,d1⟩,f0,f1⟩:=z.out.2;clear x t u;go_wp2_with fail;go_roundw
   case rel=>exact⟨k+1,by omega,by go_num,z.1⟩
   case measure=>simp[intOf];omega
  ·obtain rfl:k=len:=by omega
   have O:=aq (h.done s (ak _) B m.2.1);clear h ih;go_wp2_with fail
   go_ret
   exact⟨_,rfl,O⟩
theorem KW{w:World}{base:Nat}{e:TypeId}{s n:Nat}{v:Value}{xs:List Value}{b:Nat}{c tv mv:Value}(f:w.ownsRow base e s v n xs)(h:CB b c tv mv w)(j:e≠292):v.ownBlock≠some b:=λe=>by
 rcases f.2 with⟨rfl,_⟩|⟨d,cap,k,rfl,_,i,_⟩
 ·simp[Value.ownBlock]at e
 ·simp[Value.ownBlock]at e;subst e;have a:w.heap[d]?=_:=h;rw[i]at a;injection a with a;injection a with a g;exact j g
theorem Cc{w:World}{base:Nat}{e:TypeId}{s n L c:Nat}{v:Value}{xs:List Value}{D:DataW Unit}(d:w.ownsRow base e s v n xs)(f:w.ownsMap Tryz.prog 3 (plainElem Tryz.prog 3) c L D):v.ownBlock≠some c:=λa=>by
 rcases d.2 with⟨rfl,_⟩|⟨g,cap,j,rfl,_,h,_⟩
 ·simp[Value.ownBlock]at a
 ·simp only[Value.ownBlock]at a;obtain rfl:=aw a;obtain⟨es,i,b,_⟩:=f;rw[h]at b;cases b
theorem vA{w:World}{L a b:Nat}{D:DataW Unit}{d tv mv:Value}(f:w.ownsMap Tryz.prog 3 (plainElem Tryz.prog 3) a L D)(e:CB b d tv mv w):a≠b:=by
 rintro rfl;obtain⟨es,h,g,_⟩:=f;have c:w.heap[a]?=_:=e;rw[g]at c;cases c
theorem P8(base d:Nat)(n:Value)(S:List Wd×cR)(M:Nat->Prop)(ps:List Wd)(m pc:Nat)(pa:Option Addr)(w:World)(z:iB base d n S M w)(E:base<=w.heap.size)(C:S.1.length<=100000)(I:ps.length=m)(D:m<=1000)(u:∀w1,bV M w w1->fe w1 ps pa):am 129 #[.pointer (some ⟨d,1,none⟩),ae pa m pc] w λe w'=>e=.returned (.agg #[ab 4,ab S.1.length])/\Hid (xd base d n (S.1++(0,(m:Int))::ps,S.2) M w w'):=by
 obtain⟨q,p,s,a,f,g,A,h,i,B⟩:=z;obtain⟨⟨R,v,T⟩,F⟩:=a.cells;obtain⟨j,l,K⟩:∃j l,q=ae j S.1.length l:=by
  rcases f.2 with⟨e,y⟩|⟨V,c,U,e,_⟩
  ·exact⟨none,0,by rw[e,y]⟩
  ·exact⟨_,c,e⟩
 subst I;refine(AD base d 1 q j l S.1.length S.1 ps ps.length pc pa w K rfl rfl C D E v (F 1) a.lt (KW f a (by decide)) f ?_).mono ?_
 ·intro w1 k;refine u w1 (k.mono ?_);rintro b (rfl|e)
  ·exact h
  ·exact i b e
 ·rintro e w' ⟨rfl,r,t⟩;obtain⟨O,P,o,Q⟩:=t;refine⟨rfl,⟨r,p,s,(a.set1 r).kept P,?_,?_,A,ah h,?_,ah B⟩,o.mono ?_⟩
  ·have e:(S.1++(0,(ps.length:Int))::ps).length=S.1.length+1+ps.length:=by simp;omega
   rw[e];exact O
  ·have H:=g.lt;have L:=vA g a;have N:=Cc f g;obtain⟨es,x,G,J⟩:=g;refine⟨es,x,(o.block p H ?_).trans G,J⟩;rintro (e|e)
   ·exact L e
   ·exact N e
  ·intro b e;rcases Q b e with e|e
   ·exact ah (i b e)
   ·exact ai e
  ·rintro b (rfl|e)
   ·exact h
   ·exact i b e
theorem MZ{base e:Nat}{h:Value}{S:List Wd×cR}{M:Nat->Prop}{w:World}(m:iB base e h S M w)(p q:Nat)(A:p<=100000)(B:q<=100000)(z:S.2.length<=100000):∃a,w.cell? ⟨e,2,none⟩=some (.map (some a))/\∃w4,(Instr.mapUpdate 290 (.map (some a)) (.int .i64 p) (.int .i64 q)).run Tryz.prog w=.ok () w4/\iB base e h (S.1,(p,q)::S.2) M w4/\bV (λb=>b=a) w w4/\M a/\a<w.heap.size/\w4.cell? ⟨e,2,none⟩=some (.map (some a)):=by
 obtain⟨x,a,y,d,i,f,o,r,s,j⟩:=m;obtain⟨w4,v,u,t⟩:=f.update Dw underlying290 (by unfold maxLen;omega) (keyOf_int_mk underlying3 (iw (n:=(p:Int)) (by omega))) (plainElem_int underlying3 (iw (n:=(q:Int)) (by omega)));have k:=Dz t;have g:bV (λb=>b=a) w w4:=k.mono λb c=>(aw c).symm;refine⟨a,d.cells.1.2.2,w4,v,⟨x,a,_,d.kept (g.block e d.lt (λc=>vA f d c.symm)),dV i g ?_,u,LI f o p q,r,s,j⟩,g,j,f.lt,(d.kept (g.block e d.lt (λc=>vA f d c.symm))).cells.1.2.2⟩;intro b c l;subst l;exact Cc i f c
theorem Dd(w:World)(a b:Int):(Instr.field 154 (.agg #[.int .i64 a,.int .i64 b]) 1).run Tryz.prog w=.ok (.int .i64 b) w:=by kernel_rfl
theorem MX(base a:Nat)(H:Value)(S:List Wd×cR)(M:Nat->Prop)(p q f L h n:Nat)(w:World)(u:World->Prop)(I:Hid (iB base a H S M w))(U:H=.slice (some ⟨f,0,none⟩) L h)(W:Hid (look S.2 p=none))(aw:p<=100000)(z:Hid (∀b,Below w.heap.size w b->w.heap.size+2<=b.heap.size->Calls Tryz.prog 166 #[.slice (some ⟨f,0,none⟩) L h,.int .i64 p] b λe w'=>w'=b/\∃o pc,e=.returned (.slice (some ⟨f,o,none⟩) n pc)/\ Hid (Calls Tryz.prog 202 #[.pointer (some ⟨a,0,none⟩),.slice (some ⟨f,o,none⟩) n pc] b λe w2=>∃g,e=.returned (.slice (some ⟨g,0,none⟩) n n)/\ Hid ((∀j,w2.cell? ⟨w.heap.size,j,none⟩=b.cell? ⟨w.heap.size,j,none⟩)/\w2.cell? ⟨a,0,none⟩=some (.slice (some ⟨f,0,none⟩) L h)/\ Calls Tryz.prog 129 #[.pointer (some ⟨a,1,none⟩),.slice (some ⟨g,0,none⟩) n n] w2 λe k=>e=.returned (.agg #[.int .i64 4,.int .i64 q])/\ Hid ((∀j,k.cell? ⟨w.heap.size,j,none⟩=b.cell? ⟨w.heap.size,j,none⟩)/\k.cell? ⟨a,0,none⟩=some (.slice (some ⟨f,0,none⟩) L h)/\ ∃d w4,k.cell? ⟨a,2,none⟩=some (.map (some d))/\(Instr.mapUpdate 290 (.map (some d)) (.int .i64 p) (.int .i64 q)).run Tryz.prog k.drew=.ok () w4/\(∀j,w4.cell? ⟨w.heap.size,j,none⟩=b.cell? ⟨w.heap.size,j,none⟩)/\w4.cell? ⟨a,2,none⟩=some (.map (some d))/\ (AA (w.heap.size+1) b->AA (w.heap.size+1) w4)/\∀v0 v1,u ((w4.setCell ⟨w.heap.size+1,0,none⟩ v0).setCell ⟨w.heap.size+1,1,none⟩ v1)))))):Calls Tryz.prog 205 #[.pointer (some ⟨a,0,none⟩),.agg #[.int .i64 4,.int .i64 p]] w λe w'=>e=.returned (.agg #[.int .i64 4,.int .i64 q])/\u w':=by
 subst U;go_enter func205,ntmps205;go_wp2_with fail;generalize t:(w.alloc (Obj.cells #[Value.int IntKind.i64 4,Value.int IntKind.i64 p] 154)).alloc (Obj.cells #[.int .i64 0,.int .i64 0] 154)=wA;have l:Hid (Below w.heap.size w wA.drew/\wA.drew.heap.size=w.heap.size+2):=by
  subst t;exact⟨(((ap _ _).alloc (ak _) _).alloc (by simp) _).drew,by simp[World.drew]⟩
 have G:wA.cell? ⟨w.heap.size,1,none⟩=some (.int .i64 p):=by subst t;simp[go_sem]
 have C:Hid (AA (w.heap.size+1) wA.drew):=by
  subst t;have:=aE (w.alloc (Obj.cells #[Value.int IntKind.i64 4,Value.int IntKind.i64 p] 154)) (Obj.cells #[.int .i64 0,.int .i64 0] 154);have es:∀o,(w.alloc o).heap.size=w.heap.size+1:=λo=>by simp
  rw[es]at this;exact this
 obtain⟨d,F,E,P,X⟩:∃d,∃F:Int,wA.cell? ⟨a,0,none⟩=some (.slice (some ⟨f,0,none⟩) L h)/\wA.cell? ⟨a,2,none⟩=some (.map (some d))/\(Instr.lookup 290 (.map (some d)) (.int .i64 p) true).run Tryz.prog wA.drew=.ok (.tuple #[.int .i64 F,.bool false]) wA.drew:=by
  obtain⟨ax,d,x,J,ar,Q,R,_⟩:=I.out.later l.1;obtain⟨v,ps,K,Z⟩:=Q.look_ok Dw underlying290 (rV _) (plainElem_int underlying3 (iw (by omega))) (keyOf_int_mk underlying3 (iw (n:=(p:Int)) (by omega)));obtain⟨c,rfl,au,_⟩:=plainElem_int_inv underlying3 Z;have V:Maps.has x (.int .i64 p)=false:=by
   cases hx:Maps.has x (.int .i64 p)
   ·rfl
   ·have:=(R p).1.1 hx;rw[W.out]at this;simp at this
  rw[V]at K;exact⟨d,c,J.cells.1.1,J.cells.1.2.2,K⟩
 clear t I;go_region_held3 (λw'=>w'.cell? ⟨w.heap.size,1,none⟩=some (.int .i64 p)/\w'.cell? ⟨a,2,none⟩=some (.map (some d))) (go_keep) (fail);have s:wA.drew.cell? ⟨w.heap.size,1,none⟩=some (.int .i64 p):=G;have O:wA.drew.cell? ⟨a,0,none⟩=some (.slice (some ⟨f,0,none⟩) L h):=E;clear X G E P;generalize wA.drew=b at*;have B:=aq (z b.drew l.1.drew (by have:=l.2;show w.heap.size+2<=b.heap.size;omega));clear z;have T:=Dd;go_wp2_with fail
 go_region_held3 (λw'=>w'.cell? ⟨w.heap.size,1,none⟩=some (.int .i64 p)/\w'.cell? ⟨a,0,none⟩=some (.slice (some ⟨f,0,none⟩) L h)) (go_keep) ((first
  | (go_at_call 166;refine B.mono ?_;rintro e w2 ⟨rfl,o,pc,rfl,y⟩;clear B)
  | (go_at_call 202;refine y.mono ?_;rintro e w2 ⟨g,rfl,m⟩;have al:=(m.1 1).trans s;have am:=m.2.1;clear y)
  | (go_at_call 129;refine m.2.2.mono ?_;rintro e k ⟨rfl,r⟩;have y1:=(r.1 1).trans s;have y2:=r.2.1;clear m)))
 obtain⟨i,w4,aj,Y,D,ao,A,N⟩:∃i w4,k.cell? ⟨a,2,none⟩=some (.map (some i))/\(Instr.mapUpdate 290 (.map (some i)) (.int .i64 p) (.int .i64 q)).run Tryz.prog k.drew=.ok () w4/\Hid (∀j,w4.cell? ⟨w.heap.size,j,none⟩=b.drew.cell? ⟨w.heap.size,j,none⟩)/\w4.cell? ⟨a,2,none⟩=some (.map (some i))/\Hid (AA (w.heap.size+1) w4)/\Hid (∀v0 v1,u ((w4.setCell ⟨w.heap.size+1,0,none⟩ v0).setCell ⟨w.heap.size+1,1,none⟩ v1)):=by
  obtain⟨i,w4,aa,ab,ad,ae,af,ag⟩:=r.out.2.2;exact⟨i,w4,aa,ab,ad,ae,af C,ag⟩
 have an:=(D 1).trans s;obtain⟨⟨ah,ai⟩,f0,f1⟩:=A.out.facts;clear r D A C l al am y2 O s T;go_wp2_with fail;go_region_held3 (λw'=>w'.cell? ⟨w.heap.size,1,none⟩=some (.int .i64 p)/\w'.cell? ⟨a,2,none⟩=some (.map (some i))) (go_keep) (fail);clear Y aj y1 an ao;go_wp2_with fail;exact av (v:=.agg #[.int .i64 4,.int .i64 q]) (by simp[results,results205,go_sem,ah,ai]) rfl ⟨rfl,N _ _⟩
def co(ws:List Wd)(p n:Nat):List Wd:=(ws.drop (p+1)).take n
theorem DU{ws:List Wd}{p n i:Nat}(a:i<n):(co ws p n)[i]?=ws[p+1+i]? :=by
 unfold co;rw[sS a,kH]
theorem lj{ws:List Wd}{p n:Nat}(a:p+1+n<=ws.length):(co ws p n).length=n:=by
 unfold co;rw[dy,eX];omega
def gD(ws:List Wd)(nm:List ByteArray)(n:Nat)(l:List Wd)(p:List (Tm n)):Prop:=l.length=p.length/\∀(i:Nat)(v:Wd)(y:Tm n),l[i]?=some v->p[i]?=some y->dL ws nm n y v
theorem uP{ws:List Wd}{n:Nat}{v:Wd}{S:List Wd×cR}(a:v.1≠4):jI ws n v S=(v,S):=by
 cases n with
 | zero=>rfl
 | succ n=>simp[jI,a]
theorem EZ{ws:List Wd}{n p q:Nat}{S:List Wd×cR}(a:look S.2 p=some q):jI ws (n+1) (4,(p:Int)) S=((4,(q:Int)),S):=by
 simp[jI,a]
theorem yZ{ws:List Wd}{n p m:Nat}{S:List Wd×cR}(a:look S.2 p=none)(b:ws[p]?=some (0,(m:Int))):jI ws (n+1) (4,(p:Int)) S= ((4,((gK (jI ws n) (co ws p m) S).2.1.length:Int)),(gK (jI ws n) (co ws p m) S).2.1++(0,(m:Int))::(gK (jI ws n) (co ws p m) S).1,(p,(gK (jI ws n) (co ws p m) S).2.1.length)::(gK (jI ws n) (co ws p m) S).2.2):=by
 simp[jI,a,b,co]
theorem oN{ws:List Wd}{nm:List ByteArray}{n:Nat}(ih:∀(x:Tm n)(v:Wd)(S:List Wd×cR),dL ws nm n x v->((jI ws n v S).2.1.length:Int)<=S.1.length+sz n x/\(jI ws n v S).2.2.length<=S.2.length+(ax n x).length):(l:List Wd)->(p:List (Tm n))->(S:List Wd×cR)->gD ws nm n l p->((gK (jI ws n) l S).2.1.length:Int)+p.length<=S.1.length+(p.map λy=>1+sz n y).sum/\(gK (jI ws n) l S).2.2.length<=S.2.length+(p.flatMap λy=>ax n y).length
 | [],[],S,_=>by simp[gK]
 | [],_::_,_,h=>by have:=h.1;simp at this
 | _::_,[],_,h=>by have:=h.1;simp at this
 | v::l,y::p,S,h=>by
  obtain⟨e,f⟩:=ih y v S (h.2 0 v y rfl rfl);obtain⟨g,j⟩:=oN ih l p (jI ws n v S).2 ⟨by have:=h.1;simpa using this,λi c d a b=>h.2 (i+1) c d (by simpa using a) (by simpa using b)⟩;simp only[gK,aM,bA,bz,bk,bf];exact⟨by omega,by omega⟩
theorem jz{ws:List Wd}{nm:List ByteArray}{n:Nat}{x:Tm (n+1)}{v:Wd}(i:dL ws nm (n+1) x v)(j:x.1.1=4):∃p:Nat,v=(4,(p:Int))/\ws[p]?=some (0,(x.2.2.length:Int))/\p+1+x.2.2.length<=ws.length/\gD ws nm n (co ws p x.2.2.length) x.2.2:=by
 obtain⟨p,d,e,a,f⟩:=i.2.1 j;refine⟨p,d,e,a,lj a,λk o l b c=>?_⟩;obtain⟨m,g,h⟩:=f k l c;rw[DU (aO.1 c).1,g]at b;obtain rfl:=aw b;exact h
theorem iM{ws:List Wd}{nm:List ByteArray}{n:Nat}{x:Tm (n+1)}{v:Wd}(a:dL ws nm (n+1) x v)(c:x.1.1≠4):v.1≠4:=by
 by_cases b:x.1.1=2
 ·obtain⟨d,rfl,_⟩:=a.1 b;simp
 ·rw[a.2.2 b c];exact c
theorem sk{ws:List Wd}{nm:List ByteArray}:(n:Nat)->(x:Tm n)->(v:Wd)->(S:List Wd×cR)->dL ws nm n x v->((jI ws n v S).2.1.length:Int)<=S.1.length+sz n x/\(jI ws n v S).2.2.length<=S.2.length+(ax n x).length
 | 0,_,_,_,h=>h.elim
 | n+1,x,v,S,h=>by
  have k:=(eT (n+1) x).1;by_cases c:x.1.1=4
  ·obtain⟨p,rfl,g,f,i⟩:=jz h c;cases hk:look S.2 p with
   | some q=>
    rw[EZ hk];exact⟨by simp only;omega,by simp only;omega⟩
   | none=>
    rw[yZ hk g];obtain⟨a,b⟩:=oN (λx v S d=>sk n x v S d) (co ws p x.2.2.length) x.2.2 S i;have e:=qd (jI ws n) (co ws p x.2.2.length) S;rw[lj f]at e;have j:(ax (n+1) x).length=1+(x.2.2.flatMap λy=>ax n y).length:=by simp[ax];omega
    simp only[bk,bf,e,sz,if_pos c,j];exact⟨by omega,by omega⟩
  ·rw[uP (iM h c)];exact⟨by simp only;omega,by simp only;omega⟩
def N8(ws:List Wd)(nm:List ByteArray)(n:Nat):Prop:=∀(x:Tm n)(v:Wd)(base c d:Nat)(a:Value)(S:List Wd×cR)(M:Nat->Prop)(w:World),iB base c a S M w->w.ownsRow d 154 2 a ws.length (aX ws)->(∀b,a.ownBlock=some b->¬M b)->base<=w.heap.size->dL ws nm n x v->aD ⟨n,x⟩->ws.length<=100000->(S.1.length:Int)+sz n x<=90000->S.2.length+(ax n x).length<=90000->
 am 205 #[aB c,I9 v] w λe w'=>e=.returned (I9 (jI ws n v S).1)/\Hid (xd base c a (jI ws n v S).2 M w w')
theorem Nm(n:Nat)(p:List (Tm n))(k:Nat)(x:Tm n)(d:p[k]?=some x):((p.take k).map λy=>1+sz n y).sum+(1+sz n x)<=(p.map λy=>1+sz n y).sum:=by
 obtain⟨c,rfl⟩:=aO.1 d;have a:p=p.take k++p[k]::p.drop (k+1):=by
  rw[<-eA c,ir]
 have b:∀l:List (Tm n),0<=(l.map λy=>1+sz n y).sum:=by
  intro l
  induction l with
  | nil=>simp
  | cons y l ih=>
   have:=(eT n y).1;simp only[aM,bA];omega
 have e:=b (p.drop (k+1))
 conv=>rhs;rw[a]
 simp only[fP,mU,aM,bA];omega
theorem gD.take{ws:List Wd}{nm:List ByteArray}{n:Nat}{l:List Wd}{p:List (Tm n)}(c:gD ws nm n l p)(k:Nat):gD ws nm n (l.take k) (p.take k):=by
 refine⟨by simp[c.1],λe f g a b=>?_⟩;rw[jh]at a b;split at a
 ·rename_i d;rw[if_pos d]at b;exact c.2 e f g a b
 ·cases a
theorem sX(ws:List Wd)(nm:List ByteArray)(n:Nat)(ih:N8 ws nm n)(vs:List Wd)(p:List (Tm n))(base d l:Nat)(c:Value)(S:List Wd×cR)(M:Nat->Prop)(a:Option Addr)(pc:Nat)(w:World)(u:iB base d c S M w)(r:w.ownsRow l 154 2 c ws.length (aX ws))(m:∀b,c.ownBlock=some b->¬M b)(I:base<=w.heap.size)(j:gD ws nm n vs p)(E:∀y∈p,aD ⟨n,y⟩)(F:ws.length<=100000)(C:vs.length<=100000)(L:(S.1.length:Int)+(p.map λy=>1+sz n y).sum<=90000)(J:S.2.length+(p.flatMap λy=>ax n y).length<=90000)(A:eN w vs a)(D:∀b o,a=some ⟨b,o,none⟩->¬M b):am 202 #[aB d,ae a vs.length pc] w λe w'=>∃g,e=.returned (ae (some ⟨g,0,none⟩) vs.length vs.length)/\Hid (CT (jI ws n) vs base d c S M g w w'):=by
 refine yY (jI ws n) vs base d c S M a vs.length pc w rfl C u A D ?_;intro k i s t G x q v;have B:=(aO.1 s).1;obtain⟨y,h⟩:∃y,p[k]?=some y:=⟨p[k]'(by rw[<-j.1];exact B),aG _⟩;obtain⟨P,Q⟩:=oN (λH i S z=>sk n H i S z) (vs.take k) (p.take k) S (j.take k);have N:=Nm n p k y h;have O:=Bw n p k y h;have K:=q.size;refine ih y i base d l c _ t G x (dV r q λb e=>m b e) ?_ (by omega) (j.2 k i y s h) (E y (aH h)) F (by omega) (by omega);intro b e f;rcases v b f with f|f
 ·exact m b e f
 ·have:=(r.lt b e).2;omega
theorem uJ{base b:Nat}{c:Value}{S:List Wd×cR}{M:Nat->Prop}{w w':World}(a:iB base b c S M w)(d:aj w w'):xd base b c S M w w':=
 ⟨(a.later d).mono λ_ a=>ah a.1,aY d M⟩
theorem M0(ws:List Wd)(nm:List ByteArray)(n:Nat)(ih:N8 ws nm n)(ps:List (Tm n))(p:Nat)(base i t:Nat)(l:Value)(S:List Wd×cR)(M:Nat->Prop)(w:World)(c:iB base i l S M w)(F:w.ownsRow t 154 2 l ws.length (aX ws))(P:∀b,l.ownBlock=some b->¬M b)(aT:base<=w.heap.size)(aE:ws[p]?=some (0,(ps.length:Int)))(R:p+1+ps.length<=ws.length)(U:gD ws nm n (co ws p ps.length) ps)(aF:∀y∈ps,aD ⟨n,y⟩)(aR:ps.length<=8)(V:ws.length<=100000)(aH:(S.1.length:Int)+(ps.map λy=>1+sz n y).sum<=90000)(aC:S.2.length+(ps.flatMap λy=>ax n y).length<=90000)(az:look S.2 p=none):am 205 #[aB i,I9 (4,(p:Int))] w λe w'=>e=.returned (I9 (4,((gK (jI ws n) (co ws p ps.length) S).2.1.length:Int)))/\ Hid (xd base i l ((gK (jI ws n) (co ws p ps.length) S).2.1++(0,(ps.length:Int))::(gK (jI ws n) (co ws p ps.length) S).1,(p,(gK (jI ws n) (co ws p ps.length) S).2.1.length)::(gK (jI ws n) (co ws p ps.length) S).2.2) M w w'):=by
 obtain⟨d,u,Q,_,_⟩:=F.form (by omega);have E:=lj R;obtain⟨a1,a2⟩:=oN (λaN aK S ar=>sk n aN aK S ar) (co ws p ps.length) ps S U;refine MX base i l S M p _ d ws.length u ps.length w _ c Q az (by omega) ?_;intro Y j aS;subst Q;have aU:=(F.lt d rfl).2;have T:Y.ownsRow t 154 2 (ae (some ⟨d,0,none⟩) ws.length u) ws.length (aX ws):=dS F j;refine(xQ t d ws.length u p ps.length ws Y V T aE R).mono ?_;rintro e w' ⟨rfl,pa,pc,rfl,_,aG,o,rfl⟩;refine⟨rfl,o,pc,rfl,?_⟩;have au:eN w' (co ws p ps.length) (some ⟨d,o,none⟩):=CK aG (by have:=j.size;omega);have O:=sX ws nm n ih (co ws p ps.length) ps base i t (ae (some ⟨d,0,none⟩) ws.length u) S _ (some ⟨d,o,none⟩) pc w' (c.later j) T (λb e a=>P b e a.1) (by have:=j.size;omega) U aF V (by omega) aH aC au (λb a0 e a=>P b (by injection e with e;injection e with e;subst e;rfl) a.1);rw[E]at O;refine O.mono ?_;rintro e aM ⟨g,rfl,ab⟩;obtain⟨A,G,s,ad,af,aO,H⟩:=ab;rw[E]at H;have v:∀b,A b->(M b/\b<w.heap.size)\/w'.heap.size<=b:=ad;have aV:=s.size;refine⟨g,rfl,λm=>bt (s.block _ (by omega) (λa=>by omega)) m,?_,?_⟩
 ·obtain⟨aJ,x,Z,q,_⟩:=G;exact q.cells.1.1
 refine(P8 base i _ _ A (gK (jI ws n) (co ws p ps.length) S).1 ps.length ps.length (some ⟨g,0,none⟩) aM G (by have:=j.size;omega) (by omega) (by rw[qd];exact E) (by omega) ?_).mono ?_
 ·intro a3 ay;exact ai ⟨_,rfl,(dV H ay (λb e=>by simp only[Value.ownBlock]at e;obtain rfl:=aw e;exact af)).cells (g:=g) rfl⟩
 rintro e r ⟨rfl,aa⟩;obtain⟨I,B⟩:=aa;have aW:=B.size;have D:∀b,w.heap.size<=b->b<w.heap.size+2->¬A b:=λb f h a=>by
  rcases v b a with k|k<;>omega
 have L:∀b,w.heap.size<=b->b<w.heap.size+2->r.heap[b]?=w'.heap[b]? :=λb f h=>(B.block b (by omega) (D b f h)).trans (s.block b (by omega) (λa=>by omega));refine⟨rfl,λm=>bt (L _ (ak _) (by omega)) m,?_,?_⟩
 ·obtain⟨aJ,x,Z,q,_⟩:=I;exact q.cells.1.1
 have bd:aj r r.drew:=(ap _ _).drew;have ag:=I.kept (aY bd (λ_=>False)) (λ_ _ _ c=>c);obtain⟨x,al,z,an,ao,C,J,aP,aq⟩:=MZ ag p (gK (jI ws n) (co ws p ps.length) S).2.1.length (by omega) (by omega) (by simp only;omega);have aA:∀b,w.heap.size<=b->b<w.heap.size+2->b≠x:=λb f h e=>by
  subst e;rcases J with k|k
  ·exact D _ f h k
  ·omega
 have aZ:=C.size;have aQ:r.drew.heap.size=r.heap.size:=rfl;have N:∀b,w.heap.size<=b->b<w.heap.size+2->z.heap[b]?=w'.heap[b]? :=λb f h=>(C.block b (by omega) (aA b f h)).trans (L b f h);refine⟨x,z,al,an,λm=>bt (N _ (ak _) (by omega)) m,aq,λav=>(N _ (by omega) (by omega)).trans av,λX aL=>?_⟩;have q:=bm z (w.heap.size+1) 0 X;have aI:=bm (z.setCell ⟨w.heap.size+1,0,none⟩ X) (w.heap.size+1) 1 aL;have W:=q.trans aI (λb _ c=>c);refine⟨(ao.kept W ?_).mono ?_,?_⟩
 ·rintro b (a|a) _ rfl
  ·exact D _ (by omega) (by omega) a
  ·omega
 ·rintro b (a|a)
  ·rcases v b a with k|k
   ·exact ah k.1
   ·exact ai (by omega)
  ·exact ai (by omega)
 ·refine(((((aY j M).trans s ?_).trans B ?_).trans (aY bd (λ_=>False)) ?_).trans C ?_).trans W ?_
  ·exact λb _ a=>a.1
  ·intro b K a;rcases v b a with k|k
   ·exact k.1
   ·omega
  ·exact λ_ _ c=>c.elim
  ·rintro b K rfl;rcases J with k|k
   ·rcases v _ k with k|k
    ·exact k.1
    ·omega
   ·omega
  ·intro b K c;omega
theorem MW(ws:List Wd)(nm:List ByteArray)(n:Nat):N8 ws nm n:=by
 induction n with
 | zero=>intro a o i d p j c h g _ _ _ _ f;exact f.elim
 | succ n ih=>
  intro a o i d p j c h g e z v u f s B G F;have w:=s (bw n a) (by simp[ax,bw]);have y:a.2.2.length<=8:=mj (bw n a) w;have H:(ax (n+1) a).length=1+(a.2.2.flatMap λb=>ax n b).length:=by simp[ax];omega
  by_cases k:a.1.1=4
  ·obtain⟨m,rfl,r,x,A⟩:=jz f k;cases hk:look c.2 m with
   | some D=>
    rw[EZ hk];refine(MY i d j c h m D g e hk (by omega)).mono ?_;rintro q E ⟨rfl,l⟩;exact⟨rfl,uJ e l⟩
   | none=>
    rw[yZ hk r];have q:sz (n+1) a=1+(a.2.2.map λb=>1+sz n b).sum:=by simp only[sz,if_pos k]
    exact M0 ws nm n ih a.2.2 m i d p j c h g e z v u r x A (λb C=>aU n a b s C) y B (by omega) (by omega) hk
  ·have t:=iM f k;rw[uP t];refine(KG d o.1 o.2 g t).mono ?_;rintro q E ⟨rfl,l⟩;exact⟨rfl,uJ e l⟩
end Go.Proofs.YtmmahddlcldmiaaGreatDoor

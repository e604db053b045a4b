/- Proved here: plain facts and contracts. No condition but what each names. -/
import Derived.Test.YtmmahddlcldmiaaGreatJ15
namespace Go.Proofs.YtmmahddlcldmiaaGreat
open Go.RowKit Go.Proofs.Tryz
open Go.RowKit Go.Maps
set_option maxHeartbeats 1000000
set_option maxRecDepth 100000
def dI(ws:List Wd)(nm:List ByteArray):(n:Nat)->Tm n->Wd->Prop
 | 0,_,_=>False
 | n+1,x,v=>(x.1.1=2->∃i:Nat,v=(2,(i:Int))/\nm[i]?=some x.1.2.2)/\
    (x.1.1=4->∃p:Nat,v=(4,(p:Int))/\ws[p]?=some (0,(x.2.2.length:Int))/\p+1+x.2.2.length<=ws.length/\∀(i:Nat)(y:Tm n),x.2.2[i]?=some y->∃u,ws[p+1+i]?=some u/\dI ws nm n y u)/\
    (x.1.1≠2->x.1.1≠4->v=(x.1.1,x.1.2.1))
def eR(w:World)(vs:List Wd)(a:Option Addr):Prop:=vs=[]\/∃b o,a=some ⟨b,o,none⟩/\b<w.heap.size/\∀(i:Nat)(v:Wd),vs[i]?=some v->w.cell? ⟨b,o+i*2,none⟩=some (ab v.1)/\w.cell? ⟨b,o+i*2+1,none⟩=some (ab v.2)
def PC(n:Nat):Prop:=∀(x:Tm n)(v:Wd)(base:Nat)(a:cw)(room:Int)(ws:List Wd)(nm:List ByteArray)(M:Nat->Prop)(w:World),dH base a room ws nm M w->ws.length<=100000->nm.length<=100000->dI ws nm n x v->aD ⟨n,x⟩->
 ak 140 #[.pointer (some ⟨a.b,a.o,none⟩),IL v] w λe w'=>∃y:Tm n,e=.returned (dq n y)/\Hid (aj w w'/\In w'.heap.size w' n y/\ch (λq=>w.heap.size<=q) n y/\ax n y n x=true)
def qN(q:Nat)(w:World):Prop:=w.heap[q]?=some (.cells #[ab 0,ab 0,af .empty,ae none 0 0] 31)
theorem qN.kept{q:Nat}{w w':World}(a:qN q w)(k:w'.heap[q]?=w.heap[q]?):qN q w':=k.trans a
theorem qN.cells{q:Nat}{w:World}(a:qN q w):(w.cell? ⟨q,0,none⟩=some (ab 0)/\w.cell? ⟨q,1,none⟩=some (ab 0)/\w.cell? ⟨q,2,none⟩=some (af .empty)/\w.cell? ⟨q,3,none⟩=some (ae none 0 0))/\∀j,w.frozen? ⟨q,j,none⟩=false:=by
 unfold qN at a;refine⟨⟨?_,?_,?_,?_⟩,λj=>?_⟩
 all_goals simp[World.cell?,World.frozen?,a]
theorem K5{n:Nat}{p:List (Tm n)}{len:Nat}{w w0:World}(f:w0.ownsRow (w.heap.size+1) 31 4 (.slice (some ⟨(w.alloc (.cells #[ab 0,ab 0,af .empty,ae none 0 0] 31)).heap.size,0,none⟩) len len) len (madeCells (Value.agg #[ab 0,ab 0,af .empty,ae none 0 0]).cells (len*4)).toList)(a:(w.alloc (.cells #[ab 0,ab 0,af .empty,ae none 0 0] 31)).grownBy w0 none):aj w w0/\uk n p len (w.heap.size+1) 0 [] w0/\qN w.heap.size w0:=by
 have c:(w.alloc (.cells #[ab 0,ab 0,af .empty,ae none 0 0] 31)).heap.size=w.heap.size+1:=by simp
 have g:aj w (w.alloc (.cells #[ab 0,ab 0,af .empty,ae none 0 0] 31)):=(ao _ _).alloc (am _) _;have d:Below (w.heap.size+1) (w.alloc (.cells #[ab 0,ab 0,af .empty,ae none 0 0] 31)) w0:=⟨a.os,a.tape,a.output,a.size,λb h=>a.block b (by omega) (by simp)⟩;have e:=ri (w:=w.alloc (.cells #[ab 0,ab 0,af .empty,ae none 0 0] 31)) n p len (by rw[c]at f ⊢;exact f);rw[c]at e;exact⟨g.trans (d.mono (by omega)),e,(d.block _ (by omega)).trans (aA w _)⟩
theorem uk.end{n:Nat}{p:List (Tm n)}{len g:Nat}{l:List (Tm n)}{w wr:World}(r:uk n p len g len l wr)(A:p.length=len)(z:g=w.heap.size+1)(c:aj w wr)(t:len<=maxLen):∀v0 v1 v2 v3,gL n p w (dd wr w.heap.size 0 v0 v1 v2 v3) (some ⟨g,0,none⟩) len l:=by
 intro v0 v1 v2 v3;obtain⟨y,e,i,j⟩:=r;rw[bA (by omega)]at j;rw[gX,mV,eF]at e;refine⟨⟨c.os,c.tape,c.output,az c.size (dA (br _ _ _ _).symm),λh f=>(aX (by omega) _ _ _ _).trans (c.block h f)⟩,by omega,by omega,t,j,ai ⟨g,0,rfl,⟨by omega,rfl,λv=>?_,λa d=>(i a d).2.mono λh f=>by omega⟩,by rw[br];exact e.lt.2,λu a d=>?_⟩⟩
 ·have k:=e.free v;unfold World.frozen? at k ⊢;rw[aX (w:=wr) (g:=w.heap.size) (b:=g) (o:=0) (by omega) v0 v1 v2 v3];exact k
 have s:=e.cells u ⟨n,a⟩ (by simp[d]);have m:=(i a (aJ d)).1;have q:=(i a (aJ d)).2;refine⟨?_,?_,q.mono λh f=>by omega⟩
 ·cases n with
  | zero=>exact m.elim
  | succ n=>
   rw[cX];exact dC.block (aX (by omega) _ _ _ _) (n:=n+1) (x:=a) s
 ·rw[br];exact In.off (λh f=>aX (by omega) _ _ _ _) q m
theorem Ab(n:Nat)(ih:PC n)(base:Nat)(q:cw)(room:Int)(ws:List Wd)(nm:List ByteArray)(M:Nat->Prop)(a:Option Addr)(len pc:Nat)(p:List (Tm n))(vs:List Wd)(Y:Hid (p.length=len))(aC:Hid (vs.length=len))(w:World)(Q:Hid (dH base q room ws nm M w))(aV:len<=8)(al:Hid (ws.length<=100000))(W:Hid (nm.length<=100000))(U:Hid (eR w vs a))(aa:Hid (∀(i:Nat)(y:Tm n)(v:Wd),p[i]?=some y->vs[i]?=some v->dI ws nm n y v))(Z:Hid (∀y∈p,aD ⟨n,y⟩)):ak 177 #[.pointer (some ⟨q.b,q.o,none⟩),ae a len pc] w λe w'=>∃N O l,e=.returned (.agg #[ab 4,ab 0,af .empty,ae N len O])/\Hid (gL n p w w' N O l):=by
 obtain⟨aE,V,ad,ag,ah⟩:=bR gm;go_enter func177,ntmps177;go_wp2_with (at_make;refine kS _ rfl _ _ 29 rfl (w.heap.size+1) 31 aE _ 4 underlying29 V ad ag _ _ _ _ len rfl rfl rfl rfl (by rw[ah];omega) (by unfold maxLen;omega) (by simp) ?_;intro F X T;have A:=ap (K5 (p:=p) X T);clear X T);clear V ad ag ah;obtain⟨d,S⟩:∃d,w.heap.size+1=d:=⟨_,rfl⟩;rw[S]at A ⊢;obtain⟨ar,J,L⟩:Hid (aj w F)/\Hid (uk n p len d 0 [] F)/\Hid (qN w.heap.size F):=A.out;clear A;go_loopw [13] (λi wr=>∃k:Nat,k<=len/\i=ab k/\Hid (aj w wr/\qN w.heap.size wr/\∃l,uk n p len d k l wr)) (λi _=>len-(intOf i).toNat)
 case atStart=>exact⟨0,by omega,rfl,ar,L,[],J⟩
 case round=>
  clear J L;obtain⟨k,aS,rfl,K⟩:=hrel;obtain⟨g,t,l,h⟩:Hid (aj w wr)/\Hid (qN w.heap.size wr)/\∃l,Hid (uk n p len d k l wr):=K.out;clear K;by_cases B:k<len
  ·obtain⟨f,u⟩:∃f,p[k]?=some f:=⟨p[k]'(by rw[Y.out];exact B),aI _⟩;obtain⟨v,s⟩:∃v,vs[k]?=some v:=⟨vs[k]'(by rw[aC.out];exact B),aI _⟩;obtain⟨b,o,rfl,R,ai⟩:∃b o,a=some ⟨b,o,none⟩/\b<w.heap.size/\∀(i:Nat)(v:Wd),vs[i]?=some v->w.cell? ⟨b,o+i*2,none⟩=some (ab v.1)/\w.cell? ⟨b,o+i*2+1,none⟩=some (ab v.2):=by
    rcases U.out with e|e
    ·rw[e]at s;simp at s
    ·exact e
   obtain⟨D,E⟩:=ai k v s;replace D:=(aq g b (o+k*2) R).trans D;replace E:=(aq g b (o+k*2+1) R).trans E;have aB:=ap u;have aR:d<wr.heap.size:=h.2.1.lt.2
   have H:Hid (∀(c:World),aj wr c->ak 140 #[.pointer (some ⟨q.b,q.o,none⟩),.agg #[ab v.1,ab v.2]] c λe w'=>∃y:Tm n,e=.returned (dq n y)/\Hid (aj c w'/\In w'.heap.size w' n y/\ch (λx=>c.heap.size<=x) n y/\ax n y n f=true)):=
    λc j=>ih f v base q room ws nm _ c (Q.later (g.trans (j.mono g.size))) al W (aa k f v u s) (Z f (aJ u))
   clear ih u s ai U aa Z Q al W;have aT:(0:Int)<=(k:Int):=by omega
   have aU:(k:Int)<(len:Int):=by omega
   have aW:b<wr.heap.size:=by omega
   go_wp2_with fail;refine(H _ ((ao _ _).alloc (am _) _)).mono ?_;rintro e c ⟨y,rfl,m⟩;have r:Hid (aj wr c):=((ao _ _).alloc (am _) _).trans (m.1.mono (by simp));have aA:=ap (h.step B f aB r y m.2.1 (m.2.2.1.mono λx C=>by simp at C;omega) m.2.2.2);have z:=ap (h.2.1.below r);have I:=m.2.1;cases n with
   | zero=>exact I.elim
   | succ n=>
   clear I;have au:Hid (aj w (jy c d (k*4) (gj (n+1) y))):=by
    have j:=g.trans (r.mono g.size);exact⟨j.os,j.tape,j.output,az j.size (dA (br _ _ _ _).symm),λx C=>(aX (by omega) _ _ _ _).trans (j.block x C)⟩
   have aw:Hid (qN w.heap.size (jy c d (k*4) (gj (n+1) y))):=t.kept ((aX (by omega) _ _ _ _).trans (r.block _ (by omega)));obtain⟨G,an⟩:∃G,(l.map (λf=>(⟨n+1,f⟩:An))++List.replicate (len-k) zA)[k]?=some G:=⟨_,aI (by simp[h.out.1];omega)⟩;obtain⟨aM,aN,aO,aP⟩:=z.out.cells k G an;have aQ:=λaF=>z.free aF;have P:dq (n+1) y=.agg #[ab y.1.1,ab y.1.2.1,af y.1.2.2,ae y.2.1.1 y.2.2.length y.2.1.2]:=rfl;rw[P];clear H h g m r z t D E an P;go_wp2_with fail;go_roundw
   case rel=>exact⟨k+1,by omega,by go_num,au,aw,l++ [y],aA⟩
   case measure=>simp[intOf];omega
  ·obtain rfl:k=len:=by omega
   have ay:=ap (h.end Y S.symm g (by unfold maxLen;omega));obtain⟨⟨aG,aH,aK,aL⟩,f0⟩:=t.out.cells;clear h ih t;go_wp2_with fail;exact av (v:=.agg #[ab 4,ab 0,af .empty,ae (some ⟨d,0,none⟩) k k]) (by simp[results,results177,go_sem,aG,aH,aK,aL];rfl) rfl ⟨_,_,l,rfl,ay _ _ _ _⟩
theorem yJ{w wA w2:World}(b:aj w wA)(c:aj wA w2)(v0 v1 v2 v3:Value):aj w (dd w2 (w.heap.size+1) 0 v0 v1 v2 v3):=by
 have a:=b.trans (c.mono b.size);exact⟨a.os,a.tape,a.output,az a.size (dA (br _ _ _ _).symm),λe d=>(aX (by omega) _ _ _ _).trans (a.block e d)⟩
theorem Ic(a:cw)(k u:Int)(w:World)(c:¬k=2)(d:¬k=4):ak 140 #[.pointer (some ⟨a.b,a.o,none⟩),.agg #[ab k,ab u]] w λe w'=>e=.returned (.agg #[ab k,ab u,af .empty,ae none 0 0])/\aj w w':=by
 have f:(k==2)=false:=by simpa using c
 have g:(k==4)=false:=by simpa using d
 go_enter func140,ntmps140;go_wp2_with fail;exact av (v:=.agg #[ab k,ab u,af .empty,ae none 0 0]) (by simp[results,results140,go_sem];rfl) rfl ⟨rfl,by go_grown⟩
theorem Ib(base:Nat)(a:cw)(room:Int)(ws:List Wd)(nm:List ByteArray)(M:Nat->Prop)(i:Nat)(s:ByteArray)(w:World)(m:Hid (dH base a room ws nm M w))(q:nm.length<=100000)(r:Hid (nm[i]?=some s))(t:s.size<=2048):ak 140 #[.pointer (some ⟨a.b,a.o,none⟩),.agg #[ab 2,ab i]] w λe w'=>e=.returned (.agg #[ab 2,ab 0,af s,ae none 0 0])/\aj w w':=by
 go_enter func140,ntmps140;go_wp2_with fail;generalize f:(w.alloc (Obj.cells #[Value.int IntKind.i64 2,Value.int IntKind.i64 i] 109)).alloc (Obj.cells #[ab 0,ab 0,af ⟨#[]⟩,ae none 0 0] 31)=wA;have c:Hid (aj w wA.drew/\wA.drew.heap.size=w.heap.size+2):=by
  subst f;exact⟨(((ao _ _).alloc (am _) _).alloc (by simp) _).drew,by simp[World.drew]⟩
 have D:wA.cell? ⟨w.heap.size,1,none⟩=some (ab i):=by subst f;simp[go_sem]
 have l:Hid (qN (w.heap.size+1) wA.drew):=by
  subst f;have:=aA (w.alloc (Obj.cells #[Value.int IntKind.i64 2,Value.int IntKind.i64 i] 109)) (Obj.cells #[ab 0,ab 0,af ⟨#[]⟩,ae none 0 0] 31);have es:∀o,(w.alloc o).heap.size=w.heap.size+1:=λo=>by simp
  rw[es]at this;exact this
 have j:Hid (ak 176 #[.pointer (some ⟨a.b,a.o+2,none⟩),ab i] wA.drew λe w'=>e=.returned (af s)/\Below wA.drew.heap.size wA.drew w'):=by
  obtain⟨C,u,x,n,E,p,_⟩:=m.later c.1;exact DD base a room C u x nm i s wA.drew n p.1 r q t
 clear f;go_region_held3 (λw'=>w'.cell? ⟨w.heap.size,1,none⟩=some (ab i)) (go_keep) ((go_at_call 176;refine j.mono ?_;rintro e G ⟨rfl,d⟩;have g:=ap d;have F:=λo=>aq d w.heap.size o (by have:=c.2;omega);have h:=ap (l.kept (d.block _ (by have:=c.2;omega)));obtain⟨⟨y,z,A,B⟩,f0⟩:=h.cells;clear d));have k:=ap (yJ c.1 g (ab 2) (ab 0) (af s) (ae none 0 0));go_wp2_with fail;exact av (v:=.agg #[ab 2,ab 0,af s,ae none 0 0]) (by simp[results,results140,go_sem,y,z,A,B]) rfl ⟨rfl,k⟩
theorem EL(g o j:Nat):(⟨g,o,none⟩:Addr).add j=⟨g,o+j,none⟩:=by
 unfold Addr.add;by_cases a:j=0<;>simp[a]
theorem CF{w:World}{vs:List Wd}{g o:Nat}(d:fh w vs (some ⟨g,o,none⟩))(h:g<w.heap.size):eR w vs (some ⟨g,o,none⟩):=by
 rcases d with d|⟨ad,c,e⟩
 ·exact ah d
 ·injection c with c;subst c;refine ai ⟨g,o,rfl,h,λa b f=>⟨?_,?_⟩⟩
  ·have:=e (a*2+0) (ab b.1) (by rw[jd vs a b f 0 (by omega)];rfl);rw[EL]at this;exact this
  ·have:=e (a*2+1) (ab b.2) (by rw[jd vs a b f 1 (by omega)];rfl);rw[EL]at this;exact this
theorem KW(n:Nat)(ih:PC n)(base:Nat)(a:cw)(room:Int)(ws:List Wd)(nm:List ByteArray)(M:Nat->Prop)(k len:Nat)(p:List (Tm n))(L:Hid (p.length=len))(w:World)(G:Hid (dH base a room ws nm M w))(ai:len<=8)(E:Hid (ws.length<=100000))(K:Hid (nm.length<=100000))(J:Hid (ws[k]?=some (0,(len:Int))))(D:Hid (k+1+len<=ws.length))(O:Hid (∀(i:Nat)(y:Tm n),p[i]?=some y->∃u,ws[k+1+i]?=some u/\dI ws nm n y u))(N:Hid (∀y∈p,aD ⟨n,y⟩)):ak 140 #[.pointer (some ⟨a.b,a.o,none⟩),.agg #[ab 4,ab k]] w λe w'=>∃g h l,e=.returned (.agg #[ab 4,ab 0,af .empty,ae g len h])/\Hid (gL n p w w' g h l):=by
 go_enter func140,ntmps140;go_wp2_with fail;generalize x:(w.alloc (Obj.cells #[Value.int IntKind.i64 4,Value.int IntKind.i64 k] 109)).alloc (Obj.cells #[ab 0,ab 0,af ⟨#[]⟩,ae none 0 0] 31)=wA;have m:Hid (aj w wA.drew/\wA.drew.heap.size=w.heap.size+2):=by
  subst x;exact⟨(((ao _ _).alloc (am _) _).alloc (by simp) _).drew,by simp[World.drew]⟩
 have X:wA.cell? ⟨w.heap.size,1,none⟩=some (ab k):=by subst x;simp[go_sem]
 have V:Hid (qN (w.heap.size+1) wA.drew):=by
  subst x;have:=aA (w.alloc (Obj.cells #[Value.int IntKind.i64 4,Value.int IntKind.i64 k] 109)) (Obj.cells #[ab 0,ab 0,af ⟨#[]⟩,ae none 0 0] 31);have es:∀o,(w.alloc o).heap.size=w.heap.size+1:=λo=>by simp
  rw[es]at this;exact this
 have A:=ap (G.later m.1);obtain⟨c,j,f,B,F⟩:∃c j f,wA.cell? ⟨a.b,a.o+1,none⟩=some (ae (some ⟨c,0,none⟩) j f)/\Hid (a.b<w.heap.size/\ak 178 #[ae (some ⟨c,0,none⟩) j f,ab k] wA.drew λe w'=>∃o pc,e=.returned (ae (some ⟨c,o,none⟩) len pc)/\w'=wA.drew/\Hid (eR wA.drew ((ws.drop (k+1)).take len) (some ⟨c,o,none⟩))):=by
  obtain⟨aM,aK,aL,Y,C,aF,Z,_⟩:=A.out;obtain⟨⟨aB,B,aC,aE⟩,aH⟩:=Y.cells;have ah:=D.out;obtain⟨c,f,rfl,_,_⟩:=C.form (by omega);refine⟨c,_,f,B,Z.2,?_⟩;refine(xI base c ws.length f k len ws wA.drew E C J ah).mono ?_;rintro e w' ⟨rfl,pa,pc,rfl,_,ar,o,rfl⟩;exact⟨o,pc,rfl,rfl,CF ar (C.lt c rfl).2⟩
 have S:Hid (∀o pc,eR wA.drew ((ws.drop (k+1)).take len) (some ⟨c,o,none⟩)->ak 177 #[.pointer (some ⟨a.b,a.o,none⟩),ae (some ⟨c,o,none⟩) len pc] wA.drew λe w'=>∃g h l,e=.returned (.agg #[ab 4,ab 0,af .empty,ae g len h])/\Hid (gL n p wA.drew w' g h l)):=by
  intro o pc ag;refine Ab n ih base a room ws nm _ (some ⟨c,o,none⟩) len pc p ((ws.drop (k+1)).take len) L ?_ wA.drew A ai E K ag ?_ N
  ·have:=D.out;unfold Hid;rw[dG,eZ];omega
  ·intro i y v Q P;obtain⟨u,an,al⟩:=O.out i y Q;have ad:i<len:=by have:=(aS.1 Q).1;have:=L.out;omega
   rw[sS ad,kK,an]at P;obtain rfl:=aw P;exact al
 clear x ih O N G A J D E K;have aI:a.b<w.heap.size:=F.1;have aJ:w.heap.size+1≠a.b:=by omega
 have U:Hid (∀(d:World)(q r s t:Value),(d.cell? ⟨w.heap.size,1,none⟩=some (ab k)/\d.cell? ⟨a.b,a.o+1,none⟩=some (ae (some ⟨c,0,none⟩) j f))->((((d.setCell ⟨w.heap.size+1,0,none⟩ q).setCell ⟨w.heap.size+1,1,none⟩ r).setCell ⟨w.heap.size+1,2,none⟩ s).setCell ⟨w.heap.size+1,3,none⟩ t).cell? ⟨w.heap.size,1,none⟩=some (ab k)/\((((d.setCell ⟨w.heap.size+1,0,none⟩ q).setCell ⟨w.heap.size+1,1,none⟩ r).setCell ⟨w.heap.size+1,2,none⟩ s).setCell ⟨w.heap.size+1,3,none⟩ t).cell? ⟨a.b,a.o+1,none⟩=some (ae (some ⟨c,0,none⟩) j f)):=by
  intro d q r s t I;exact⟨(bw (aX (o:=0) (w:=d) (show w.heap.size≠w.heap.size+1 by omega) q r s t) 1).trans I.1,(bw (aX (o:=0) (w:=d) (show a.b≠w.heap.size+1 by omega) q r s t) (a.o+1)).trans I.2⟩
 go_region_held3 (λw'=>w'.cell? ⟨w.heap.size,1,none⟩=some (ab k)/\w'.cell? ⟨a.b,a.o+1,none⟩=some (ae (some ⟨c,0,none⟩) j f)) (first|(go_keep;done)|exact U _ _ _ _ _ aa) ((first
  | (go_at_call 178;refine F.2.mono ?_;rintro e d ⟨o,pc,rfl,rfl,W⟩)
  | (go_at_call 177;refine(S _ _ W).mono ?_;rintro e d ⟨g,h,l,rfl,z⟩;have H:=λb o (aG:b<w.heap.size+1)=>aq z.1 b o (by have:=m.2;omega);have aa:d.cell? ⟨w.heap.size,1,none⟩=some (ab k)/\d.cell? ⟨a.b,a.o+1,none⟩=some (ae (some ⟨c,0,none⟩) j f):=⟨(H w.heap.size 1 (by omega)).trans X,(H a.b (a.o+1) (by omega)).trans B⟩;have R:=ap (V.kept (z.1.block _ (by have:=m.2;omega)));obtain⟨⟨au,ax,ay,az⟩,f0⟩:=R.cells)))
 have T:=ap (z.box m.1 (by have:=m.2;omega) (ab 4) (ab 0) (af .empty) (ae g len h));go_wp2_with fail;exact av (v:=.agg #[ab 4,ab 0,af .empty,ae g len h]) (by simp[results,results140,go_sem,au,ax,ay,az]) rfl ⟨g,h,l,rfl,T⟩
theorem uQ(x:Nd)(b:cE x=true):dx x.1.1/\dx x.1.2.1:=by
 have c:=kv x b;unfold cE qK at b;unfold dx;rcases c with a|a|a|a|a|⟨a,d⟩
 all_goals (rw[a]at b ⊢;simp at b;refine⟨by omega,by omega⟩)
theorem KV(n:Nat):PC n:=by
 induction n with
 | zero=>intro a af u q room B z t s _ _ _ x;exact x.elim
 | succ n ih=>
  intro a af u q room B z t s C V F x H;have p:=H (bD n a) (by simp[ay,bD]);have S:a.2.2.length<=8:=mr (bD n a) p;have G:a.1.2.2.size<=2048:=by have:=sx (bD n a) p;simp only[bD]at this;omega
  obtain⟨ad,ae,ab⟩:=x;have g:=eM (bD n a) p;have I:∀(e:World)(k A:Int)(r:ByteArray),dx k->dx A->r.size<=2048->In e.heap.size e (n+1) ((k,A,r),(none,0),[]):=λe k A r M d ag=>⟨⟨M,d,by unfold maxLen;show r.size<=_;omega,am _,aH _⟩,ah rfl⟩;by_cases d:a.1.1=2
  ·obtain⟨j,rfl,P⟩:=ad d;have y:a.2.2=[]:=bE (g.2.2.2.2 (by show a.1.1≠4;omega));refine(Ib u q room B z t j a.1.2.2 s C F P G).mono ?_;rintro f e ⟨rfl,v⟩;refine⟨((2,0,a.1.2.2),(none,0),[]),rfl,v,I e 2 0 _ (by unfold dx;omega) (by unfold dx;omega) G,ah rfl,?_⟩;have N:a.1.2.1=0:=g.2.1 d;simp[ax,d,N,y,aB]
  ·by_cases h:a.1.1=4
   ·obtain⟨k,rfl,Q,R,T⟩:=ae h;refine(KW n ih u q room B z t k a.2.2.length a.2.2 rfl s C S V F Q R T (λm i=>aV n a m H i)).mono ?_;rintro f e ⟨K,L,l,rfl,J⟩;obtain⟨W,X,Y,Z,aa,c⟩:=J;have O:a.1.2.1=0:=g.2.2.1 h;have w:a.1.2.2.toList=[]:=g.1 d;refine⟨((4,0,.empty),(K,L),l),by rw[<-X];rfl,W,⟨⟨by unfold dx;show (-9223372036854775808:Int)<=4/\(4:Int)<=9223372036854775807;omega,by unfold dx;show (-9223372036854775808:Int)<=0/\(0:Int)<=9223372036854775807;omega,by unfold maxLen;show (0:Nat)<=_;omega,Y,Z⟩,?_⟩,?_,?_⟩
    ·rcases c with c|⟨b,o,f,D,E,c⟩
     ·exact ah c
     ·exact ai ⟨b,o,f,E,λj m i=>⟨(c j m i).1,(c j m i).2.1⟩⟩
    ·rcases c with c|⟨b,o,f,D,E,c⟩
     ·exact ah c
     ·exact ai ⟨b,o,f,D.1,λj m i=>(c j m i).2.2⟩
    ·simp only[ax];rw[h,O,w,aa];simp
   ·have U:=ab d h;subst U;have y:a.2.2=[]:=bE (g.2.2.2.2 h);have w:a.1.2.2.toList=[]:=g.1 d;refine(Ic q a.1.1 a.1.2.1 s d h).mono ?_;rintro f e ⟨rfl,v⟩;refine⟨((a.1.1,a.1.2.1,.empty),(none,0),[]),rfl,v,I e _ _ _ ?_ ?_ (by show (0:Nat)<=_;omega),ah rfl,?_⟩
    ·exact(uQ _ p).1
    ·exact(uQ _ p).2
    ·simp only[ax];rw[w,y];simp[aB]
def cN(ws:List Wd)(nm:List ByteArray)(v:Wd):Bool:=
 if v.1=1 then qK v.2 (-1099511627776) 1099511627776 else if v.1=3 then qK v.2 1 99 else if v.1=2 then uS nm.length v.2 else if v.1=4 then fV ws v.2 else false
def zk(k u:Int):Tm 1:=((k,u,.empty),(none,0),[])
theorem JW(k u:Int)(a:k=1\/k=3):bz 1 (zk k u)=if cE (bD 0 (zk k u))then 0 else 5:=by
 rcases a with rfl|rfl<;>simp[bz,zk,ay,pP,C0,sz,ns,bD]<;>rfl
theorem GH(ws:List Wd)(nm:List ByteArray)(k u:Int)(a:k=1\/k=3):cE (bD 0 (zk k u))=cN ws nm (k,u):=by
 rcases a with rfl|rfl<;>simp[cE,zk,bD,cN]
theorem vS(h:cw)(ws:List Wd)(nm:List ByteArray)(k u:Int)(w:World)(c:k=1\/k=3)(i:dx u):ak 113 #[.pointer (some ⟨h.b,h.o,none⟩),.agg #[ab k,ab u]] w λe w'=>e=.returned (.bool (cN ws nm (k,u)))/\aj w w':=by
 have d:Hid (∀a,ak 53 #[.agg #[ab k,ab u,af .empty,ae none 0 0]] a λe w'=>e=.returned (ab (if cN ws nm (k,u)then 0 else 5))/\aj a w'):=by
  intro a;have f:=dL 1 (zk k u) a.heap.size a ⟨⟨by rcases c with rfl|rfl<;>simp[zk,dx],i,by simp[zk,maxLen],am _,aH _⟩,ah rfl⟩ (am _) (by simp[ay,zk]);rw[JW k u c,GH ws nm k u c]at f;exact f
 generalize cN ws nm (k,u)=j at*;cases j
 all_goals
  simp only[cT,ph,if_false]at d;rcases c with rfl|rfl
  all_goals
   go_enter func113,ntmps113;go_wp2_with fail;refine(d _).mono ?_;rintro e l ⟨rfl,g⟩;have HB:=ap g;clear g;go_wp2_with fail
   go_ret
   exact⟨rfl,((ao _ _).alloc (am _) _).trans (HB.mono (by simp))⟩
theorem Ck(base:Nat)(a:cw)(room:Int)(ws:List Wd)(nm:List ByteArray)(M:Nat->Prop)(u:Int)(w:World)(i:Hid (dH base a room ws nm M w)):ak 113 #[.pointer (some ⟨a.b,a.o,none⟩),.agg #[ab 2,ab u]] w λe w'=>e=.returned (.bool (uS nm.length u))/\aj w w':=by
 have j:Hid (∀wA,aj w wA->ak 149 #[.pointer (some ⟨a.b,a.o+2,none⟩),ab u] wA λe w'=>e=.returned (.bool (uS nm.length u))/\w'=wA):=by
  intro wA n;obtain⟨r,p,q,l,y,m,_⟩:=i.out.later n;obtain⟨f,g,rfl⟩:∃f g,p=ae f nm.length g:=by
   rcases m.1.2 with⟨e,k⟩|⟨x,c,t,e,_⟩
   ·exact⟨none,0,by rw[e,k]⟩
   ·exact⟨_,c,e⟩
  exact Mi a room r f nm.length g q u wA l
 clear i;generalize uS nm.length u=s at*;go_enter func113,ntmps113;go_wp2_with fail;generalize d:w.alloc (Obj.cells #[Value.int IntKind.i64 2,Value.int IntKind.i64 u] 109)=wA;have h:Hid (aj w wA.drew):=by subst d;exact((ao _ _).alloc (am _) _).drew
 have v:wA.cell? ⟨w.heap.size,1,none⟩=some (ab u):=by subst d;simp[go_sem]
 clear d;go_region_held3 (λw'=>w'.cell? ⟨w.heap.size,1,none⟩=some (ab u)) (go_keep) ((go_at_call 149;refine(j _ h).mono ?_;rintro e z ⟨rfl,rfl⟩));go_wp2_with fail
 go_ret
 exact⟨rfl,h⟩
theorem Ej(base:Nat)(a:cw)(room:Int)(ws:List Wd)(nm:List ByteArray)(M:Nat->Prop)(u:Int)(w:World)(k:Hid (dH base a room ws nm M w))(s:ws.length<=100000):ak 113 #[.pointer (some ⟨a.b,a.o,none⟩),.agg #[ab 4,ab u]] w λe w'=>e=.returned (.bool (fV ws u))/\aj w w':=by
 obtain⟨d,f,r,j,n⟩:∃d f,a.b<w.heap.size/\w.cell? ⟨a.b,a.o+1,none⟩=some (ae d ws.length f)/\Hid (∀wA,aj w wA->ak 150 #[ae d ws.length f,ab u] wA λe w'=>e=.returned (.bool (fV ws u))/\w'=wA):=by
  obtain⟨t,B,C,l,m,A,_⟩:=k.out;obtain⟨d,f,rfl⟩:∃d f,t=ae d ws.length f:=by
   rcases m.2 with⟨e,p⟩|⟨z,c,x,e,_⟩
   ·exact⟨none,0,by rw[e,p]⟩
   ·exact⟨_,c,e⟩
  exact⟨d,f,l.lt,l.cells.1.2.1,λwA q=>CU base d ws.length f ws u wA rfl s (dT m q)⟩
 clear k;generalize fV ws u=v at*;generalize ws.length=i at*;go_enter func113,ntmps113;go_wp2_with fail;generalize h:w.alloc (Obj.cells #[Value.int IntKind.i64 4,Value.int IntKind.i64 u] 109)=wA;have g:Hid (aj w wA.drew):=by subst h;exact((ao _ _).alloc (am _) _).drew
 have y:wA.cell? ⟨w.heap.size,1,none⟩=some (ab u):=by subst h;simp[go_sem]
 replace j:wA.cell? ⟨a.b,a.o+1,none⟩=some (ae d i f):=(aq g a.b (a.o+1) r).trans j;clear h;go_region_held3 (λw'=>w'.cell? ⟨w.heap.size,1,none⟩=some (ab u)/\w'.cell? ⟨a.b,a.o+1,none⟩=some (ae d i f)) (go_keep) ((go_at_call 150;refine(n _ g).mono ?_;rintro e D ⟨rfl,rfl⟩));go_wp2_with fail
 go_ret
 exact⟨rfl,g⟩
theorem Cm(a:cw)(k u:Int)(w:World)(c:¬k=1)(d:¬k=2)(f:¬k=3)(g:¬k=4):ak 113 #[.pointer (some ⟨a.b,a.o,none⟩),.agg #[ab k,ab u]] w λe w'=>e=.returned (.bool false)/\aj w w':=by
 have h:(k==1)=false:=by simpa using c
 have i:(k==2)=false:=by simpa using d
 have j:(k==3)=false:=by simpa using f
 have l:(k==4)=false:=by simpa using g
 go_enter func113,ntmps113;go_wp2_with fail
 go_ret
 exact⟨rfl,by go_grown⟩
theorem vR(base:Nat)(c:cw)(room:Int)(ws:List Wd)(nm:List ByteArray)(M:Nat->Prop)(v:Wd)(w:World)(i:dH base c room ws nm M w)(l:ws.length<=100000)(j:dx v.2):ak 113 #[.pointer (some ⟨c.b,c.o,none⟩),IL v] w λe w'=>e=.returned (.bool (cN ws nm v))/\aj w w':=by
 obtain⟨k,a⟩:=v;by_cases d:k=1
 ·exact vS c ws nm k a w (ah d) j
 ·by_cases g:k=3
  ·exact vS c ws nm k a w (ai g) j
  ·by_cases f:k=2
   ·subst f;have e:cN ws nm (2,a)=uS nm.length a:=by simp[cN]
    rw[e];exact Ck base c room ws nm M a w i
   ·by_cases h:k=4
    ·subst h;have e:cN ws nm (4,a)=fV ws a:=by simp[cN]
     rw[e];exact Ej base c room ws nm M a w i l
    ·have e:cN ws nm (k,a)=false:=by simp[cN,d,f,g,h]
     rw[e];exact Cm c k a w d f g h
theorem yF(base:Nat)(j:cw)(room:Int)(ws:List Wd)(nm:List ByteArray)(M:Nat->Prop)(vs:List Wd)(a:Option Addr)(len pc:Nat)(w:World)(r:Hid (dH base j room ws nm M w))(D:ws.length<=100000)(y:Hid (vs.length=len))(I:len<=100000)(x:Hid (eR w vs a))(u:Hid (∀v∈vs,dx v.2)):ak 74 #[.pointer (some ⟨j.b,j.o,none⟩),ae a len pc] w λe w'=>e=.returned (.bool (vs.all (cN ws nm)))/\aj w w':=by
 go_enter func74,ntmps74;go_wp2_with fail;go_loopw [9] (λg wr=>∃k:Nat,k<=len/\g=ab k/\Hid (aj w wr/\(vs.take k).all (cN ws nm)=true)) (λg _=>len-(intOf g).toNat)
 case atStart=>exact⟨0,by omega,rfl,ao _ _,by simp⟩
 case round=>
  obtain⟨k,F,rfl,c⟩:=hrel;by_cases C:k<len
  ·obtain⟨v,f⟩:∃v,vs[k]?=some v:=⟨vs[k]'(by rw[y.out];exact C),aI _⟩;obtain⟨b,o,rfl,t,z⟩:∃b o,a=some ⟨b,o,none⟩/\b<w.heap.size/\∀(g:Nat)(v:Wd),vs[g]?=some v->w.cell? ⟨b,o+g*2,none⟩=some (ab v.1)/\w.cell? ⟨b,o+g*2+1,none⟩=some (ab v.2):=by
    rcases x.out with e|e
    ·rw[e]at f;simp at f
    ·exact e
   obtain⟨p,q⟩:=z k v f;replace p:=(aq c.1 b (o+k*2) t).trans p;replace q:=(aq c.1 b (o+k*2+1) t).trans q
   have h:Hid (∀(d:World),aj wr d->ak 113 #[.pointer (some ⟨j.b,j.o,none⟩),.agg #[ab v.1,ab v.2]] d λe w'=>e=.returned (.bool (cN ws nm v))/\aj d w'):=
    λd B=>vR base j room ws nm _ v d (r.later (c.1.trans (B.mono c.1.size))) D (u v (aJ f))
   have i:Hid ((cN ws nm v=true->(vs.take (k+1)).all (cN ws nm)=true)/\(cN ws nm v=false->vs.all (cN ws nm)=false)):=by
    refine⟨λe=>?_,λe=>?_⟩
    ·rw[du,f,kH,c.out.2];simp[e]
    ·cases ha:vs.all (cN ws nm)
     ·rfl
     ·rw[ci]at ha;rw[ha v (aJ f)]at e;exact e
   have m:Hid (aj w wr):=c.1;clear f z x r u c;have G:(0:Int)<=(k:Int):=by omega
   have H:(k:Int)<(len:Int):=by omega
   have E:=m.size;have J:b<wr.heap.size:=by omega
   clear E;cases hsb:cN ws nm v
   ·rw[hsb]at h;replace i:=ap (i.2 hsb);clear hsb;go_wp2_with fail;refine(h _ ((ao _ _).alloc (am _) _)).mono ?_;rintro e d ⟨rfl,n⟩;have l:Hid (aj w d):=m.trans ((((ao _ _).alloc (am _) _).trans (n.mono (by simp))).mono m.size);clear n p q h;go_wp2_with fail
    go_ret
    exact⟨eW i.symm,l⟩
   ·rw[hsb]at h;replace i:=ap (i.1 hsb);clear hsb;go_wp2_with fail;refine(h _ ((ao _ _).alloc (am _) _)).mono ?_;rintro e d ⟨rfl,n⟩;have l:Hid (aj w d):=m.trans ((((ao _ _).alloc (am _) _).trans (n.mono (by simp))).mono m.size);clear n p q h;go_wp2_with fail;go_roundw
    case rel=>exact⟨k+1,by omega,by go_num,l,i⟩
    case measure=>simp[intOf];omega
  ·have A:Hid (vs.all (cN ws nm)=true):=by
     have s:=c.2;rw[bA (by have:=y.out;omega)]at s;exact s
   have l:Hid (aj w wr):=c.1;clear c;go_wp2_with fail
   go_ret
   exact⟨eW A.symm,l⟩
def lS(q:Nat)(k u:Int)(s:ByteArray)(a:Option Addr)(l c:Nat)(w:World):Prop:=
 w.heap[q]?=some (.cells #[ab k,ab u,af s,ae a l c] 31)/\w.heap[q+1]?=some (.cells #[ab 0,ab 0] 109)
theorem ue(w:World)(k u:Int)(s:ByteArray)(a:Option Addr)(l c:Nat):lS w.heap.size k u s a l c ((w.alloc (Obj.cells #[ab k,ab u,af s,ae a l c] 31)).alloc (Obj.cells #[ab 0,ab 0] 109)):=by
 refine⟨((cR (w.alloc (Obj.cells #[ab k,ab u,af s,ae a l c] 31)) (Obj.cells #[ab 0,ab 0] 109) none).block _ (by simp) (by simp)).trans (aA w _),?_⟩;have:=aA (w.alloc (Obj.cells #[ab k,ab u,af s,ae a l c] 31)) (Obj.cells #[ab 0,ab 0] 109);have es:∀o,(w.alloc o).heap.size=w.heap.size+1:=λo=>by simp
 rw[es]at this;exact this
theorem lS.facts{q:Nat}{k u:Int}{s:ByteArray}{a:Option Addr}{l c:Nat}{w:World}(b:lS q k u s a l c w):(w.cell? ⟨q,0,none⟩=some (ab k)/\w.cell? ⟨q,1,none⟩=some (ab u)/\w.cell? ⟨q,2,none⟩=some (af s)/\w.cell? ⟨q,3,none⟩=some (ae a l c))/\(w.cell? ⟨q+1,0,none⟩=some (ab 0)/\w.cell? ⟨q+1,1,none⟩=some (ab 0))/\w.frozen? ⟨q+1,0,none⟩=false/\w.frozen? ⟨q+1,1,none⟩=false:=by
 obtain⟨d,e⟩:=b;refine⟨⟨?_,?_,?_,?_⟩,⟨?_,?_⟩,?_,?_⟩
 all_goals simp[World.cell?,World.frozen?,d,e]
theorem fP{k u:Int}{s:ByteArray}{a:Option Addr}{l c:Nat}{w w1 w2:World}(f:aj w w1/\w.heap.size+2<=w1.heap.size/\lS w.heap.size k u s a l c w1)(b:aj w1 w2):aj w w2/\w.heap.size+2<=w2.heap.size/\lS w.heap.size k u s a l c w2:=by
 obtain⟨d,g,e⟩:=f;have:=b.size;exact⟨d.trans (b.mono d.size),by omega,(b.block _ (by omega)).trans e.1,(b.block _ (by omega)).trans e.2⟩
theorem qn{k u:Int}{s:ByteArray}{a:Option Addr}{l c:Nat}{w w1:World}(d:aj w w1/\w.heap.size+2<=w1.heap.size/\lS w.heap.size k u s a l c w1)(v0 v1:Value):aj w ((w1.setCell ⟨w.heap.size+1,0,none⟩ v0).setCell ⟨w.heap.size+1,1,none⟩ v1):=by
 obtain⟨f,j,m⟩:=d;have h:=bq w1 (w.heap.size+1) 0 v0;have i:=bq (w1.setCell ⟨w.heap.size+1,0,none⟩ v0) (w.heap.size+1) 1 v1;have e:=(aZ f (λb=>b=w.heap.size+1)).trans (h.trans i (λb _ d=>d)) (λb _ d=>d);exact⟨e.os,e.tape,e.output,e.size,λb g=>e.block b g (by omega)⟩
theorem Om(j:cw)(k u:Int)(s:ByteArray)(a:Option Addr)(l c:Nat)(w:World)(d:Int)(r:(d !=0)=true)(n:Hid (∀w1,aj w w1->ak 53 #[.agg #[ab k,ab u,af s,ae a l c]] w1 λe w'=>e=.returned (ab d)/\aj w1 w')):ak 73 #[.pointer (some ⟨j.b,j.o,none⟩),.agg #[ab k,ab u,af s,ae a l c]] w λe w'=>e=.returned (.tuple #[.agg #[ab 0,ab 0],ab d])/\aj w w':=by
 go_enter func73,ntmps73;go_wp2_with fail;generalize m:(w.alloc (Obj.cells #[ab k,ab u,af s,ae a l c] 31)).alloc (Obj.cells #[ab 0,ab 0] 109)=g;have f:Hid (aj w g/\w.heap.size+2<=g.heap.size/\lS w.heap.size k u s a l c g):=by
  subst m;exact⟨((ao _ _).alloc (am _) _).alloc (by simp) _,by simp,ue _ _ _ _ _ _ _⟩
 clear m;refine(n _ f.1).mono ?_;rintro e w1 ⟨rfl,i⟩;have h:=ap (fP f i);obtain⟨⟨t0,t1,t2,t3⟩,⟨p,q⟩,f0,f1⟩:=h.out.2.2.facts;clear i f;go_wp2_with fail;exact av (v:=.tuple #[.agg #[ab 0,ab 0],ab d]) (by simp[results,results73,go_sem,p,q]) rfl ⟨rfl,qn h _ _⟩
theorem On(n:cw)(k u:Int)(s:ByteArray)(a:Option Addr)(l c:Nat)(w:World)(q:Hid (∀w1,aj w w1->ak 53 #[.agg #[ab k,ab u,af s,ae a l c]] w1 λe w'=>e=.returned (ab 0)/\aj w1 w'))(r:Hid (∀w1,aj w w1->ak 54 #[.agg #[ab k,ab u,af s,ae a l c]] w1 λe w'=>e=.returned (.bool false)/\aj w1 w')):ak 73 #[.pointer (some ⟨n.b,n.o,none⟩),.agg #[ab k,ab u,af s,ae a l c]] w λe w'=>e=.returned (.tuple #[.agg #[ab 0,ab 0],ab 5])/\aj w w':=by
 go_enter func73,ntmps73;go_wp2_with fail;generalize p:(w.alloc (Obj.cells #[ab k,ab u,af s,ae a l c] 31)).alloc (Obj.cells #[ab 0,ab 0] 109)=j;have g:Hid (aj w j/\w.heap.size+2<=j.heap.size/\lS w.heap.size k u s a l c j):=by
  subst p;exact⟨((ao _ _).alloc (am _) _).alloc (by simp) _,by simp,ue _ _ _ _ _ _ _⟩
 clear p;refine(q _ g.1).mono ?_;rintro e w1 ⟨rfl,d⟩;have f:=ap (fP g d);obtain⟨⟨t0,t1,t2,t3⟩,⟨h,i⟩,f0,f1⟩:=f.out.2.2.facts;clear d g;go_wp2_with fail;clear t0 t1 t2 t3 h i f0 f1;refine(r _ f.1).mono ?_;rintro e t ⟨rfl,d⟩;have m:=ap (fP f d);obtain⟨⟨t0,t1,t2,t3⟩,⟨h,i⟩,f0,f1⟩:=m.out.2.2.facts;clear d f;go_wp2_with fail;exact av (v:=.tuple #[.agg #[ab 0,ab 0],ab 5]) (by simp[results,results73,go_sem,h,i]) rfl ⟨rfl,qn m _ _⟩
theorem Oo(m:cw)(k u:Int)(s:ByteArray)(a:Option Addr)(l c:Nat)(w:World)(t:Int)(x:Hid (∀w1,aj w w1->ak 53 #[.agg #[ab k,ab u,af s,ae a l c]] w1 λe w'=>e=.returned (ab 0)/\aj w1 w'))(z:Hid (∀w1,aj w w1->ak 54 #[.agg #[ab k,ab u,af s,ae a l c]] w1 λe w'=>e=.returned (.bool true)/\aj w1 w'))(A:Hid (∀w1,aj w w1->ak 88 #[.agg #[ab k,ab u,af s,ae a l c]] w1 λe w'=>e=.returned (ab t)/\aj w1 w'))(y:Hid (∀w1,aj w w1->ak 111 #[.pointer (some ⟨m.b,m.o,none⟩),ab t] w1 λe w'=>e=.returned (.bool false)/\aj w1 w')):ak 73 #[.pointer (some ⟨m.b,m.o,none⟩),.agg #[ab k,ab u,af s,ae a l c]] w λe w'=>e=.returned (.tuple #[.agg #[ab 0,ab 0],ab 6])/\aj w w':=by
 go_enter func73,ntmps73;go_wp2_with fail;generalize r:(w.alloc (Obj.cells #[ab k,ab u,af s,ae a l c] 31)).alloc (Obj.cells #[ab 0,ab 0] 109)=p;have n:Hid (aj w p/\w.heap.size+2<=p.heap.size/\lS w.heap.size k u s a l c p):=by
  subst r;exact⟨((ao _ _).alloc (am _) _).alloc (by simp) _,by simp,ue _ _ _ _ _ _ _⟩
 clear r;refine(x _ n.1).mono ?_;rintro e w1 ⟨rfl,d⟩;have h:=ap (fP n d);obtain⟨⟨t0,t1,t2,t3⟩,⟨f,g⟩,f0,f1⟩:=h.out.2.2.facts;clear d n;go_wp2_with fail;clear t0 t1 t2 t3 f g f0 f1;refine(z _ h.1).mono ?_;rintro e B ⟨rfl,d⟩;have i:=ap (fP h d);obtain⟨⟨t0,t1,t2,t3⟩,⟨f,g⟩,f0,f1⟩:=i.out.2.2.facts;clear d h;go_wp2_with fail;clear t0 t1 t2 t3 f g f0 f1;refine(A _ i.1).mono ?_;rintro e C ⟨rfl,d⟩;have j:=ap (fP i d);obtain⟨⟨t0,t1,t2,t3⟩,⟨f,g⟩,f0,f1⟩:=j.out.2.2.facts;clear d i;go_wp2_with fail;clear t0 t1 t2 t3 f g f0 f1;refine(y _ j.1).mono ?_;rintro e D ⟨rfl,d⟩;have q:=ap (fP j d);obtain⟨⟨t0,t1,t2,t3⟩,⟨f,g⟩,f0,f1⟩:=q.out.2.2.facts;clear d j;go_wp2_with fail;exact av (v:=.tuple #[.agg #[ab 0,ab 0],ab 6]) (by simp[results,results73,go_sem,f,g]) rfl ⟨rfl,qn q _ _⟩
theorem Oq(g:cw)(k u:Int)(s:ByteArray)(a:Option Addr)(l c:Nat)(w:World)(y:Int)(V:Wd)(base:Nat)(room:Int)(ws:List Wd)(nm:List ByteArray)(M:Nat->Prop)(z:Hid (∀w1,aj w w1->ak 53 #[.agg #[ab k,ab u,af s,ae a l c]] w1 λe w'=>e=.returned (ab 0)/\aj w1 w'))(C:Hid (∀w1,aj w w1->ak 54 #[.agg #[ab k,ab u,af s,ae a l c]] w1 λe w'=>e=.returned (.bool true)/\aj w1 w'))(D:Hid (∀w1,aj w w1->ak 88 #[.agg #[ab k,ab u,af s,ae a l c]] w1 λe w'=>e=.returned (ab y)/\aj w1 w'))(B:Hid (∀w1,aj w w1->ak 111 #[.pointer (some ⟨g.b,g.o,none⟩),ab y] w1 λe w'=>e=.returned (.bool true)/\aj w1 w'))(E:Hid (∀w1,aj w w1->ak 112 #[.pointer (some ⟨g.b,g.o,none⟩),.agg #[ab k,ab u,af s,ae a l c]] w1 λe w'=>e=.returned (.agg #[ab V.1,ab V.2])/\Hid (l6 base g room ws nm (λb=>M b/\b<w.heap.size) w1 w'))):ak 73 #[.pointer (some ⟨g.b,g.o,none⟩),.agg #[ab k,ab u,af s,ae a l c]] w λe w'=>e=.returned (.tuple #[.agg #[ab V.1,ab V.2],ab 0])/\Hid (l6 base g room ws nm M w w'):=by
 go_enter func73,ntmps73;go_wp2_with fail;generalize x:(w.alloc (Obj.cells #[ab k,ab u,af s,ae a l c] 31)).alloc (Obj.cells #[ab 0,ab 0] 109)=t;have q:Hid (aj w t/\w.heap.size+2<=t.heap.size/\lS w.heap.size k u s a l c t):=by
  subst x;exact⟨((ao _ _).alloc (am _) _).alloc (by simp) _,by simp,ue _ _ _ _ _ _ _⟩
 clear x;refine(z _ q.1).mono ?_;rintro e w1 ⟨rfl,d⟩;have m:=ap (fP q d);obtain⟨⟨t0,t1,t2,t3⟩,⟨h,i⟩,f0,f1⟩:=m.out.2.2.facts;clear d q;go_wp2_with fail;clear t0 t1 t2 t3 h i f0 f1;refine(C _ m.1).mono ?_;rintro e H ⟨rfl,d⟩;have n:=ap (fP m d);obtain⟨⟨t0,t1,t2,t3⟩,⟨h,i⟩,f0,f1⟩:=n.out.2.2.facts;clear d m;go_wp2_with fail;clear t0 t1 t2 t3 h i f0 f1;refine(D _ n.1).mono ?_;rintro e I ⟨rfl,d⟩;have p:=ap (fP n d);obtain⟨⟨t0,t1,t2,t3⟩,⟨h,i⟩,f0,f1⟩:=p.out.2.2.facts;clear d n;go_wp2_with fail;clear t0 t1 t2 t3 h i f0 f1;refine(B _ p.1).mono ?_;rintro e J ⟨rfl,d⟩;have f:=ap (fP p d);obtain⟨⟨t0,t1,t2,t3⟩,⟨h,i⟩,f0,f1⟩:=f.out.2.2.facts;clear d p;go_wp2_with fail;refine(E _ f.1).mono ?_;rintro e K ⟨rfl,r⟩;have j:=ve r;have d0:=(j (w.heap.size+1) (by omega) (by have:=f.2.1;omega) 0).1.trans h;have d1:=(j (w.heap.size+1) (by omega) (by have:=f.2.1;omega) 1).1.trans i;have F:=(j (w.heap.size+1) (by omega) (by have:=f.2.1;omega) 0).2.trans f0;have G:=(j (w.heap.size+1) (by omega) (by have:=f.2.1;omega) 1).2.trans f1;have A:=ap (Bg r f.1 f.2.1 (ab V.1) (ab V.2));clear j t0 t1 t2 t3 h i f0 f1 r;go_wp2_with fail;exact av (v:=.tuple #[.agg #[ab V.1,ab V.2],ab 0]) (by simp[results,results73,go_sem,d0,d1]) rfl ⟨rfl,A⟩
theorem vx:(n:Nat)->(x:Tm n)->aD ⟨n,x⟩->((ay n x).length:Int)<=sz n x+1
 | 0,_,_=>by simp[ay,sz]
 | n+1,x,h=>by
  have c:=eM (bD n x) (h (bD n x) (by simp[ay,bD]));by_cases a:x.1.1=4
  ·have key:∀l:List (Tm n),(∀y∈l,aD ⟨n,y⟩)->((l.flatMap λy=>ay n y).length:Int)<=(l.map λy=>1+sz n y).sum:=by
     intro l
     induction l with
     | nil=>intro _;simp
     | cons y l ih=>
      intro b;have g:=vx n y (b y (by simp));have i:=ih (λf e=>b f (by simp[e]));simp only[bF,bm,aN,bI];omega
   have k:=key x.2.2 (λy d=>aV n x y h d);simp only[ay,bi,sz,if_pos a];omega
  ·have:x.2.2=[]:=bE (c.2.2.2.2 a);simp[ay,this,sz,a]
theorem Ja{n:Nat}{x:Tm n}(a:bz n x=0):bZ n x=true:=by
 rw[<-gn]at a;unfold wS at a;cases hf:bZ n x
 ·simp[hf]at a
 ·rfl
def jN(n:Nat)(x:Tm n)(room:Int)(ws:List Wd):Int:=if bz n x≠0 then bz n x else if aL n x=false then 5 else if decide (sz n x<=room-ws.length)=false then 6 else 0
def IQ(n:Nat)(x:Tm n)(base:Nat)(a:cw)(room:Int)(ws:List Wd)(nm:List ByteArray)(M:Nat->Prop)(w:World)(e:Ending)(w':World):Prop:=
 (jN n x room ws≠0->e=.returned (.tuple #[IL (0,0),ab (jN n x room ws)])/\aj w w')/\
 (jN n x room ws=0->(bz n x=0/\aL n x=true/\sz n x<=room-ws.length)/\e=.returned (.tuple #[IL (aW n x ws nm).1,ab 0])/\l6 base a room (aW n x ws nm).2.1 (aW n x ws nm).2.2 M w w')
theorem uT(n:Nat)(x:Tm n)(base:Nat)(e:cw)(room:Int)(ws:List Wd)(nm:List ByteArray)(M:Nat->Prop)(w:World)(A:dH base e room ws nm M w)(m:In w.heap.size w n x)(G:ch (λb=>¬M b) n x)(B:(ay n x).length<=2097152)(S:base<=w.heap.size)(I:0<=room)(H:room<=1000)(V:ws.length<=1000)(T:nm.length<=50000):ak 73 #[.pointer (some ⟨e.b,e.o,none⟩),dq n x] w (IQ n x base e room ws nm M w):=by
 cases n with
 | zero=>exact m.elim
 | succ n=>
 have k:∀a,aj w a->ak 53 #[dq (n+1) x] a λd g=>d=.returned (ab (bz (n+1) x))/\aj a g:=λa f=>dL (n+1) x w.heap.size a (m.below f) f.size B;have l:∀a,aj w a->ak 54 #[dq (n+1) x] a λd g=>d=.returned (.bool (aL (n+1) x))/\aj a g:=λa f=>iN (n+1) x w.heap.size a (m.below f) f.size;have z:∀a,aj w a->ak 88 #[dq (n+1) x] a λd g=>d=.returned (ab (sz (n+1) x))/\aj a g:=λa f=>yn (n+1) x w.heap.size a (m.below f) f.size B;have q:∀a,aj w a->ak 111 #[.pointer (some ⟨e.b,e.o,none⟩),ab (sz (n+1) x)] a λd g=>d=.returned (.bool (decide (sz (n+1) x<=room-ws.length)))/\aj a g:=by
  intro a f;obtain⟨P,N,O,K,L,W,_⟩:=A.later f;obtain⟨v,y,rfl⟩:∃v y,P=ae v ws.length y:=by
   rcases L.2 with⟨d,E⟩|⟨R,c,Q,d,_⟩
   ·exact⟨none,0,by rw[d,E]⟩
   ·exact⟨_,c,d⟩
  exact Ba e room (sz (n+1) x) v ws.length y N O a (by omega) I H K
 by_cases i:bz (n+1) x=0
 ·rw[i]at k;by_cases u:aL (n+1) x=false
  ·rw[u]at l;have d:jN (n+1) x room ws=5:=by simp[jN,i,u]
   refine(On e x.1.1 x.1.2.1 x.1.2.2 x.2.1.1 x.2.2.length x.2.1.2 w k l).mono ?_;rintro s g ⟨rfl,h⟩;exact⟨λ_=>⟨by rw[d];rfl,h⟩,λj=>absurd (d.symm.trans j) (by decide)⟩
  ·have r:aL (n+1) x=true:=by simpa using u
   rw[r]at l;by_cases p:sz (n+1) x<=room-ws.length
   ·have t:decide (sz (n+1) x<=room-ws.length)=true:=by simpa using p
    rw[t]at q;have d:jN (n+1) x room ws=0:=by simp[jN,i,r,p]
    have C:aD ⟨n+1,x⟩:=aM.2 (Ja i);have U:=vx (n+1) x C;have D:∀a,aj w a->ak 112 #[.pointer (some ⟨e.b,e.o,none⟩),dq (n+1) x] a λd g=>d=.returned (IL (aW (n+1) x ws nm).1)/\Hid (l6 base e room (aW (n+1) x ws nm).2.1 (aW (n+1) x ws nm).2.2 (λb=>M b/\b<w.heap.size) a g):=by
     intro a f;have J:=f.size;exact Mr (n+1) x base e room ws nm _ a (A.later f) ((m.below f).mono J) (G.mono λb h F=>h F.1) (by omega) C (by omega) (by omega)
    refine(Oq e x.1.1 x.1.2.1 x.1.2.2 x.2.1.1 x.2.2.length x.2.1.2 w (sz (n+1) x) (aW (n+1) x ws nm).1 base room (aW (n+1) x ws nm).2.1 (aW (n+1) x ws nm).2.2 M k l z q D).mono ?_;rintro s g ⟨rfl,h⟩;exact⟨λj=>absurd d j,λ_=>⟨⟨i,r,p⟩,rfl,h⟩⟩
   ·have t:decide (sz (n+1) x<=room-ws.length)=false:=by simpa using p
    rw[t]at q;have d:jN (n+1) x room ws=6:=by simp[jN,i,r,p]
    refine(Oo e x.1.1 x.1.2.1 x.1.2.2 x.2.1.1 x.2.2.length x.2.1.2 w (sz (n+1) x) k l z q).mono ?_;rintro s g ⟨rfl,h⟩;exact⟨λ_=>⟨by rw[d];rfl,h⟩,λj=>absurd (d.symm.trans j) (by decide)⟩
 ·have d:jN (n+1) x room ws=bz (n+1) x:=by simp[jN,i]
  refine(Om e x.1.1 x.1.2.1 x.1.2.2 x.2.1.1 x.2.2.length x.2.1.2 w (bz (n+1) x) (by simpa using i) k).mono ?_;rintro s g ⟨rfl,h⟩;exact⟨λ_=>⟨by rw[d];rfl,h⟩,λj=>absurd (d.symm.trans j) i⟩
def p7(q:Nat)(k u:Int)(w:World):Prop:=w.heap[q]?=some (.cells #[ab k,ab u] 109)/\qN (q+1) w
theorem E7(w:World)(k u:Int):p7 w.heap.size k u ((w.alloc (Obj.cells #[ab k,ab u] 109)).alloc (Obj.cells #[ab 0,ab 0,af ⟨#[]⟩,ae none 0 0] 31)):=by
 refine⟨((cR (w.alloc (Obj.cells #[ab k,ab u] 109)) (Obj.cells #[ab 0,ab 0,af ⟨#[]⟩,ae none 0 0] 31) none).block _ (by simp) (by simp)).trans (aA w _),?_⟩;have:=aA (w.alloc (Obj.cells #[ab k,ab u] 109)) (Obj.cells #[ab 0,ab 0,af ⟨#[]⟩,ae none 0 0] 31);have es:∀o,(w.alloc o).heap.size=w.heap.size+1:=λo=>by simp
 rw[es]at this;exact this
theorem uP{k u:Int}{w w1 w2:World}(d:aj w w1/\w.heap.size+2<=w1.heap.size/\p7 w.heap.size k u w1)(a:aj w1 w2):aj w w2/\w.heap.size+2<=w2.heap.size/\p7 w.heap.size k u w2:=by
 obtain⟨b,e,c⟩:=d;have:=a.size;exact⟨b.trans (a.mono b.size),by omega,(a.block _ (by omega)).trans c.1,(a.block _ (by omega)).trans c.2⟩
theorem p7.cells{q:Nat}{k u:Int}{w:World}(a:p7 q k u w):w.cell? ⟨q,0,none⟩=some (ab k)/\w.cell? ⟨q,1,none⟩=some (ab u):=by
 obtain⟨b,_⟩:=a;refine⟨?_,?_⟩
 all_goals simp[World.cell?,b]
theorem Pr(c:cw)(k u:Int)(w:World)(i:Hid (∀w1,aj w w1->ak 113 #[.pointer (some ⟨c.b,c.o,none⟩),.agg #[ab k,ab u]] w1 λe w'=>e=.returned (.bool false)/\aj w1 w')):ak 99 #[.pointer (some ⟨c.b,c.o,none⟩),.agg #[ab k,ab u]] w λe w'=>e=.returned (.tuple #[.agg #[ab 0,ab 0,af .empty,ae none 0 0],ab 1])/\aj w w':=by
 go_enter func99,ntmps99;go_wp2_with fail;generalize g:(w.alloc (Obj.cells #[ab k,ab u] 109)).alloc (Obj.cells #[ab 0,ab 0,af ⟨#[]⟩,ae none 0 0] 31)=f;have a:Hid (aj w f/\w.heap.size+2<=f.heap.size/\p7 w.heap.size k u f):=by
  subst g;exact⟨((ao _ _).alloc (am _) _).alloc (by simp) _,by simp,E7 _ _ _⟩
 clear g;refine(i _ a.1).mono ?_;rintro e w1 ⟨rfl,d⟩;have h:=ap (uP a d);obtain⟨⟨l,m,n,p⟩,f0⟩:=h.2.2.2.cells;have j:=ap (λq r s t=>yJ a.1 d q r s t);clear d a;go_wp2_with fail;exact av (v:=.tuple #[.agg #[ab 0,ab 0,af .empty,ae none 0 0],ab 1]) (by simp[results,results99,go_sem,l,m,n,p];rfl) rfl ⟨rfl,j _ _ _ _⟩
theorem Ob(n:Nat)(x:Tm (n+1))(c:cw)(k u:Int)(w:World)(A:Hid (∀w1,aj w w1->ak 113 #[.pointer (some ⟨c.b,c.o,none⟩),.agg #[ab k,ab u]] w1 λe w'=>e=.returned (.bool true)/\aj w1 w'))(C:Hid (∀w1,aj w w1->ak 140 #[.pointer (some ⟨c.b,c.o,none⟩),.agg #[ab k,ab u]] w1 λe w'=>∃y:Tm (n+1),e=.returned (dq (n+1) y)/\Hid (aj w1 w'/\In w'.heap.size w' (n+1) y/\ch (λq=>w1.heap.size<=q) (n+1) y/\ax (n+1) y (n+1) x=true))):ak 99 #[.pointer (some ⟨c.b,c.o,none⟩),.agg #[ab k,ab u]] w λe w'=>∃y:Tm (n+1),e=.returned (.tuple #[dq (n+1) y,ab 0])/\Hid (aj w w'/\In w'.heap.size w' (n+1) y/\ch (λq=>w.heap.size<=q) (n+1) y/\ax (n+1) y (n+1) x=true):=by
 go_enter func99,ntmps99;go_wp2_with fail;generalize s:(w.alloc (Obj.cells #[ab k,ab u] 109)).alloc (Obj.cells #[ab 0,ab 0,af ⟨#[]⟩,ae none 0 0] 31)=l;have i:Hid (aj w l/\w.heap.size+2<=l.heap.size/\p7 w.heap.size k u l):=by
  subst s;exact⟨((ao _ _).alloc (am _) _).alloc (by simp) _,by simp,E7 _ _ _⟩
 clear s;refine(A _ i.1).mono ?_;rintro e w1 ⟨rfl,r⟩;have a:=ap (uP i r);obtain⟨t0,t1⟩:=a.out.2.2.cells;clear r i;go_wp2_with fail;refine(C _ a.1).mono ?_;rintro e m ⟨y,rfl,j⟩;have z:=ap (uP a j.1);obtain⟨⟨H,I,J,K⟩,f0⟩:=z.2.2.2.cells;have B:Hid (∀d f g h,aj w (dd m (w.heap.size+1) 0 d f g h)/\In (dd m (w.heap.size+1) 0 d f g h).heap.size (dd m (w.heap.size+1) 0 d f g h) (n+1) y/\ch (λq=>w.heap.size<=q) (n+1) y/\ax (n+1) y (n+1) x=true):=by
  intro d f g h;obtain⟨E,F,t,G⟩:=j.out;have L:=a.2.1;refine⟨yJ a.1 E d f g h,?_,t.mono λq D=>by omega,G⟩;rw[br];exact In.off (λq D=>aX (by omega) _ _ _ _) t F
 have p:dq (n+1) y=.agg #[ab y.1.1,ab y.1.2.1,af y.1.2.2,ae y.2.1.1 y.2.2.length y.2.1.2]:=rfl;rw[p];clear t0 t1 j a p;go_wp2_with fail;exact av (v:=.tuple #[dq (n+1) y,ab 0]) (by simp[results,results99,go_sem,H,I,J,K,dq]) rfl ⟨y,rfl,B _ _ _ _⟩
theorem DV{c:Type}{l b:List c}(d:l <+:b){i:Nat}{x:c}(a:l[i]?=some x):b[i]?=some x:=by
 obtain⟨e,rfl⟩:=d;rw[dr (aS.1 a).1];exact a
theorem dI.mono{ws l:List Wd}{nm k:List ByteArray}(d:ws <+:l)(j:nm <+:k):{n:Nat}->{x:Tm n}->{v:Wd}->dI ws nm n x v->dI l k n x v
 | 0,_,_,h=>h
 | n+1,x,v,h=>by
  obtain⟨a,b,c⟩:=h;refine⟨λe=>?_,λe=>?_,c⟩
  ·obtain⟨i,f,g⟩:=a e;exact⟨i,f,DV j g⟩
  ·obtain⟨p,f,g,m,o⟩:=b e;refine⟨p,f,DV d g,az m d.length_le,λi y s=>?_⟩;obtain⟨u,q,r⟩:=o i y s;exact⟨u,DV d q,r.mono d j⟩
theorem GU(nm:List ByteArray)(s:ByteArray):nm <+:eO nm s:=by
 unfold eO;split
 ·exact gB _
 ·exact pu _ _
theorem rv{n:Nat}(f:∀(x:Tm n)(ws:List Wd)(nm:List ByteArray),ws <+:(aW n x ws nm).2.1/\nm <+:(aW n x ws nm).2.2)(l:List (Tm n))(ws:List Wd)(nm:List ByteArray):ws <+:(bL (aW n) l ws nm).2.1/\nm <+:(bL (aW n) l ws nm).2.2:=by
 induction l generalizing ws nm with
 | nil=>exact⟨gB _,gB _⟩
 | cons a l ih=>
  obtain⟨d,b⟩:=f a ws nm;obtain⟨c,e⟩:=ih (aW n a ws nm).2.1 (aW n a ws nm).2.2;exact⟨d.trans c,b.trans e⟩
theorem mu:(n:Nat)->(x:Tm n)->(ws:List Wd)->(nm:List ByteArray)->ws <+:(aW n x ws nm).2.1/\nm <+:(aW n x ws nm).2.2
 | 0,_,_,_=>⟨gB _,gB _⟩
 | n+1,x,ws,nm=>by
  by_cases c:x.1.1=2
  ·simp only[aW,if_pos c];exact⟨gB _,GU _ _⟩
  ·by_cases d:x.1.1=4
   ·simp only[aW,if_neg c,if_pos d];obtain⟨a,b⟩:=rv (mu n) x.2.2 ws nm;exact⟨a.trans (pu _ _),b⟩
   ·simp only[aW,if_neg c,if_neg d];exact⟨gB _,gB _⟩
theorem Ke(nm:List ByteArray)(s:ByteArray):(eO nm s)[lp (eO nm s) s]?=some s:=by
 have d:s∈eO nm s:=by
  unfold eO;split
  ·rename_i b;exact(zt nm s).1 b
  ·simp
 have a:lp (eO nm s) s<(eO nm s).length:=by
  unfold lp;rw[List.findIdx_lt_length];exact⟨s,d,(oN s s).2 rfl⟩
 have c:(eO nm s)[lp (eO nm s) s]'a=s:=(oN s _).1 (List.findIdx_getElem (w:=a));rw[aI a,c]
theorem ol{n:Nat}(h:∀(x:Tm n)(ws:List Wd)(nm:List ByteArray),aD ⟨n,x⟩->dI (aW n x ws nm).2.1 (aW n x ws nm).2.2 n x (aW n x ws nm).1)(l:List (Tm n))(ws:List Wd)(nm:List ByteArray)(d:∀y∈l,aD ⟨n,y⟩):∀(i:Nat)(y:Tm n),l[i]?=some y->∃u,(bL (aW n) l ws nm).1[i]?=some u/\dI (bL (aW n) l ws nm).2.1 (bL (aW n) l ws nm).2.2 n y u:=by
 induction l generalizing ws nm with
 | nil=>intro i y a;simp at a
 | cons c l ih=>
  intro i y a;cases i with
  | zero=>
   simp at a;subst a;obtain⟨e,b⟩:=rv (mu n) l (aW n c ws nm).2.1 (aW n c ws nm).2.2;exact⟨(aW n c ws nm).1,rfl,(h c ws nm (d c (by simp))).mono e b⟩
  | succ i=>
   obtain⟨u,f,g⟩:=ih (aW n c ws nm).2.1 (aW n c ws nm).2.2 (λy a=>d y (by simp[a])) i y (by simpa using a);exact⟨u,by simpa [bL]using f,g⟩
theorem gN:(n:Nat)->(x:Tm n)->(ws:List Wd)->(nm:List ByteArray)->aD ⟨n,x⟩->dI (aW n x ws nm).2.1 (aW n x ws nm).2.2 n x (aW n x ws nm).1
 | 0,_,_,_,h=>(dj h).elim
 | n+1,x,ws,nm,h=>by
  by_cases b:x.1.1=2
  ·have c:¬x.1.1=4:=by omega
   simp only[aW,if_pos b];exact⟨λ_=>⟨_,rfl,Ke _ _⟩,λa=>absurd a c,λa=>absurd b a⟩
  ·by_cases c:x.1.1=4
   ·simp only[aW,if_neg b,if_pos c];have j:=gO (aW n) x.2.2 ws nm;refine⟨λa=>absurd a b,λ_=>⟨_,rfl,?_,?_,λe f d=>?_⟩,λ_ a=>absurd c a⟩
    ·rw[ed (am _),gX];rfl
    ·simp only[bm,bi,j];omega
    ·obtain⟨k,g,i⟩:=ol (gN n) x.2.2 ws nm (λf d=>aV n x f h d) e f d;refine⟨k,?_,i.mono (pu _ _) (gB _)⟩;rw[ed (by omega)];have:(bL (aW n) x.2.2 ws nm).2.1.length+1+e-(bL (aW n) x.2.2 ws nm).2.1.length=e+1:=by omega
     rw[this];simpa using g
   ·simp only[aW,if_neg b,if_neg c];exact⟨λa=>absurd a b,λa=>absurd a c,λ_ _=>rfl⟩
def Ap(q:Nat)(w:World):Prop:=w.heap[q]?=some (.cells #[ab 0,ab 0] 109)
theorem Ap.facts{q:Nat}{w:World}(a:Ap q w):(w.cell? ⟨q,0,none⟩=some (ab 0)/\w.cell? ⟨q,1,none⟩=some (ab 0))/\w.frozen? ⟨q,0,none⟩=false/\w.frozen? ⟨q,1,none⟩=false:=by
 unfold Ap at a;refine⟨⟨?_,?_⟩,?_,?_⟩
 all_goals simp[World.cell?,World.frozen?,a]
theorem Cj{ws:List Wd}{nm:List ByteArray}{n:Nat}{x:Tm n}{v:Wd}(h:dI ws nm n x v)(r:aD ⟨n,x⟩)(g:aL n x=true)(t:ws.length<=100000)(s:nm.length<=100000):cN ws nm v=true/\dx v.2:=by
 cases n with
 | zero=>exact h.elim
 | succ n=>
 have d:=r (bD n x) (by simp[ay,bD]);have i:=kv (bD n x) d;simp only[bD]at i;simp only[aL,aG,kG,iC]at g;obtain⟨m,b,c⟩:=h;by_cases e:x.1.1=2
 ·obtain⟨k,rfl,p⟩:=m e;have j:=(aS.1 p).1;refine⟨?_,?_⟩
  ·simp[cN,uS,j]
  ·unfold dx;show (-9223372036854775808:Int)<=(k:Int)/\(k:Int)<=9223372036854775807;omega
 ·by_cases f:x.1.1=4
  ·obtain⟨l,rfl,q,j,_⟩:=b f;refine⟨?_,?_⟩
   ·simp[cN,fV,q]
   ·unfold dx;show (-9223372036854775808:Int)<=(l:Int)/\(l:Int)<=9223372036854775807;omega
  ·obtain rfl:=c e f;refine⟨?_,(uQ _ d).2⟩;have o:x.1.1=1\/x.1.1=3:=by
    rcases i with a|a|a|a|a|a
    ·exact ah a
    ·exact absurd a e
    ·exact ai a
    ·exact absurd a f
    ·exact absurd a g.1.1
    ·exact absurd a.1 g.1.2
   unfold cE at d;simp only[bD]at d;rcases o with a|a
   ·simp[cN,a]at d ⊢;exact d.1.2
   ·simp[cN,a]at d ⊢;exact d.1.2
theorem JJ(n:Nat)(x:Tm n)(v:Wd)(base:Nat)(a:cw)(room:Int)(ws:List Wd)(nm:List ByteArray)(M:Nat->Prop)(w:World)(h:dH base a room ws nm M w)(d:dI ws nm n x v)(j:aD ⟨n,x⟩)(m:aL n x=true)(f:ws.length<=100000)(i:nm.length<=100000):ak 99 #[.pointer (some ⟨a.b,a.o,none⟩),IL v] w λe w'=>∃y:Tm n,e=.returned (.tuple #[dq n y,ab 0])/\Hid (aj w w'/\In w'.heap.size w' n y/\ch (λq=>w.heap.size<=q) n y/\ax n y n x=true):=by
 cases n with
 | zero=>exact d.elim
 | succ n=>
 obtain⟨l,p⟩:=Cj d j m f i;refine Ob n x a v.1 v.2 w ?_ ?_
 ·intro g c;have k:=vR base a room ws nm _ v g (h.later c) f p;rw[l]at k;exact k
 ·exact λg c=>KV (n+1) x v base a room ws nm _ g (h.later c) f i d j
abbrev cY:=List (Nat×Nat)
def look(g:cY)(p:Nat):Option Nat:=(g.find? λe=>e.1==p).map λe=>e.2
theorem sB(g:cY)(p q:Nat):look ((p,q)::g) p=some q:=by simp[look]
theorem qr(g:cY){p r:Nat}(q:Nat)(a:r≠p):look ((p,q)::g) r=look g r:=by
 have:(p==r)=false:=by simp;omega
 simp[look,this]
def gM(f:Wd->List Wd×cY->Wd×List Wd×cY):List Wd->List Wd×cY->List Wd×List Wd×cY
 | [],S=>([],S)
 | v::l,S=>((f v S).1::(gM f l (f v S).2).1,(gM f l (f v S).2).2)
def jL(ws:List Wd):Nat->Wd->List Wd×cY->Wd×List Wd×cY
 | 0,v,S=>(v,S)
 | n+1,v,S=>
  if v.1=4 then
   match look S.2 v.2.toNat with
   | some q=>((4,(q:Int)),S)
   | none=>
    match ws[v.2.toNat]? with
    | some a=>((4,((gM (jL ws n) ((ws.drop (v.2.toNat+1)).take a.2.toNat) S).2.1.length:Int)),(gM (jL ws n) ((ws.drop (v.2.toNat+1)).take a.2.toNat) S).2.1++(0,a.2)::(gM (jL ws n) ((ws.drop (v.2.toNat+1)).take a.2.toNat) S).1,(v.2.toNat,(gM (jL ws n) ((ws.drop (v.2.toNat+1)).take a.2.toNat) S).2.1.length)::(gM (jL ws n) ((ws.drop (v.2.toNat+1)).take a.2.toNat) S).2.2)
    | none=>(v,S)
  else (v,S)
theorem Jh(f:Wd->List Wd×cY->Wd×List Wd×cY)(l:List Wd)(v:Wd)(S:List Wd×cY):gM f (l++ [v]) S=((gM f l S).1++ [(f v (gM f l S).2).1],(f v (gM f l S).2).2):=by
 induction l generalizing S with
 | nil=>simp[gM]
 | cons a l ih=>simp[gM,ih]
theorem qi(f:Wd->List Wd×cY->Wd×List Wd×cY)(l:List Wd)(S:List Wd×cY):(gM f l S).1.length=l.length:=by
 induction l generalizing S with
 | nil=>simp[gM]
 | cons a l ih=>simp[gM,ih]
def ur(D:DataW Unit)(g:cY):Prop:=∀p:Nat,(Maps.has D (.int .i64 p)=true ↔ (look g p).isSome=true)/\∀q:Nat,look g p=some q->D.atKey (.int .i64 p) (.lit (.int .i64 0))=.lit (.int .i64 q)
theorem Li:ur (.map []) []:=λp=>⟨by simp[Maps.has,look],λq a=>by simp[look]at a⟩
theorem Fj(k:Int):WideAt.IsKeyLit (.int .i64 k):=by first|trivial|simp[WideAt.IsKeyLit]|decide
theorem Lj{w:World}{j L:Nat}{D:DataW Unit}{g:cY}(f:w.ownsMap Tryz.prog 3 (plainElem Tryz.prog 3) j L D)(e:ur D g)(p q:Nat):ur (D.put (.int .i64 p) (.lit (.int .i64 q))) ((p,q)::g):=by
 intro c;by_cases b:c=p
 ·subst b;refine⟨?_,λi a=>?_⟩
  ·rw[has_put_same f.isMap (Fj _),sB];simp
  ·rw[sB]at a;rw[atKey_put_same f.isMap (Fj _),aw a]
 ·have h:(Lit.int .i64 (c:Int))≠(Lit.int .i64 (p:Int)):=λd=>b (by injection d with _ d;omega);refine⟨?_,λi a=>?_⟩
  ·rw[has_put_other h,qr g q b];exact(e c).1
  ·rw[qr g q b]at a;rw[atKey_put_other h];exact(e c).2 i a
theorem Dr:Keyed Tryz.prog 3:=int_keyed underlying3
def CB(a:Nat)(b tv mv:Value)(w:World):Prop:=w.heap[a]?=some (.cells #[b,tv,mv] 206)
theorem CB.lt{a:Nat}{b tv mv:Value}{w:World}(c:CB a b tv mv w):a<w.heap.size:=(aF.1 c).1
theorem CB.cells{a:Nat}{b tv mv:Value}{w:World}(c:CB a b tv mv w):(w.cell? ⟨a,0,none⟩=some b/\w.cell? ⟨a,1,none⟩=some tv/\w.cell? ⟨a,2,none⟩=some mv)/\∀j,w.frozen? ⟨a,j,none⟩=false:=by
 unfold CB at c;refine⟨⟨?_,?_,?_⟩,λj=>?_⟩
 all_goals simp[World.cell?,World.frozen?,c]
theorem CB.set1{a:Nat}{b tv mv:Value}{w:World}(c:CB a b tv mv w)(v:Value):CB a b v mv (w.setCell ⟨a,1,none⟩ v):=by
 unfold CB at*;simp[World.setCell,bJ,c]
theorem CB.kept{a:Nat}{b tv mv:Value}{w w':World}(c:CB a b tv mv w)(k:w'.heap[a]?=w.heap[a]?):CB a b tv mv w':=k.trans c
def iF(base e:Nat)(f:Value)(S:List Wd×cY)(M:Nat->Prop)(w:World):Prop:=
 ∃c a d,CB e f c (.map (some a)) w/\w.ownsRow base 109 2 c S.1.length (aY S.1)/\w.ownsMap Tryz.prog 3 (plainElem Tryz.prog 3) a S.2.length d/\ur d S.2/\M e/\(∀b,c.ownBlock=some b->M b)/\M a
theorem iF.kept{base a:Nat}{g:Value}{S:List Wd×cY}{M T:Nat->Prop}{w w':World}(q:iF base a g S M w)(k:bT T w w')(d:∀b,M b->b<w.heap.size->¬T b):iF base a g S M w':=by
 obtain⟨u,e,o,c,h,i,r,j,l,m⟩:=q;refine⟨u,e,o,c.kept (k.block a c.lt (d a j c.lt)),dW h k λb f=>d b (l b f) (h.lt b f).2,?_,r,j,l,m⟩;have n:=i.lt;obtain⟨es,p,s,t⟩:=i;exact⟨es,p,(k.block e n (d e m n)).trans s,t⟩
theorem iF.inside{base a:Nat}{d:Value}{S:List Wd×cY}{M:Nat->Prop}{w:World}(i:iF base a d S M w):iF base a d S (λb=>M b/\b<w.heap.size) w:=by
 obtain⟨o,n,h,e,f,g,j,k,l,m⟩:=i;exact⟨o,n,h,e,f,g,j,⟨k,e.lt⟩,λb c=>⟨l b c,(f.lt b c).2⟩,m,g.lt⟩
theorem iF.later{base c:Nat}{d:Value}{S:List Wd×cY}{M:Nat->Prop}{w wA:World}(a:iF base c d S M w)(e:Below w.heap.size w wA):iF base c d S (λb=>M b/\b<w.heap.size) wA:=
 a.inside.kept (aZ e (λ_=>False)) λ_ _ _ a=>a
theorem iF.mono{base a:Nat}{c:Value}{S:List Wd×cY}{M T:Nat->Prop}{w:World}(f:iF base a c S M w)(k:∀b,M b->T b):iF base a c S T w:=by
 obtain⟨p,o,d,g,h,i,j,l,m,n⟩:=f;exact⟨p,o,d,g,h,i,j,k _ l,λb e=>k b (m b e),k _ n⟩
theorem Ki(a:Nat)(k u:Int)(w:World)(b:¬k=4):Calls Tryz.prog 151 #[.pointer (some ⟨a,0,none⟩),.agg #[.int .i64 k,.int .i64 u]] w λe w'=>e=.returned (.agg #[.int .i64 k,.int .i64 u])/\Below w.heap.size w w':=by
 have c:(k !=4)=true:=by simpa using b
 go_enter func151,ntmps151;go_wp2_with fail;exact av (v:=.agg #[.int .i64 k,.int .i64 u]) (by simp[results,results151,go_sem]) rfl ⟨rfl,by go_grown⟩
theorem Na{D:DataW Unit}{g:cY}(b:ur D g){p q:Nat}{c:Int}(d:look g p=some q)(a:D.atKey (.int .i64 p) (.lit (.int .i64 0))=.lit (.int .i64 c)):c=q:=by
 have:=(b p).2 q d;rw[this]at a;simp at a;exact a.symm
theorem MC(base g:Nat)(x:Value)(S:List Wd×cY)(M:Nat->Prop)(p q:Nat)(w:World)(a:Hid (iF base g x S M w))(r:Hid (look S.2 p=some q))(N:p<=100000):Calls Tryz.prog 151 #[.pointer (some ⟨g,0,none⟩),.agg #[.int .i64 4,.int .i64 p]] w λe w'=>e=.returned (.agg #[.int .i64 4,.int .i64 q])/\Below w.heap.size w w':=by
 go_enter func151,ntmps151;go_wp2_with fail;generalize h:(w.alloc (Obj.cells #[Value.int IntKind.i64 4,Value.int IntKind.i64 p] 109)).alloc (Obj.cells #[.int .i64 0,.int .i64 0] 109)=wA;have j:Hid (Below w.heap.size w wA.drew/\wA.drew.heap.size=w.heap.size+2):=by
  subst h;exact⟨(((ao _ _).alloc (am _) _).alloc (by simp) _).drew,by simp[World.drew]⟩
 have K:wA.cell? ⟨w.heap.size,1,none⟩=some (.int .i64 p):=by subst h;simp[go_sem]
 have l:Hid (Ap (w.heap.size+1) wA.drew):=by
  subst h;have:=aA (w.alloc (Obj.cells #[Value.int IntKind.i64 4,Value.int IntKind.i64 p] 109)) (Obj.cells #[.int .i64 0,.int .i64 0] 109);have es:∀o,(w.alloc o).heap.size=w.heap.size+1:=λo=>by simp
  rw[es]at this;exact this
 obtain⟨d,J,D⟩:∃d,wA.cell? ⟨g,2,none⟩=some (.map (some d))/\(Instr.lookup 204 (.map (some d)) (.int .i64 p) true).run Tryz.prog wA.drew=.ok (.tuple #[.int .i64 q,.bool true]) wA.drew:=by
  obtain⟨O,d,t,y,L,z,m,_⟩:=a.out.later j.1;obtain⟨v,ps,s,E⟩:=z.look_ok Dr underlying204 (rY _) (plainElem_int underlying3 (iA (by omega))) (keyOf_int_mk underlying3 (iA (n:=(p:Int)) (by omega)));obtain⟨c,rfl,B,_⟩:=plainElem_int_inv underlying3 E;have e:=Na m r (congrArg Prod.fst B);have C:Maps.has t (.int .i64 p)=true:=(m p).1.2 (by rw[r.out];rfl);rw[C,e]at s;exact⟨d,y.cells.1.2.2,s⟩
 clear h a;go_region_held3 (λw'=>w'.cell? ⟨w.heap.size,1,none⟩=some (.int .i64 p)/\w'.cell? ⟨g,2,none⟩=some (.map (some d))) (go_keep) (fail);obtain⟨⟨H,I⟩,f0,f1⟩:=l.out.facts;have u:Hid (∀i k,Below w.heap.size w ((wA.drew.setCell ⟨w.heap.size+1,0,none⟩ i).setCell ⟨w.heap.size+1,1,none⟩ k)):=by
  intro i k;have F:=bq wA.drew (w.heap.size+1) 0 i;have G:=bq (wA.drew.setCell ⟨w.heap.size+1,0,none⟩ i) (w.heap.size+1) 1 k;have f:=(aZ j.1 (λb=>b=w.heap.size+1)).trans (F.trans G (λb _ a=>a)) (λb _ a=>a);exact⟨f.os,f.tape,f.output,f.size,λb A=>f.block b A (by omega)⟩
 clear D l j;generalize wA.drew=P at*;go_wp2_with fail;exact av (v:=.agg #[.int .i64 4,.int .i64 q]) (by simp[results,results151,go_sem,H,I]) rfl ⟨rfl,u _ _⟩
def wW(base a:Nat)(c:Value)(S:List Wd×cY)(M:Nat->Prop)(w w':World):Prop:=iF base a c S (λb=>M b\/w.heap.size<=b) w'/\bT M w w'
def yv(f:Wd->List Wd×cY->Wd×List Wd×cY)(vs:List Wd)(len base c:Nat)(d:Value)(S:List Wd×cY)(M:Nat->Prop)(g:Nat)(w a:World)(k:Nat)(wr:World):Prop:=
 wr.ownsRow g 109 2 (ae (some ⟨g,0,none⟩) len len) len (aY ((gM f (vs.take k) S).1++List.replicate (len-k) (0,0)))/\
 iF base c d (gM f (vs.take k) S).2 (λb=>(M b/\b<w.heap.size)\/a.heap.size<=b) wr/\
 bT (λb=>(M b/\b<w.heap.size)\/b=g) a wr
theorem IY{f:Wd->List Wd×cY->Wd×List Wd×cY}{vs:List Wd}{len base g:Nat}{h:Value}{S:List Wd×cY}{M:Nat->Prop}{w w0:World}(d:iF base g h S M w)(e:w0.ownsRow w.heap.size 109 2 (ae (some ⟨w.heap.size,0,none⟩) len len) len (madeCells (Value.agg #[ab 0,ab 0]).cells (len*2)).toList)(a:w.grownBy w0 none):yv f vs len base g h S M w.heap.size w w0 0 w0/\aj w w0/\w.heap.size<w0.heap.size:=by
 have c:aj w w0:=⟨a.os,a.tape,a.output,a.size,λb c=>a.block b c (by simp)⟩;refine⟨⟨?_,?_,bT.refl _ _⟩,c,(e.lt _ rfl).2⟩
 ·simp only[mW,gM,jJ,Nat.sub_zero];have i:=vo len;have j:(Value.agg #[ab 0,ab 0]).cells= #[ab 0,ab 0]:=rfl;rw[j,i]at e;exact e
 ·simp only[mW,gM];exact(d.later c).mono λb d=>ah d
theorem yv.step{f:Wd->List Wd×cY->Wd×List Wd×cY}{vs:List Wd}{len base i:Nat}{l:Value}{S:List Wd×cY}{M:Nat->Prop}{g:Nat}{w d:World}{k:Nat}{wr w1 w2:World}(H:yv f vs len base i l S M g w d k wr)(G:w.heap.size<=g)(I:g<d.heap.size)(K:k<len)(L:vs.length=len){v:Wd}(A:vs[k]?=some v)(m:aj wr w1)(z:wW base i l (f v (gM f (vs.take k) S).2).2 (λb=>((M b/\b<w.heap.size)\/d.heap.size<=b)/\b<wr.heap.size) w1 w2):yv f vs len base i l S M g w d (k+1) ((w2.setCell ⟨g,k*2,none⟩ (ab (f v (gM f (vs.take k) S).2).1.1)).setCell ⟨g,k*2+1,none⟩ (ab (f v (gM f (vs.take k) S).2).1.2))/\ (w2.cell? ⟨g,k*2,none⟩=some (ab 0)/\w2.cell? ⟨g,k*2+1,none⟩=some (ab 0))/\w2.frozen? ⟨g,k*2,none⟩=false/\w2.frozen? ⟨g,k*2+1,none⟩=false:=by
 obtain⟨o,E,p⟩:=H;obtain⟨u,q⟩:=z;have J:g<wr.heap.size:=(o.lt g rfl).2;have N:=m.size;have O:=p.size;have r:gM f (vs.take (k+1)) S=((gM f (vs.take k) S).1++ [(f v (gM f (vs.take k) S).2).1],(f v (gM f (vs.take k) S).2).2):=by
  rw[du,A];exact Jh _ _ _ _
 have s:(gM f (vs.take k) S).1.length=k:=by rw[qi,dG];omega
 have h:w2.ownsRow g 109 2 (ae (some ⟨g,0,none⟩) len len) len (aY ((gM f (vs.take k) S).1++List.replicate (len-k) (0,0))):=by
  refine dW (dT o m) q λb j=>?_;simp only[Value.ownBlock]at j;obtain rfl:=aw j;omega
 generalize gM f (vs.take k) S=e at*;generalize f v e.2=c at*;have B:(e.1++List.replicate (len-k) (0,0))[k]?=some ((0,0):Wd):=by
  rw[ed (by omega),s,gX,List.getElem?_replicate];simp;omega
 have C:=bq w2 g (k*2) (ab c.1.1);have D:=bq (w2.setCell ⟨g,k*2,none⟩ (ab c.1.1)) g (k*2+1) (ab c.1.2);have t:=C.trans D (λb _ a=>a);refine⟨⟨?_,?_,?_⟩,jf h k (0,0) B,oW h _,oW h _⟩
 ·rw[r];have n:=jr (jr h (k*2) (ab c.1.1)) (k*2+1) (ab c.1.2);rw[qI _ k c.1 (by simp;omega)]at n;have es:(e.1++List.replicate (len-k) ((0,0):Wd)).set k c.1=(e.1++ [c.1])++List.replicate (len-(k+1)) (0,0):=by
   rw[iz _ _ (by omega)];have:len-k=(len-(k+1))+1:=by omega
   rw[this,List.replicate_succ];simp[s]
  rw[es]at n;exact n
 ·rw[r];refine(u.kept t ?_).mono ?_
  ·rintro b (⟨a,_⟩|a) _ j<;>omega
  ·rintro b (⟨a,_⟩|a)
   ·exact a
   ·exact ai (by omega)
 ·have x:bT (λb=>(M b/\b<w.heap.size)\/b=g) d w1:=p.trans (aZ m (λ_=>False)) (λ_ _ a=>a.elim)
  have y:bT (λb=>(M b/\b<w.heap.size)\/b=g) d w2:=x.trans q (λb F a=>by
   rcases a.1 with a|a
   ·exact ah a
   ·omega)
  exact y.trans t (λb _ a=>ai a)
def CP(f:Wd->List Wd×cY->Wd×List Wd×cY)(vs:List Wd)(base c:Nat)(d:Value)(S:List Wd×cY)(M:Nat->Prop)(g:Nat)(w w':World):Prop:=
 ∃a,iF base c d (gM f vs S).2 a w'/\bT M w w'/\(∀b,a b->M b\/w.heap.size<=b)/\¬a g/\w.heap.size<=g/\w'.ownsRow g 109 2 (ae (some ⟨g,0,none⟩) vs.length vs.length) vs.length (aY (gM f vs S).1)
theorem yv.done{f:Wd->List Wd×cY->Wd×List Wd×cY}{vs:List Wd}{len base h:Nat}{i:Value}{S:List Wd×cY}{M:Nat->Prop}{g:Nat}{w d wr:World}(H:yv f vs len base h i S M g w d len wr)(m:vs.length=len)(l:w.heap.size<=g)(o:g<d.heap.size)(j:aj w d):CP f vs base h i S M g w wr:=by
 obtain⟨c,e,k⟩:=H;rw[bA (by omega)]at c e;rw[gX,mV,eF]at c;subst m;refine⟨_,e,(aZ j M).trans k ?_,?_,?_,l,c⟩
 ·rintro b n (a|a)
  ·exact a.1
  ·omega
 ·rintro b (a|a)
  ·exact ah a.1
  ·exact ai (by have:=j.size;omega)
 ·rintro (a|a)<;>omega
theorem yU(f:Wd->List Wd×cY->Wd×List Wd×cY)(vs:List Wd)(base d:Nat)(i:Value)(S:List Wd×cY)(M:Nat->Prop)(a:Option Addr)(len pc:Nat)(w:World)(s:Hid (vs.length=len))(X:len<=100000)(c:Hid (iF base d i S M w))(D:Hid (eR w vs a))(H:Hid (∀b o,a=some ⟨b,o,none⟩->¬M b))(ih:Hid (∀(k:Nat)(v:Wd),vs[k]?=some v->∀(M':Nat->Prop)(w1:World),iF base d i (gM f (vs.take k) S).2 M' w1->bT M w w1->(∀b,M' b->M b\/w.heap.size<=b)-> ak 151 #[aC d,.agg #[ab v.1,ab v.2]] w1 λe w2=>e=.returned (.agg #[ab (f v (gM f (vs.take k) S).2).1.1,ab (f v (gM f (vs.take k) S).2).1.2])/\Hid (wW base d i (f v (gM f (vs.take k) S).2).2 M' w1 w2))):ak 114 #[aC d,ae a len pc] w λe w'=>∃g,e=.returned (ae (some ⟨g,0,none⟩) len len)/\Hid (CP f vs base d i S M g w w'):=by
 obtain⟨Q,E,J,K,L⟩:=bR lg;go_enter func114,ntmps114;go_wp2_with (at_make;refine kS _ rfl _ _ 100 rfl w.heap.size 109 Q _ 2 underlying100 E J K _ _ _ _ len rfl rfl rfl rfl (by rw[L];omega) (by unfold maxLen;omega) (am _) ?_;intro p I C;have m:=ap (IY (f:=f) (vs:=vs) c I C);clear I C);clear E J K L;have y:Hid (yv f vs len base d i S M w.heap.size w p 0 p):=m.1;have B:w.heap.size<p.heap.size:=m.2.2;go_loopw [13] (λj wr=>∃k:Nat,k<=len/\j=ab k/\Hid (yv f vs len base d i S M w.heap.size w p k wr)) (λj _=>len-(intOf j).toNat)
 case atStart=>exact⟨0,by omega,rfl,y⟩
 case round=>
  clear y;obtain⟨k,U,rfl,h⟩:=hrel;by_cases G:k<len
  ·obtain⟨v,l⟩:∃v,vs[k]?=some v:=⟨vs[k]'(by rw[s.out];exact G),aI _⟩;obtain⟨b,o,rfl,A,N⟩:∃b o,a=some ⟨b,o,none⟩/\b<w.heap.size/\∀(j:Nat)(v:Wd),vs[j]?=some v->w.cell? ⟨b,o+j*2,none⟩=some (ab v.1)/\w.cell? ⟨b,o+j*2+1,none⟩=some (ab v.2):=by
    rcases D.out with e|e
    ·rw[e]at l;simp at l
    ·exact e
   obtain⟨t,u⟩:=N k v l;have r:wr.heap[b]?=w.heap[b]? :=(h.2.2.block b (by omega) (by rintro (c|c);exact H b o rfl c.1;omega)).trans (m.2.1.block b A);replace t:=(bw r (o+k*2)).trans t;replace u:=(bw r (o+k*2+1)).trans u;have T:w.heap.size<wr.heap.size:=(h.1.lt _ rfl).2;have Y:=h.2.2.size;have F:bT M w wr:=(aZ m.2.1 M).trans h.2.2 (by rintro b A (c|c);exact c.1;omega)
   obtain⟨n,x⟩:∃n:Wd,Hid (∀w1,aj wr w1->ak 151 #[aC d,.agg #[ab v.1,ab v.2]] w1 λe w2=>e=.returned (.agg #[ab n.1,ab n.2])/\
       Hid (yv f vs len base d i S M w.heap.size w p (k+1) ((w2.setCell ⟨w.heap.size,k*2,none⟩ (ab n.1)).setCell ⟨w.heap.size,k*2+1,none⟩ (ab n.2))/\
        (w2.cell? ⟨w.heap.size,k*2,none⟩=some (ab 0)/\w2.cell? ⟨w.heap.size,k*2+1,none⟩=some (ab 0))/\w2.frozen? ⟨w.heap.size,k*2,none⟩=false/\w2.frozen? ⟨w.heap.size,k*2+1,none⟩=false)):=by
    refine⟨(f v (gM f (vs.take k) S).2).1,λw1 q=>?_⟩;refine(ih k v l _ w1 (h.2.1.later q) (F.trans (aZ q M) (λ_ _ c=>c)) ?_).mono ?_
    ·rintro b ⟨c|c,_⟩
     ·exact ah c.1
     ·exact ai (by omega)
    ·rintro e w2 ⟨rfl,P⟩;exact⟨rfl,h.step (am _) B G s l q P⟩
   clear ih h D N l H r F;have V:(0:Int)<=(k:Int):=by omega
   have W:(k:Int)<(len:Int):=by omega
   have R:b<wr.heap.size:=by omega
   go_wp2_with fail;refine(x _ ((ao _ _).alloc (am _) _)).mono ?_;rintro e w2 ⟨rfl,z⟩;obtain⟨⟨d0,d1⟩,f0,f1⟩:=z.out.2;clear x t u;go_wp2_with fail;go_roundw
   case rel=>exact⟨k+1,by omega,by go_num,z.1⟩
   case measure=>simp[intOf];omega
  ·obtain rfl:k=len:=by omega
   have O:=ap (h.done s (am _) B m.2.1);clear h ih;go_wp2_with fail
   go_ret
   exact⟨_,rfl,O⟩
theorem Kz{w:World}{base:Nat}{e:TypeId}{s n:Nat}{v:Value}{xs:List Value}{b:Nat}{c tv mv:Value}(f:w.ownsRow base e s v n xs)(h:CB b c tv mv w)(j:e≠206):v.ownBlock≠some b:=λe=>by
 rcases f.2 with⟨rfl,_⟩|⟨d,cap,k,rfl,_,i,_⟩
 ·simp[Value.ownBlock]at e
 ·simp[Value.ownBlock]at e;subst e;have a:w.heap[d]?=_:=h;rw[i]at a;injection a with a;injection a with a g;exact j g
theorem B4{w:World}{base:Nat}{e:TypeId}{s n L c:Nat}{v:Value}{xs:List Value}{D:DataW Unit}(d:w.ownsRow base e s v n xs)(f:w.ownsMap Tryz.prog 3 (plainElem Tryz.prog 3) c L D):v.ownBlock≠some c:=λa=>by
 rcases d.2 with⟨rfl,_⟩|⟨g,cap,j,rfl,_,h,_⟩
 ·simp[Value.ownBlock]at a
 ·simp only[Value.ownBlock]at a;obtain rfl:=aw a;obtain⟨es,i,b,_⟩:=f;rw[h]at b;cases b
theorem vt{w:World}{L a b:Nat}{D:DataW Unit}{d tv mv:Value}(f:w.ownsMap Tryz.prog 3 (plainElem Tryz.prog 3) a L D)(e:CB b d tv mv w):a≠b:=by
 rintro rfl;obtain⟨es,h,g,_⟩:=f;have c:w.heap[a]?=_:=e;rw[g]at c;cases c
theorem PK(base d:Nat)(n:Value)(S:List Wd×cY)(M:Nat->Prop)(ps:List Wd)(m pc:Nat)(pa:Option Addr)(w:World)(z:iF base d n S M w)(E:base<=w.heap.size)(C:S.1.length<=100000)(I:ps.length=m)(D:m<=1000)(u:∀w1,bT M w w1->fh w1 ps pa):ak 148 #[.pointer (some ⟨d,1,none⟩),ae pa m pc] w λe w'=>e=.returned (.agg #[ab 4,ab S.1.length])/\Hid (wW base d n (S.1++(0,(m:Int))::ps,S.2) M w w'):=by
 obtain⟨q,p,s,a,f,g,A,h,i,B⟩:=z;obtain⟨⟨R,v,T⟩,F⟩:=a.cells;obtain⟨j,l,K⟩:∃j l,q=ae j S.1.length l:=by
  rcases f.2 with⟨e,y⟩|⟨V,c,U,e,_⟩
  ·exact⟨none,0,by rw[e,y]⟩
  ·exact⟨_,c,e⟩
 subst I;refine(As base d 1 q j l S.1.length S.1 ps ps.length pc pa w K rfl rfl C D E v (F 1) a.lt (Kz f a (by decide)) f ?_).mono ?_
 ·intro w1 k;refine u w1 (k.mono ?_);rintro b (rfl|e)
  ·exact h
  ·exact i b e
 ·rintro e w' ⟨rfl,r,t⟩;obtain⟨O,P,o,Q⟩:=t;refine⟨rfl,⟨r,p,s,(a.set1 r).kept P,?_,?_,A,ah h,?_,ah B⟩,o.mono ?_⟩
  ·have e:(S.1++(0,(ps.length:Int))::ps).length=S.1.length+1+ps.length:=by simp;omega
   rw[e];exact O
  ·have H:=g.lt;have L:=vt g a;have N:=B4 f g;obtain⟨es,x,G,J⟩:=g;refine⟨es,x,(o.block p H ?_).trans G,J⟩;rintro (e|e)
   ·exact L e
   ·exact N e
  ·intro b e;rcases Q b e with e|e
   ·exact ah (i b e)
   ·exact ai e
  ·rintro b (rfl|e)
   ·exact h
   ·exact i b e
theorem MD{base e:Nat}{h:Value}{S:List Wd×cY}{M:Nat->Prop}{w:World}(m:iF base e h S M w)(p q:Nat)(A:p<=100000)(B:q<=100000)(z:S.2.length<=100000):∃a,w.cell? ⟨e,2,none⟩=some (.map (some a))/\∃w4,(Instr.mapUpdate 204 (.map (some a)) (.int .i64 p) (.int .i64 q)).run Tryz.prog w=.ok () w4/\iF base e h (S.1,(p,q)::S.2) M w4/\bT (λb=>b=a) w w4/\M a/\a<w.heap.size/\w4.cell? ⟨e,2,none⟩=some (.map (some a)):=by
 obtain⟨x,a,y,d,i,f,o,r,s,j⟩:=m;obtain⟨w4,v,u,t⟩:=f.update Dr underlying204 (by unfold maxLen;omega) (keyOf_int_mk underlying3 (iA (n:=(p:Int)) (by omega))) (plainElem_int underlying3 (iA (n:=(q:Int)) (by omega)));have k:=Du t;have g:bT (λb=>b=a) w w4:=k.mono λb c=>(aw c).symm;refine⟨a,d.cells.1.2.2,w4,v,⟨x,a,_,d.kept (g.block e d.lt (λc=>vt f d c.symm)),dW i g ?_,u,Lj f o p q,r,s,j⟩,g,j,f.lt,(d.kept (g.block e d.lt (λc=>vt f d c.symm))).cells.1.2.2⟩;intro b c l;subst l;exact B4 i f c
theorem Da(w:World)(a b:Int):(Instr.field 109 (.agg #[.int .i64 a,.int .i64 b]) 1).run Tryz.prog w=.ok (.int .i64 b) w:=by kernel_rfl
theorem MB(base a:Nat)(H:Value)(S:List Wd×cY)(M:Nat->Prop)(p q f L h n:Nat)(w:World)(u:World->Prop)(I:Hid (iF base a H S M w))(U:H=.slice (some ⟨f,0,none⟩) L h)(W:Hid (look S.2 p=none))(aw:p<=100000)(z:Hid (∀b,Below w.heap.size w b->w.heap.size+2<=b.heap.size->Calls Tryz.prog 178 #[.slice (some ⟨f,0,none⟩) L h,.int .i64 p] b λe w'=>w'=b/\∃o pc,e=.returned (.slice (some ⟨f,o,none⟩) n pc)/\ Hid (Calls Tryz.prog 114 #[.pointer (some ⟨a,0,none⟩),.slice (some ⟨f,o,none⟩) n pc] b λe w2=>∃g,e=.returned (.slice (some ⟨g,0,none⟩) n n)/\ Hid ((∀j,w2.cell? ⟨w.heap.size,j,none⟩=b.cell? ⟨w.heap.size,j,none⟩)/\w2.cell? ⟨a,0,none⟩=some (.slice (some ⟨f,0,none⟩) L h)/\ Calls Tryz.prog 148 #[.pointer (some ⟨a,1,none⟩),.slice (some ⟨g,0,none⟩) n n] w2 λe k=>e=.returned (.agg #[.int .i64 4,.int .i64 q])/\ Hid ((∀j,k.cell? ⟨w.heap.size,j,none⟩=b.cell? ⟨w.heap.size,j,none⟩)/\k.cell? ⟨a,0,none⟩=some (.slice (some ⟨f,0,none⟩) L h)/\ ∃d w4,k.cell? ⟨a,2,none⟩=some (.map (some d))/\(Instr.mapUpdate 204 (.map (some d)) (.int .i64 p) (.int .i64 q)).run Tryz.prog k.drew=.ok () w4/\(∀j,w4.cell? ⟨w.heap.size,j,none⟩=b.cell? ⟨w.heap.size,j,none⟩)/\w4.cell? ⟨a,2,none⟩=some (.map (some d))/\ (Ap (w.heap.size+1) b->Ap (w.heap.size+1) w4)/\∀v0 v1,u ((w4.setCell ⟨w.heap.size+1,0,none⟩ v0).setCell ⟨w.heap.size+1,1,none⟩ v1)))))):Calls Tryz.prog 151 #[.pointer (some ⟨a,0,none⟩),.agg #[.int .i64 4,.int .i64 p]] w λe w'=>e=.returned (.agg #[.int .i64 4,.int .i64 q])/\u w':=by
 subst U;go_enter func151,ntmps151;go_wp2_with fail;generalize t:(w.alloc (Obj.cells #[Value.int IntKind.i64 4,Value.int IntKind.i64 p] 109)).alloc (Obj.cells #[.int .i64 0,.int .i64 0] 109)=wA;have l:Hid (Below w.heap.size w wA.drew/\wA.drew.heap.size=w.heap.size+2):=by
  subst t;exact⟨(((ao _ _).alloc (am _) _).alloc (by simp) _).drew,by simp[World.drew]⟩
 have G:wA.cell? ⟨w.heap.size,1,none⟩=some (.int .i64 p):=by subst t;simp[go_sem]
 have C:Hid (Ap (w.heap.size+1) wA.drew):=by
  subst t;have:=aA (w.alloc (Obj.cells #[Value.int IntKind.i64 4,Value.int IntKind.i64 p] 109)) (Obj.cells #[.int .i64 0,.int .i64 0] 109);have es:∀o,(w.alloc o).heap.size=w.heap.size+1:=λo=>by simp
  rw[es]at this;exact this
 obtain⟨d,F,E,P,X⟩:∃d,∃F:Int,wA.cell? ⟨a,0,none⟩=some (.slice (some ⟨f,0,none⟩) L h)/\wA.cell? ⟨a,2,none⟩=some (.map (some d))/\(Instr.lookup 204 (.map (some d)) (.int .i64 p) true).run Tryz.prog wA.drew=.ok (.tuple #[.int .i64 F,.bool false]) wA.drew:=by
  obtain⟨ax,d,x,J,ar,Q,R,_⟩:=I.out.later l.1;obtain⟨v,ps,K,Z⟩:=Q.look_ok Dr underlying204 (rY _) (plainElem_int underlying3 (iA (by omega))) (keyOf_int_mk underlying3 (iA (n:=(p:Int)) (by omega)));obtain⟨c,rfl,au,_⟩:=plainElem_int_inv underlying3 Z;have V:Maps.has x (.int .i64 p)=false:=by
   cases hx:Maps.has x (.int .i64 p)
   ·rfl
   ·have:=(R p).1.1 hx;rw[W.out]at this;simp at this
  rw[V]at K;exact⟨d,c,J.cells.1.1,J.cells.1.2.2,K⟩
 clear t I;go_region_held3 (λw'=>w'.cell? ⟨w.heap.size,1,none⟩=some (.int .i64 p)/\w'.cell? ⟨a,2,none⟩=some (.map (some d))) (go_keep) (fail);have s:wA.drew.cell? ⟨w.heap.size,1,none⟩=some (.int .i64 p):=G;have O:wA.drew.cell? ⟨a,0,none⟩=some (.slice (some ⟨f,0,none⟩) L h):=E;clear X G E P;generalize wA.drew=b at*;have B:=ap (z b.drew l.1.drew (by have:=l.2;show w.heap.size+2<=b.heap.size;omega));clear z;have T:=Da;go_wp2_with fail
 go_region_held3 (λw'=>w'.cell? ⟨w.heap.size,1,none⟩=some (.int .i64 p)/\w'.cell? ⟨a,0,none⟩=some (.slice (some ⟨f,0,none⟩) L h)) (go_keep) ((first
  | (go_at_call 178;refine B.mono ?_;rintro e w2 ⟨rfl,o,pc,rfl,y⟩;clear B)
  | (go_at_call 114;refine y.mono ?_;rintro e w2 ⟨g,rfl,m⟩;have ak:=(m.1 1).trans s;have al:=m.2.1;clear y)
  | (go_at_call 148;refine m.2.2.mono ?_;rintro e k ⟨rfl,r⟩;have y1:=(r.1 1).trans s;have y2:=r.2.1;clear m)))
 obtain⟨i,w4,aj,Y,D,aq,A,N⟩:∃i w4,k.cell? ⟨a,2,none⟩=some (.map (some i))/\(Instr.mapUpdate 204 (.map (some i)) (.int .i64 p) (.int .i64 q)).run Tryz.prog k.drew=.ok () w4/\Hid (∀j,w4.cell? ⟨w.heap.size,j,none⟩=b.drew.cell? ⟨w.heap.size,j,none⟩)/\w4.cell? ⟨a,2,none⟩=some (.map (some i))/\Hid (Ap (w.heap.size+1) w4)/\Hid (∀v0 v1,u ((w4.setCell ⟨w.heap.size+1,0,none⟩ v0).setCell ⟨w.heap.size+1,1,none⟩ v1)):=by
  obtain⟨i,w4,aa,ab,ad,ae,af,ag⟩:=r.out.2.2;exact⟨i,w4,aa,ab,ad,ae,af C,ag⟩
 have an:=(D 1).trans s;obtain⟨⟨ah,ai⟩,f0,f1⟩:=A.out.facts;clear r D A C l ak al y2 O s T;go_wp2_with fail;go_region_held3 (λw'=>w'.cell? ⟨w.heap.size,1,none⟩=some (.int .i64 p)/\w'.cell? ⟨a,2,none⟩=some (.map (some i))) (go_keep) (fail);clear Y aj y1 an aq;go_wp2_with fail;exact av (v:=.agg #[.int .i64 4,.int .i64 q]) (by simp[results,results151,go_sem,ah,ai]) rfl ⟨rfl,N _ _⟩
def cr(ws:List Wd)(p n:Nat):List Wd:=(ws.drop (p+1)).take n
theorem DQ{ws:List Wd}{p n i:Nat}(a:i<n):(cr ws p n)[i]?=ws[p+1+i]? :=by
 unfold cr;rw[sS a,kK]
theorem lq{ws:List Wd}{p n:Nat}(a:p+1+n<=ws.length):(cr ws p n).length=n:=by
 unfold cr;rw[dG,eZ];omega
def gF(ws:List Wd)(nm:List ByteArray)(n:Nat)(l:List Wd)(p:List (Tm n)):Prop:=l.length=p.length/\∀(i:Nat)(v:Wd)(y:Tm n),l[i]?=some v->p[i]?=some y->dI ws nm n y v
theorem uH{ws:List Wd}{n:Nat}{v:Wd}{S:List Wd×cY}(a:v.1≠4):jL ws n v S=(v,S):=by
 cases n with
 | zero=>rfl
 | succ n=>simp[jL,a]
theorem ET{ws:List Wd}{n p q:Nat}{S:List Wd×cY}(a:look S.2 p=some q):jL ws (n+1) (4,(p:Int)) S=((4,(q:Int)),S):=by
 simp[jL,a]
theorem yV{ws:List Wd}{n p m:Nat}{S:List Wd×cY}(a:look S.2 p=none)(b:ws[p]?=some (0,(m:Int))):jL ws (n+1) (4,(p:Int)) S= ((4,((gM (jL ws n) (cr ws p m) S).2.1.length:Int)),(gM (jL ws n) (cr ws p m) S).2.1++(0,(m:Int))::(gM (jL ws n) (cr ws p m) S).1,(p,(gM (jL ws n) (cr ws p m) S).2.1.length)::(gM (jL ws n) (cr ws p m) S).2.2):=by
 simp[jL,a,b,cr]
theorem oM{ws:List Wd}{nm:List ByteArray}{n:Nat}(ih:∀(x:Tm n)(v:Wd)(S:List Wd×cY),dI ws nm n x v->((jL ws n v S).2.1.length:Int)<=S.1.length+sz n x/\(jL ws n v S).2.2.length<=S.2.length+(ay n x).length):(l:List Wd)->(p:List (Tm n))->(S:List Wd×cY)->gF ws nm n l p->((gM (jL ws n) l S).2.1.length:Int)+p.length<=S.1.length+(p.map λy=>1+sz n y).sum/\(gM (jL ws n) l S).2.2.length<=S.2.length+(p.flatMap λy=>ay n y).length
 | [],[],S,_=>by simp[gM]
 | [],_::_,_,h=>by have:=h.1;simp at this
 | _::_,[],_,h=>by have:=h.1;simp at this
 | v::l,y::p,S,h=>by
  obtain⟨e,f⟩:=ih y v S (h.2 0 v y rfl rfl);obtain⟨g,j⟩:=oM ih l p (jL ws n v S).2 ⟨by have:=h.1;simpa using this,λi c d a b=>h.2 (i+1) c d (by simpa using a) (by simpa using b)⟩;simp only[gM,aN,bI,bF,bm,bi];exact⟨by omega,by omega⟩
theorem jC{ws:List Wd}{nm:List ByteArray}{n:Nat}{x:Tm (n+1)}{v:Wd}(i:dI ws nm (n+1) x v)(j:x.1.1=4):∃p:Nat,v=(4,(p:Int))/\ws[p]?=some (0,(x.2.2.length:Int))/\p+1+x.2.2.length<=ws.length/\gF ws nm n (cr ws p x.2.2.length) x.2.2:=by
 obtain⟨p,d,e,a,f⟩:=i.2.1 j;refine⟨p,d,e,a,lq a,λk o l b c=>?_⟩;obtain⟨m,g,h⟩:=f k l c;rw[DQ (aS.1 c).1,g]at b;obtain rfl:=aw b;exact h
theorem iR{ws:List Wd}{nm:List ByteArray}{n:Nat}{x:Tm (n+1)}{v:Wd}(a:dI ws nm (n+1) x v)(c:x.1.1≠4):v.1≠4:=by
 by_cases b:x.1.1=2
 ·obtain⟨d,rfl,_⟩:=a.1 b;simp
 ·rw[a.2.2 b c];exact c
theorem sq{ws:List Wd}{nm:List ByteArray}:(n:Nat)->(x:Tm n)->(v:Wd)->(S:List Wd×cY)->dI ws nm n x v->((jL ws n v S).2.1.length:Int)<=S.1.length+sz n x/\(jL ws n v S).2.2.length<=S.2.length+(ay n x).length
 | 0,_,_,_,h=>h.elim
 | n+1,x,v,S,h=>by
  have k:=(eX (n+1) x).1;by_cases c:x.1.1=4
  ·obtain⟨p,rfl,g,f,i⟩:=jC h c;cases hk:look S.2 p with
   | some q=>
    rw[ET hk];exact⟨by simp only;omega,by simp only;omega⟩
   | none=>
    rw[yV hk g];obtain⟨a,b⟩:=oM (λx v S d=>sq n x v S d) (cr ws p x.2.2.length) x.2.2 S i;have e:=qi (jL ws n) (cr ws p x.2.2.length) S;rw[lq f]at e;have j:(ay (n+1) x).length=1+(x.2.2.flatMap λy=>ay n y).length:=by simp[ay];omega
    simp only[bm,bi,e,sz,if_pos c,j];exact⟨by omega,by omega⟩
  ·rw[uH (iR h c)];exact⟨by simp only;omega,by simp only;omega⟩
def NK(ws:List Wd)(nm:List ByteArray)(n:Nat):Prop:=∀(x:Tm n)(v:Wd)(base c d:Nat)(a:Value)(S:List Wd×cY)(M:Nat->Prop)(w:World),iF base c a S M w->w.ownsRow d 109 2 a ws.length (aY ws)->(∀b,a.ownBlock=some b->¬M b)->base<=w.heap.size->dI ws nm n x v->aD ⟨n,x⟩->ws.length<=100000->(S.1.length:Int)+sz n x<=90000->S.2.length+(ay n x).length<=90000->
 ak 151 #[aC c,IL v] w λe w'=>e=.returned (IL (jL ws n v S).1)/\Hid (wW base c a (jL ws n v S).2 M w w')
theorem MX(n:Nat)(p:List (Tm n))(k:Nat)(x:Tm n)(d:p[k]?=some x):((p.take k).map λy=>1+sz n y).sum+(1+sz n x)<=(p.map λy=>1+sz n y).sum:=by
 obtain⟨c,rfl⟩:=aS.1 d;have a:p=p.take k++p[k]::p.drop (k+1):=by
  rw[<-eH c,gU]
 have b:∀l:List (Tm n),0<=(l.map λy=>1+sz n y).sum:=by
  intro l
  induction l with
  | nil=>simp
  | cons y l ih=>
   have:=(eX n y).1;simp only[aN,bI];omega
 have e:=b (p.drop (k+1))
 conv=>rhs;rw[a]
 simp only[iy,List.sum_append,aN,bI];omega
theorem gF.take{ws:List Wd}{nm:List ByteArray}{n:Nat}{l:List Wd}{p:List (Tm n)}(c:gF ws nm n l p)(k:Nat):gF ws nm n (l.take k) (p.take k):=by
 refine⟨by simp[c.1],λe f g a b=>?_⟩;rw[jk]at a b;split at a
 ·rename_i d;rw[if_pos d]at b;exact c.2 e f g a b
 ·cases a
theorem sY(ws:List Wd)(nm:List ByteArray)(n:Nat)(ih:NK ws nm n)(vs:List Wd)(p:List (Tm n))(base d l:Nat)(c:Value)(S:List Wd×cY)(M:Nat->Prop)(a:Option Addr)(pc:Nat)(w:World)(u:iF base d c S M w)(r:w.ownsRow l 109 2 c ws.length (aY ws))(m:∀b,c.ownBlock=some b->¬M b)(I:base<=w.heap.size)(j:gF ws nm n vs p)(E:∀y∈p,aD ⟨n,y⟩)(F:ws.length<=100000)(C:vs.length<=100000)(L:(S.1.length:Int)+(p.map λy=>1+sz n y).sum<=90000)(J:S.2.length+(p.flatMap λy=>ay n y).length<=90000)(A:eR w vs a)(D:∀b o,a=some ⟨b,o,none⟩->¬M b):ak 114 #[aC d,ae a vs.length pc] w λe w'=>∃g,e=.returned (ae (some ⟨g,0,none⟩) vs.length vs.length)/\Hid (CP (jL ws n) vs base d c S M g w w'):=by
 refine yU (jL ws n) vs base d c S M a vs.length pc w rfl C u A D ?_;intro k i s t G x q v;have B:=(aS.1 s).1;obtain⟨y,h⟩:∃y,p[k]?=some y:=⟨p[k]'(by rw[<-j.1];exact B),aI _⟩;obtain⟨P,Q⟩:=oM (λH i S z=>sq n H i S z) (vs.take k) (p.take k) S (j.take k);have N:=MX n p k y h;have O:=Bj n p k y h;have K:=q.size;refine ih y i base d l c _ t G x (dW r q λb e=>m b e) ?_ (by omega) (j.2 k i y s h) (E y (aJ h)) F (by omega) (by omega);intro b e f;rcases v b f with f|f
 ·exact m b e f
 ·have:=(r.lt b e).2;omega
theorem uE{base b:Nat}{c:Value}{S:List Wd×cY}{M:Nat->Prop}{w w':World}(a:iF base b c S M w)(d:aj w w'):wW base b c S M w w':=
 ⟨(a.later d).mono λ_ a=>ah a.1,aZ d M⟩
theorem ME(ws:List Wd)(nm:List ByteArray)(n:Nat)(ih:NK ws nm n)(ps:List (Tm n))(p:Nat)(base i t:Nat)(l:Value)(S:List Wd×cY)(M:Nat->Prop)(w:World)(c:iF base i l S M w)(F:w.ownsRow t 109 2 l ws.length (aY ws))(P:∀b,l.ownBlock=some b->¬M b)(aT:base<=w.heap.size)(aE:ws[p]?=some (0,(ps.length:Int)))(R:p+1+ps.length<=ws.length)(U:gF ws nm n (cr ws p ps.length) ps)(aF:∀y∈ps,aD ⟨n,y⟩)(aR:ps.length<=8)(V:ws.length<=100000)(aH:(S.1.length:Int)+(ps.map λy=>1+sz n y).sum<=90000)(aB:S.2.length+(ps.flatMap λy=>ay n y).length<=90000)(az:look S.2 p=none):ak 151 #[aC i,IL (4,(p:Int))] w λe w'=>e=.returned (IL (4,((gM (jL ws n) (cr ws p ps.length) S).2.1.length:Int)))/\ Hid (wW base i l ((gM (jL ws n) (cr ws p ps.length) S).2.1++(0,(ps.length:Int))::(gM (jL ws n) (cr ws p ps.length) S).1,(p,(gM (jL ws n) (cr ws p ps.length) S).2.1.length)::(gM (jL ws n) (cr ws p ps.length) S).2.2) M w w'):=by
 obtain⟨d,u,Q,_,_⟩:=F.form (by omega);have E:=lq R;obtain⟨a1,a2⟩:=oM (λaN aK S ar=>sq n aN aK S ar) (cr ws p ps.length) ps S U;refine MB base i l S M p _ d ws.length u ps.length w _ c Q az (by omega) ?_;intro Y j aS;subst Q;have aU:=(F.lt d rfl).2;have T:Y.ownsRow t 109 2 (ae (some ⟨d,0,none⟩) ws.length u) ws.length (aY ws):=dT F j;refine(xI t d ws.length u p ps.length ws Y V T aE R).mono ?_;rintro e w' ⟨rfl,pa,pc,rfl,_,aG,o,rfl⟩;refine⟨rfl,o,pc,rfl,?_⟩;have au:eR w' (cr ws p ps.length) (some ⟨d,o,none⟩):=CF aG (by have:=j.size;omega);have O:=sY ws nm n ih (cr ws p ps.length) ps base i t (ae (some ⟨d,0,none⟩) ws.length u) S _ (some ⟨d,o,none⟩) pc w' (c.later j) T (λb e a=>P b e a.1) (by have:=j.size;omega) U aF V (by omega) aH aB au (λb a0 e a=>P b (by injection e with e;injection e with e;subst e;rfl) a.1);rw[E]at O;refine O.mono ?_;rintro e aM ⟨g,rfl,ab⟩;obtain⟨A,G,s,ad,af,aO,H⟩:=ab;rw[E]at H;have v:∀b,A b->(M b/\b<w.heap.size)\/w'.heap.size<=b:=ad;have aV:=s.size;refine⟨g,rfl,λm=>bw (s.block _ (by omega) (λa=>by omega)) m,?_,?_⟩
 ·obtain⟨aJ,x,Z,q,_⟩:=G;exact q.cells.1.1
 refine(PK base i _ _ A (gM (jL ws n) (cr ws p ps.length) S).1 ps.length ps.length (some ⟨g,0,none⟩) aM G (by have:=j.size;omega) (by omega) (by rw[qi];exact E) (by omega) ?_).mono ?_
 ·intro a3 ax;exact ai ⟨_,rfl,(dW H ax (λb e=>by simp only[Value.ownBlock]at e;obtain rfl:=aw e;exact af)).cells (g:=g) rfl⟩
 rintro e r ⟨rfl,aa⟩;obtain⟨I,B⟩:=aa;have aW:=B.size;have D:∀b,w.heap.size<=b->b<w.heap.size+2->¬A b:=λb f h a=>by
  rcases v b a with k|k<;>omega
 have L:∀b,w.heap.size<=b->b<w.heap.size+2->r.heap[b]?=w'.heap[b]? :=λb f h=>(B.block b (by omega) (D b f h)).trans (s.block b (by omega) (λa=>by omega));refine⟨rfl,λm=>bw (L _ (am _) (by omega)) m,?_,?_⟩
 ·obtain⟨aJ,x,Z,q,_⟩:=I;exact q.cells.1.1
 have bd:aj r r.drew:=(ao _ _).drew;have ag:=I.kept (aZ bd (λ_=>False)) (λ_ _ _ c=>c);obtain⟨x,al,z,an,ap,C,J,aP,aq⟩:=MD ag p (gM (jL ws n) (cr ws p ps.length) S).2.1.length (by omega) (by omega) (by simp only;omega);have aA:∀b,w.heap.size<=b->b<w.heap.size+2->b≠x:=λb f h e=>by
  subst e;rcases J with k|k
  ·exact D _ f h k
  ·omega
 have aX:=C.size;have aQ:r.drew.heap.size=r.heap.size:=rfl;have N:∀b,w.heap.size<=b->b<w.heap.size+2->z.heap[b]?=w'.heap[b]? :=λb f h=>(C.block b (by omega) (aA b f h)).trans (L b f h);refine⟨x,z,al,an,λm=>bw (N _ (am _) (by omega)) m,aq,λav=>(N _ (by omega) (by omega)).trans av,λX aL=>?_⟩;have q:=bq z (w.heap.size+1) 0 X;have aI:=bq (z.setCell ⟨w.heap.size+1,0,none⟩ X) (w.heap.size+1) 1 aL;have W:=q.trans aI (λb _ c=>c);refine⟨(ap.kept W ?_).mono ?_,?_⟩
 ·rintro b (a|a) _ rfl
  ·exact D _ (by omega) (by omega) a
  ·omega
 ·rintro b (a|a)
  ·rcases v b a with k|k
   ·exact ah k.1
   ·exact ai (by omega)
  ·exact ai (by omega)
 ·refine(((((aZ j M).trans s ?_).trans B ?_).trans (aZ bd (λ_=>False)) ?_).trans C ?_).trans W ?_
  ·exact λb _ a=>a.1
  ·intro b K a;rcases v b a with k|k
   ·exact k.1
   ·omega
  ·exact λ_ _ c=>c.elim
  ·rintro b K rfl;rcases J with k|k
   ·rcases v _ k with k|k
    ·exact k.1
    ·omega
   ·omega
  ·intro b K c;omega
theorem MA(ws:List Wd)(nm:List ByteArray)(n:Nat):NK ws nm n:=by
 induction n with
 | zero=>intro a o i d p j c h g _ _ _ _ f;exact f.elim
 | succ n ih=>
  intro a o i d p j c h g e z v u f s B G F;have w:=s (bD n a) (by simp[ay,bD]);have y:a.2.2.length<=8:=mr (bD n a) w;have H:(ay (n+1) a).length=1+(a.2.2.flatMap λb=>ay n b).length:=by simp[ay];omega
  by_cases k:a.1.1=4
  ·obtain⟨m,rfl,r,x,A⟩:=jC f k;cases hk:look c.2 m with
   | some D=>
    rw[ET hk];refine(MC i d j c h m D g e hk (by omega)).mono ?_;rintro q E ⟨rfl,l⟩;exact⟨rfl,uE e l⟩
   | none=>
    rw[yV hk r];have q:sz (n+1) a=1+(a.2.2.map λb=>1+sz n b).sum:=by simp only[sz,if_pos k]
    exact ME ws nm n ih a.2.2 m i d p j c h g e z v u r x A (λb C=>aV n a b s C) y B (by omega) (by omega) hk
  ·have t:=iR f k;rw[uH t];refine(Ki d o.1 o.2 g t).mono ?_;rintro q E ⟨rfl,l⟩;exact⟨rfl,uE e l⟩
end Go.Proofs.YtmmahddlcldmiaaGreat

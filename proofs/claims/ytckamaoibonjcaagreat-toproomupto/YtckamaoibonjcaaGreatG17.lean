/- What is proved here: plain facts and contracts that the claimed theorem stands on. No condition but those that each names. -/
import Derived.Test.YtckamaoibonjcaaGreatG16
namespace Go.Proofs.YtckamaoibonjcaaGreat
open Go.RowKit
set_option maxHeartbeats 1000000
set_option maxRecDepth 100000
def dB(ws:List Wd)(nm:List ByteArray):(n:Nat)->Tm n->Wd->Prop
 | 0,_,_=>False
 | n+1,x,v=>(x.1.1=2->∃i:Nat,v=(2,(i:Int))/\nm[i]?=some x.1.2.2)/\
    (x.1.1=4->∃p:Nat,v=(4,(p:Int))/\ws[p]?=some (0,(x.2.2.length:Int))/\p+1+x.2.2.length<=ws.length/\∀(i:Nat)(y:Tm n),x.2.2[i]?=some y->∃a,ws[p+1+i]?=some a/\dB ws nm n y a)/\
    (x.1.1≠2->x.1.1≠4->v=(x.1.1,x.1.2.1))
def ez(w:World)(vs:List Wd)(a:Option Addr):Prop:=vs=[]\/∃b o,a=some ⟨b,o,none⟩/\b<w.heap.size/\∀(i:Nat)(v:Wd),vs[i]?=some v->w.cell? ⟨b,o+i*2,none⟩=some (ab v.1)/\w.cell? ⟨b,o+i*2+1,none⟩=some (ab v.2)
def Ob(n:Nat):Prop:=∀(x:Tm n)(v:Wd)(base:Nat)(a:cq)(room:Int)(ws:List Wd)(nm:List ByteArray)(M:Nat->Prop)(w:World),dA base a room ws nm M w->ws.length<=100000->nm.length<=100000->dB ws nm n x v->az ⟨n,x⟩->
 am 100 #[.pointer (some ⟨a.b,a.o,none⟩),G4 v] w λe w'=>∃y:Tm n,e=.returned (dj n y)/\Hid (aj w w'/\In w'.heap.size w' n y/\bZ (λq=>w.heap.size<=q) n y/\ax n y n x=true)
def qi(q:Nat)(w:World):Prop:=w.heap[q]?=some (.cells #[ab 0,ab 0,af .empty,ae none 0 0] 30)
theorem qi.kept{q:Nat}{w w':World}(a:qi q w)(k:w'.heap[q]?=w.heap[q]?):qi q w':=k.trans a
theorem qi.cells{q:Nat}{w:World}(a:qi q w):(w.cell? ⟨q,0,none⟩=some (ab 0)/\w.cell? ⟨q,1,none⟩=some (ab 0)/\w.cell? ⟨q,2,none⟩=some (af .empty)/\w.cell? ⟨q,3,none⟩=some (ae none 0 0))/\∀j,w.frozen? ⟨q,j,none⟩=false:=by
 unfold qi at a;refine⟨⟨?_,?_,?_,?_⟩,λj=>?_⟩
 all_goals simp[World.cell?,World.frozen?,a]
theorem JP{n:Nat}{p:List (Tm n)}{len:Nat}{w w0:World}(f:w0.ownsRow (w.heap.size+1) 30 4 (.slice (some ⟨(w.alloc (.cells #[ab 0,ab 0,af .empty,ae none 0 0] 30)).heap.size,0,none⟩) len len) len (madeCells (Value.agg #[ab 0,ab 0,af .empty,ae none 0 0]).cells (len*4)).toList)(a:(w.alloc (.cells #[ab 0,ab 0,af .empty,ae none 0 0] 30)).grownBy w0 none):aj w w0/\tB n p len (w.heap.size+1) 0 [] w0/\qi w.heap.size w0:=by
 have c:(w.alloc (.cells #[ab 0,ab 0,af .empty,ae none 0 0] 30)).heap.size=w.heap.size+1:=by simp
 have g:aj w (w.alloc (.cells #[ab 0,ab 0,af .empty,ae none 0 0] 30)):=(ap _ _).alloc (ak _) _;have d:Below (w.heap.size+1) (w.alloc (.cells #[ab 0,ab 0,af .empty,ae none 0 0] 30)) w0:=⟨a.os,a.tape,a.output,a.size,λb h=>a.block b (by omega) (by simp)⟩;have e:=qw (w:=w.alloc (.cells #[ab 0,ab 0,af .empty,ae none 0 0] 30)) n p len (by rw[c]at f ⊢;exact f);rw[c]at e;exact⟨g.trans (d.mono (by omega)),e,(d.block _ (by omega)).trans (aB w _)⟩
theorem tB.end{n:Nat}{p:List (Tm n)}{len g:Nat}{l:List (Tm n)}{w wr:World}(r:tB n p len g len l wr)(A:p.length=len)(z:g=w.heap.size+1)(c:aj w wr)(t:len<=maxLen):∀v0 v1 v2 v3,gD n p w (cJ wr w.heap.size 0 v0 v1 v2 v3) (some ⟨g,0,none⟩) len l:=by
 intro v0 v1 v2 v3;obtain⟨y,e,i,j⟩:=r;rw[bC (by omega)]at j;rw[js,mw,eh]at e;refine⟨⟨c.os,c.tape,c.output,ay c.size (dt (bm _ _ _ _).symm),λh f=>(aV (by omega) _ _ _ _).trans (c.block h f)⟩,by omega,by omega,t,j,ai ⟨g,0,rfl,⟨by omega,rfl,λv=>?_,λa d=>(i a d).2.mono λh f=>by omega⟩,by rw[bm];exact e.lt.2,λu a d=>?_⟩⟩
 ·have k:=e.free v;unfold World.frozen? at k ⊢;rw[aV (w:=wr) (g:=w.heap.size) (b:=g) (o:=0) (by omega) v0 v1 v2 v3];exact k
 have s:=e.cells u ⟨n,a⟩ (by simp[d]);have m:=(i a (aG d)).1;have q:=(i a (aG d)).2;refine⟨?_,?_,q.mono λh f=>by omega⟩
 ·cases n with
  | zero=>exact m.elim
  | succ n=>
   rw[cT];exact dE.block (aV (by omega) _ _ _ _) (n:=n+1) (x:=a) s
 ·rw[bm];exact In.off (λh f=>aV (by omega) _ _ _ _) q m
theorem yX(n:Nat)(ih:Ob n)(base:Nat)(q:cq)(room:Int)(ws:List Wd)(nm:List ByteArray)(M:Nat->Prop)(a:Option Addr)(len pc:Nat)(p:List (Tm n))(vs:List Wd)(Y:Hid (p.length=len))(aD:Hid (vs.length=len))(w:World)(Q:Hid (dA base q room ws nm M w))(aX:len<=8)(al:Hid (ws.length<=100000))(W:Hid (nm.length<=100000))(U:Hid (ez w vs a))(aa:Hid (∀(i:Nat)(y:Tm n)(v:Wd),p[i]?=some y->vs[i]?=some v->dB ws nm n y v))(Z:Hid (∀y∈p,az ⟨n,y⟩)):am 134 #[.pointer (some ⟨q.b,q.o,none⟩),ae a len pc] w λe w'=>∃N O l,e=.returned (.agg #[ab 4,ab 0,af .empty,ae N len O])/\Hid (gD n p w w' N O l):=by
 obtain⟨aE,V,ad,ag,ah⟩:=bS ge;go_enter Tryz.func134,Tryz.ntmps134;go_wp2_with (at_make;refine ky _ rfl _ _ 28 rfl (w.heap.size+1) 30 aE _ 4 Tryz.underlying28 V ad ag _ _ _ _ len rfl rfl rfl rfl (by rw[ah];omega) (by unfold maxLen;omega) (by simp) ?_;intro F X T;have A:=ao (JP (p:=p) X T);clear X T);clear V ad ag ah;obtain⟨d,S⟩:∃d,w.heap.size+1=d:=⟨_,rfl⟩;rw[S]at A ⊢;obtain⟨ar,J,L⟩:Hid (aj w F)/\Hid (tB n p len d 0 [] F)/\Hid (qi w.heap.size F):=A.out;clear A;go_loopw [13] (λi wr=>∃k:Nat,k<=len/\i=ab k/\Hid (aj w wr/\qi w.heap.size wr/\∃l,tB n p len d k l wr)) (λi _=>len-(intOf i).toNat)
 case atStart=>exact⟨0,by omega,rfl,ar.out,L.out,[],J.out⟩
 case round=>
  clear J L;obtain⟨k,aT,rfl,K⟩:=hrel;obtain⟨g,t,l,h⟩:Hid (aj w wr)/\Hid (qi w.heap.size wr)/\∃l,Hid (tB n p len d k l wr):=K.out;clear K;by_cases B:k<len
  ·obtain⟨f,u⟩:∃f,p[k]?=some f:=⟨p[k]'(by rw[Y.out];exact B),aH _⟩;obtain⟨v,s⟩:∃v,vs[k]?=some v:=⟨vs[k]'(by rw[aD.out];exact B),aH _⟩;obtain⟨b,o,rfl,R,ai⟩:∃b o,a=some ⟨b,o,none⟩/\b<w.heap.size/\∀(i:Nat)(v:Wd),vs[i]?=some v->w.cell? ⟨b,o+i*2,none⟩=some (ab v.1)/\w.cell? ⟨b,o+i*2+1,none⟩=some (ab v.2):=by
    rcases U.out with e|e
    ·rw[e]at s;simp at s
    ·exact e
   obtain⟨D,E⟩:=ai k v s;replace D:=(aq g.out b (o+k*2) R).trans D;replace E:=(aq g.out b (o+k*2+1) R).trans E;have aC:=ao u;have aS:d<wr.heap.size:=h.out.2.1.lt.2
   have H:Hid (∀(c:World),aj wr c->am 100 #[.pointer (some ⟨q.b,q.o,none⟩),.agg #[ab v.1,ab v.2]] c λe w'=>∃y:Tm n,e=.returned (dj n y)/\Hid (aj c w'/\In w'.heap.size w' n y/\bZ (λx=>c.heap.size<=x) n y/\ax n y n f=true)):=
    λc j=>ih f v base q room ws nm _ c (Q.out.later (g.out.trans (j.mono g.out.size))) al.out W.out (aa.out k f v u s) (Z.out f (aG u))
   clear ih u s ai U aa Z Q al W;have aU:(0:Int)<=(k:Int):=by omega
   have aW:(k:Int)<(len:Int):=by omega
   have aY:b<wr.heap.size:=by omega
   go_wp2_with fail;refine(H.out _ ((ap _ _).alloc (ak _) _)).mono ?_;rintro e c ⟨y,rfl,m⟩;have r:Hid (aj wr c):=((ap _ _).alloc (ak _) _).trans (m.out.1.mono (by simp));have aB:=ao (h.out.step B f aC.out r.out y m.out.2.1 (m.out.2.2.1.mono λx C=>by simp at C;omega) m.out.2.2.2);have z:=ao (h.out.2.1.below r.out);have I:=m.out.2.1;cases n with
   | zero=>exact I.elim
   | succ n=>
   clear I;have au:Hid (aj w (jc c d (k*4) (gd (n+1) y))):=by
    have j:=g.out.trans (r.out.mono g.out.size);exact⟨j.os,j.tape,j.output,ay j.size (dt (bm _ _ _ _).symm),λx C=>(aV (by omega) _ _ _ _).trans (j.block x C)⟩
   have aw:Hid (qi w.heap.size (jc c d (k*4) (gd (n+1) y))):=t.out.kept ((aV (by omega) _ _ _ _).trans (r.out.block _ (by omega)));obtain⟨G,an⟩:∃G,(l.map (λf=>(⟨n+1,f⟩:An))++List.replicate (len-k) zA)[k]?=some G:=⟨_,aH (by simp[h.out.1];omega)⟩;obtain⟨aM,aN,aO,aP⟩:=z.out.cells k G an;have aR:=λaF=>z.out.free aF;have P:dj (n+1) y=.agg #[ab y.1.1,ab y.1.2.1,af y.1.2.2,ae y.2.1.1 y.2.2.length y.2.1.2]:=rfl;rw[P];clear H h g m r z t D E an P;go_wp2_with fail;go_roundw
   case rel=>exact⟨k+1,by omega,by go_num,au.out,aw.out,l++ [y],aB.out⟩
   case measure=>simp[intOf];omega
  ·obtain rfl:k=len:=by omega
   have aA:=ao (h.out.end Y.out S.symm g.out (by unfold maxLen;omega));obtain⟨⟨aI,aJ,aK,aL⟩,aQ⟩:=t.out.cells;clear h ih t;go_wp2_with fail;exact av (v:=.agg #[ab 4,ab 0,af .empty,ae (some ⟨d,0,none⟩) k k]) (by simp[results,Tryz.results134,go_sem,aI,aJ,aK,aL];rfl) rfl ⟨_,_,l,rfl,aA.out _ _ _ _⟩
theorem xG{w wA w2:World}(b:aj w wA)(c:aj wA w2)(v0 v1 v2 v3:Value):aj w (cJ w2 (w.heap.size+1) 0 v0 v1 v2 v3):=by
 have a:=b.trans (c.mono b.size);exact⟨a.os,a.tape,a.output,ay a.size (dt (bm _ _ _ _).symm),λe d=>(aV (by omega) _ _ _ _).trans (a.block e d)⟩
theorem Gz(c:cq)(k a:Int)(w:World)(d:¬k=2)(f:¬k=4):am 100 #[.pointer (some ⟨c.b,c.o,none⟩),.agg #[ab k,ab a]] w λe w'=>e=.returned (.agg #[ab k,ab a,af .empty,ae none 0 0])/\aj w w':=by
 have g:(k==2)=false:=by simpa using d
 have h:(k==4)=false:=by simpa using f
 go_enter Tryz.func100,Tryz.ntmps100;go_wp2_with fail;exact av (v:=.agg #[ab k,ab a,af .empty,ae none 0 0]) (by simp[results,Tryz.results100,go_sem];rfl) rfl ⟨rfl,by go_grown⟩
theorem Gy(base:Nat)(a:cq)(room:Int)(ws:List Wd)(nm:List ByteArray)(M:Nat->Prop)(i:Nat)(s:ByteArray)(w:World)(m:Hid (dA base a room ws nm M w))(q:nm.length<=100000)(r:Hid (nm[i]?=some s))(t:s.size<=2048):am 100 #[.pointer (some ⟨a.b,a.o,none⟩),.agg #[ab 2,ab i]] w λe w'=>e=.returned (.agg #[ab 2,ab 0,af s,ae none 0 0])/\aj w w':=by
 go_enter Tryz.func100,Tryz.ntmps100;go_wp2_with fail;generalize f:(w.alloc (Obj.cells #[Value.int IntKind.i64 2,Value.int IntKind.i64 i] 105)).alloc (Obj.cells #[ab 0,ab 0,af ⟨#[]⟩,ae none 0 0] 30)=wA;have c:Hid (aj w wA.drew/\wA.drew.heap.size=w.heap.size+2):=by
  subst f;exact⟨(((ap _ _).alloc (ak _) _).alloc (by simp) _).drew,by simp[World.drew]⟩
 have D:wA.cell? ⟨w.heap.size,1,none⟩=some (ab i):=by subst f;simp[go_sem]
 have l:Hid (qi (w.heap.size+1) wA.drew):=by
  subst f;have:=aB (w.alloc (Obj.cells #[Value.int IntKind.i64 2,Value.int IntKind.i64 i] 105)) (Obj.cells #[ab 0,ab 0,af ⟨#[]⟩,ae none 0 0] 30);have es:∀o,(w.alloc o).heap.size=w.heap.size+1:=λo=>by simp
  rw[es]at this;exact this
 have j:Hid (am 133 #[.pointer (some ⟨a.b,a.o+2,none⟩),ab i] wA.drew λe w'=>e=.returned (af s)/\Below wA.drew.heap.size wA.drew w'):=by
  obtain⟨C,u,x,n,F,p,_⟩:=m.out.later c.out.1;exact CL base a room C u x nm i s wA.drew n p.1 r q t
 clear f;go_region_held3 (λw'=>w'.cell? ⟨w.heap.size,1,none⟩=some (ab i)) (go_keep) ((go_at_call 133;refine j.out.mono ?_;rintro e H ⟨rfl,d⟩;have g:=ao d;have G:=λo=>aq d w.heap.size o (by have:=c.out.2;omega);have h:=ao (l.out.kept (d.block _ (by have:=c.out.2;omega)));obtain⟨⟨y,z,A,B⟩,E⟩:=h.out.cells;clear d));have k:=ao (xG c.out.1 g.out (ab 2) (ab 0) (af s) (ae none 0 0));go_wp2_with fail;exact av (v:=.agg #[ab 2,ab 0,af s,ae none 0 0]) (by simp[results,Tryz.results100,go_sem,y,z,A,B]) rfl ⟨rfl,k.out⟩
theorem DQ(g o j:Nat):(⟨g,o,none⟩:Addr).add j=⟨g,o+j,none⟩:=by
 unfold Addr.add;by_cases a:j=0<;>simp[a]
theorem BN{w:World}{vs:List Wd}{g o:Nat}(d:eM w vs (some ⟨g,o,none⟩))(h:g<w.heap.size):ez w vs (some ⟨g,o,none⟩):=by
 rcases d with d|⟨ad,c,e⟩
 ·exact ah d
 ·injection c with c;subst c;refine ai ⟨g,o,rfl,h,λa b f=>⟨?_,?_⟩⟩
  ·have:=e (a*2+0) (ab b.1) (by rw[iI vs a b f 0 (by omega)];rfl);rw[DQ]at this;exact this
  ·have:=e (a*2+1) (ab b.2) (by rw[iI vs a b f 1 (by omega)];rfl);rw[DQ]at this;exact this
theorem JJ(n:Nat)(ih:Ob n)(base:Nat)(a:cq)(room:Int)(ws:List Wd)(nm:List ByteArray)(M:Nat->Prop)(k len:Nat)(p:List (Tm n))(L:Hid (p.length=len))(w:World)(G:Hid (dA base a room ws nm M w))(ai:len<=8)(D:Hid (ws.length<=100000))(K:Hid (nm.length<=100000))(J:Hid (ws[k]?=some (0,(len:Int))))(C:Hid (k+1+len<=ws.length))(O:Hid (∀(i:Nat)(y:Tm n),p[i]?=some y->∃E,ws[k+1+i]?=some E/\dB ws nm n y E))(N:Hid (∀y∈p,az ⟨n,y⟩)):am 100 #[.pointer (some ⟨a.b,a.o,none⟩),.agg #[ab 4,ab k]] w λe w'=>∃g h l,e=.returned (.agg #[ab 4,ab 0,af .empty,ae g len h])/\Hid (gD n p w w' g h l):=by
 go_enter Tryz.func100,Tryz.ntmps100;go_wp2_with fail;generalize u:(w.alloc (Obj.cells #[Value.int IntKind.i64 4,Value.int IntKind.i64 k] 105)).alloc (Obj.cells #[ab 0,ab 0,af ⟨#[]⟩,ae none 0 0] 30)=wA;have m:Hid (aj w wA.drew/\wA.drew.heap.size=w.heap.size+2):=by
  subst u;exact⟨(((ap _ _).alloc (ak _) _).alloc (by simp) _).drew,by simp[World.drew]⟩
 have X:wA.cell? ⟨w.heap.size,1,none⟩=some (ab k):=by subst u;simp[go_sem]
 have V:Hid (qi (w.heap.size+1) wA.drew):=by
  subst u;have:=aB (w.alloc (Obj.cells #[Value.int IntKind.i64 4,Value.int IntKind.i64 k] 105)) (Obj.cells #[ab 0,ab 0,af ⟨#[]⟩,ae none 0 0] 30);have es:∀o,(w.alloc o).heap.size=w.heap.size+1:=λo=>by simp
  rw[es]at this;exact this
 have z:=ao (G.out.later m.out.1);obtain⟨c,j,f,A,F⟩:∃c j f,wA.cell? ⟨a.b,a.o+1,none⟩=some (ae (some ⟨c,0,none⟩) j f)/\Hid (a.b<w.heap.size/\am 135 #[ae (some ⟨c,0,none⟩) j f,ab k] wA.drew λe w'=>∃o pc,e=.returned (ae (some ⟨c,o,none⟩) len pc)/\w'=wA.drew/\Hid (ez wA.drew ((ws.drop (k+1)).take len) (some ⟨c,o,none⟩))):=by
  obtain⟨aN,aL,aM,Y,B,aG,Z,_⟩:=z.out;obtain⟨⟨aC,A,aD,aE⟩,aI⟩:=Y.cells;have ah:=C.out;obtain⟨c,f,rfl,_,_⟩:=B.form (by omega);refine⟨c,_,f,A,Z.2,?_⟩;refine(wI base c ws.length f k len ws wA.drew D.out B J ah).mono ?_;rintro e w' ⟨rfl,pa,pc,rfl,_,ar,o,rfl⟩;exact⟨o,pc,rfl,rfl,BN ar (B.lt c rfl).2⟩
 have S:Hid (∀o pc,ez wA.drew ((ws.drop (k+1)).take len) (some ⟨c,o,none⟩)->am 134 #[.pointer (some ⟨a.b,a.o,none⟩),ae (some ⟨c,o,none⟩) len pc] wA.drew λe w'=>∃g h l,e=.returned (.agg #[ab 4,ab 0,af .empty,ae g len h])/\Hid (gD n p wA.drew w' g h l)):=by
  intro o pc ag;refine yX n ih base a room ws nm _ (some ⟨c,o,none⟩) len pc p ((ws.drop (k+1)).take len) L ?_ wA.drew z ai D K ag ?_ N
  ·have:=C.out;unfold Hid;rw[dy,eH];omega
  ·intro i y v Q P;obtain⟨E,an,al⟩:=O.out i y Q;have ad:i<len:=by have:=(aR.1 Q).1;have:=L.out;omega
   rw[r9 ad,km,an]at P;obtain rfl:=au P;exact al
 clear u ih O N G z J C D K;have aJ:a.b<w.heap.size:=F.out.1;have aK:w.heap.size+1≠a.b:=by omega
 have U:Hid (∀(d:World)(q r s t:Value),(d.cell? ⟨w.heap.size,1,none⟩=some (ab k)/\d.cell? ⟨a.b,a.o+1,none⟩=some (ae (some ⟨c,0,none⟩) j f))->((((d.setCell ⟨w.heap.size+1,0,none⟩ q).setCell ⟨w.heap.size+1,1,none⟩ r).setCell ⟨w.heap.size+1,2,none⟩ s).setCell ⟨w.heap.size+1,3,none⟩ t).cell? ⟨w.heap.size,1,none⟩=some (ab k)/\((((d.setCell ⟨w.heap.size+1,0,none⟩ q).setCell ⟨w.heap.size+1,1,none⟩ r).setCell ⟨w.heap.size+1,2,none⟩ s).setCell ⟨w.heap.size+1,3,none⟩ t).cell? ⟨a.b,a.o+1,none⟩=some (ae (some ⟨c,0,none⟩) j f)):=by
  intro d q r s t I;exact⟨(bt (aV (o:=0) (w:=d) (show w.heap.size≠w.heap.size+1 by omega) q r s t) 1).trans I.1,(bt (aV (o:=0) (w:=d) (show a.b≠w.heap.size+1 by omega) q r s t) (a.o+1)).trans I.2⟩
 go_region_held3 (λw'=>w'.cell? ⟨w.heap.size,1,none⟩=some (ab k)/\w'.cell? ⟨a.b,a.o+1,none⟩=some (ae (some ⟨c,0,none⟩) j f)) (first|(go_keep;done)|exact U.out _ _ _ _ _ aa) ((first
  | (go_at_call 135;refine F.out.2.mono ?_;rintro e d ⟨o,pc,rfl,rfl,W⟩)
  | (go_at_call 134;refine(S.out _ _ W.out).mono ?_;rintro e d ⟨g,h,l,rfl,x⟩;have H:=λb o (aH:b<w.heap.size+1)=>aq x.out.1 b o (by have:=m.out.2;omega);have aa:d.cell? ⟨w.heap.size,1,none⟩=some (ab k)/\d.cell? ⟨a.b,a.o+1,none⟩=some (ae (some ⟨c,0,none⟩) j f):=⟨(H w.heap.size 1 (by omega)).trans X,(H a.b (a.o+1) (by omega)).trans A⟩;have R:=ao (V.out.kept (x.out.1.block _ (by have:=m.out.2;omega)));obtain⟨⟨aw,ax,ay,aA⟩,aF⟩:=R.out.cells)))
 have T:=ao (x.out.box m.out.1 (by have:=m.out.2;omega) (ab 4) (ab 0) (af .empty) (ae g len h));go_wp2_with fail;exact av (v:=.agg #[ab 4,ab 0,af .empty,ae g len h]) (by simp[results,Tryz.results100,go_sem,aw,ax,ay,aA]) rfl ⟨g,h,l,rfl,T.out⟩
theorem uf(x:Nd)(b:cv x=true):dn x.1.1/\dn x.1.2.1:=by
 have c:=jV x b;unfold cv qd at b;unfold dn;rcases c with a|a|a|a|a|⟨a,d⟩
 all_goals (rw[a]at b ⊢;simp at b;refine⟨by omega,by omega⟩)
theorem JI(n:Nat):Ob n:=by
 induction n with
 | zero=>intro a af u q room B z t s _ _ _ x;exact x.elim
 | succ n ih=>
  intro a af u q room B z t s C V F x H;have p:=H (bA n a) (by simp[aw,bA]);have S:a.2.2.length<=8:=lO (bA n a) p;have G:a.1.2.2.size<=2048:=by have:=rI (bA n a) p;simp only[bA]at this;omega
  obtain⟨ad,ae,ab⟩:=x;have g:=eq (bA n a) p;have I:∀(e:World)(k A:Int)(r:ByteArray),dn k->dn A->r.size<=2048->In e.heap.size e (n+1) ((k,A,r),(none,0),[]):=λe k A r M d ag=>⟨⟨M,d,by unfold maxLen;show r.size<=_;omega,ak _,aE _⟩,ah rfl⟩;by_cases d:a.1.1=2
  ·obtain⟨j,rfl,P⟩:=ad d;have y:a.2.2=[]:=bH (g.2.2.2.2 (by show a.1.1≠4;omega));refine(Gy u q room B z t j a.1.2.2 s C F P G).mono ?_;rintro f e ⟨rfl,v⟩;refine⟨((2,0,a.1.2.2),(none,0),[]),rfl,v,I e 2 0 _ (by unfold dn;omega) (by unfold dn;omega) G,ah rfl,?_⟩;have N:a.1.2.1=0:=g.2.1 d;simp[ax,d,N,y,aC]
  ·by_cases h:a.1.1=4
   ·obtain⟨k,rfl,Q,R,T⟩:=ae h;refine(JJ n ih u q room B z t k a.2.2.length a.2.2 rfl s C S V F Q R T (λm i=>aT n a m H i)).mono ?_;rintro f e ⟨K,L,l,rfl,J⟩;obtain⟨W,X,Y,Z,aa,c⟩:=J.out;have O:a.1.2.1=0:=g.2.2.1 h;have w:a.1.2.2.toList=[]:=g.1 d;refine⟨((4,0,.empty),(K,L),l),by rw[<-X];rfl,W,⟨⟨by unfold dn;show (-9223372036854775808:Int)<=4/\(4:Int)<=9223372036854775807;omega,by unfold dn;show (-9223372036854775808:Int)<=0/\(0:Int)<=9223372036854775807;omega,by unfold maxLen;show (0:Nat)<=_;omega,Y,Z⟩,?_⟩,?_,?_⟩
    ·rcases c with c|⟨b,o,f,D,E,c⟩
     ·exact ah c
     ·exact ai ⟨b,o,f,E,λj m i=>⟨(c j m i).1,(c j m i).2.1⟩⟩
    ·rcases c with c|⟨b,o,f,D,E,c⟩
     ·exact ah c
     ·exact ai ⟨b,o,f,D.1,λj m i=>(c j m i).2.2⟩
    ·simp only[ax];rw[h,O,w,aa];simp
   ·have U:=ab d h;subst U;have y:a.2.2=[]:=bH (g.2.2.2.2 h);have w:a.1.2.2.toList=[]:=g.1 d;refine(Gz q a.1.1 a.1.2.1 s d h).mono ?_;rintro f e ⟨rfl,v⟩;refine⟨((a.1.1,a.1.2.1,.empty),(none,0),[]),rfl,v,I e _ _ _ ?_ ?_ (by show (0:Nat)<=_;omega),ah rfl,?_⟩
    ·exact(uf _ p).1
    ·exact(uf _ p).2
    ·simp only[ax];rw[w,y];simp[aC]
def cG(ws:List Wd)(nm:List ByteArray)(v:Wd):Bool:=
 if v.1=1 then qd v.2 (-1099511627776) 1099511627776 else if v.1=3 then qd v.2 1 99 else if v.1=2 then ui nm.length v.2 else if v.1=4 then fQ ws v.2 else false
def yh(k a:Int):Tm 1:=((k,a,.empty),(none,0),[])
theorem IK(k a:Int)(b:k=1\/k=3):bu 1 (yh k a)=if cv (bA 0 (yh k a))then 0 else 5:=by
 rcases b with rfl|rfl<;>simp[bu,yh,aw,pd,Cc,sz,mH,bA]<;>rfl
theorem FF(ws:List Wd)(nm:List ByteArray)(k a:Int)(b:k=1\/k=3):cv (bA 0 (yh k a))=cG ws nm (k,a):=by
 rcases b with rfl|rfl<;>simp[cv,yh,bA,cG]
theorem uX(i:cq)(ws:List Wd)(nm:List ByteArray)(k a:Int)(w:World)(d:k=1\/k=3)(j:dn a):am 99 #[.pointer (some ⟨i.b,i.o,none⟩),.agg #[ab k,ab a]] w λe w'=>e=.returned (.bool (cG ws nm (k,a)))/\aj w w':=by
 have f:Hid (∀c,am 51 #[.agg #[ab k,ab a,af .empty,ae none 0 0]] c λe w'=>e=.returned (ab (if cG ws nm (k,a)then 0 else 5))/\aj c w'):=by
  intro c;have g:=dD 1 (yh k a) c.heap.size c ⟨⟨by rcases d with rfl|rfl<;>simp[yh,dn],j,by simp[yh,maxLen],ak _,aE _⟩,ah rfl⟩ (ak _) (by simp[aw,yh]);rw[IK k a d,FF ws nm k a d]at g;exact g
 generalize cG ws nm (k,a)=l at*;cases l
 all_goals
  simp only[cI,oE,if_false]at f;rcases d with rfl|rfl
  all_goals
   go_enter Tryz.func99,Tryz.ntmps99;go_wp2_with fail;refine(f.out _).mono ?_;rintro e m ⟨rfl,h⟩;have HB:=ao h;clear h;go_wp2_with fail
   go_ret
   exact⟨rfl,((ap _ _).alloc (ak _) _).trans (HB.out.mono (by simp))⟩
theorem Bu(base:Nat)(d:cq)(room:Int)(ws:List Wd)(nm:List ByteArray)(M:Nat->Prop)(a:Int)(w:World)(j:Hid (dA base d room ws nm M w)):am 99 #[.pointer (some ⟨d.b,d.o,none⟩),.agg #[ab 2,ab a]] w λe w'=>e=.returned (.bool (ui nm.length a))/\aj w w':=by
 have k:Hid (∀wA,aj w wA->am 131 #[.pointer (some ⟨d.b,d.o+2,none⟩),ab a] wA λe w'=>e=.returned (.bool (ui nm.length a))/\w'=wA):=by
  intro wA p;obtain⟨s,q,r,m,y,n,_⟩:=j.out.later p;obtain⟨g,h,rfl⟩:∃g h,q=ae g nm.length h:=by
   rcases n.1.2 with⟨e,l⟩|⟨x,c,u,e,_⟩
   ·exact⟨none,0,by rw[e,l]⟩
   ·exact⟨_,c,e⟩
  exact KU d room s g nm.length h r a wA m
 clear j;generalize ui nm.length a=t at*;go_enter Tryz.func99,Tryz.ntmps99;go_wp2_with fail;generalize f:w.alloc (Obj.cells #[Value.int IntKind.i64 2,Value.int IntKind.i64 a] 105)=wA;have i:Hid (aj w wA.drew):=by subst f;exact((ap _ _).alloc (ak _) _).drew
 have v:wA.cell? ⟨w.heap.size,1,none⟩=some (ab a):=by subst f;simp[go_sem]
 clear f;go_region_held3 (λw'=>w'.cell? ⟨w.heap.size,1,none⟩=some (ab a)) (go_keep) ((go_at_call 131;refine(k.out _ i.out).mono ?_;rintro e z ⟨rfl,rfl⟩));go_wp2_with fail
 go_ret
 exact⟨rfl,i.out⟩
theorem Dm(base:Nat)(a:cq)(room:Int)(ws:List Wd)(nm:List ByteArray)(M:Nat->Prop)(g:Int)(w:World)(l:Hid (dA base a room ws nm M w))(t:ws.length<=100000):am 99 #[.pointer (some ⟨a.b,a.o,none⟩),.agg #[ab 4,ab g]] w λe w'=>e=.returned (.bool (fQ ws g))/\aj w w':=by
 obtain⟨d,f,s,k,p⟩:∃d f,a.b<w.heap.size/\w.cell? ⟨a.b,a.o+1,none⟩=some (ae d ws.length f)/\Hid (∀wA,aj w wA->am 132 #[ae d ws.length f,ab g] wA λe w'=>e=.returned (.bool (fQ ws g))/\w'=wA):=by
  obtain⟨u,B,C,m,n,A,_⟩:=l.out;obtain⟨d,f,rfl⟩:∃d f,u=ae d ws.length f:=by
   rcases n.2 with⟨e,q⟩|⟨z,c,x,e,_⟩
   ·exact⟨none,0,by rw[e,q]⟩
   ·exact⟨_,c,e⟩
  exact⟨d,f,m.lt,m.cells.1.2.1,λwA r=>B6 base d ws.length f ws g wA rfl t (dJ n r)⟩
 clear l;generalize fQ ws g=v at*;generalize ws.length=j at*;go_enter Tryz.func99,Tryz.ntmps99;go_wp2_with fail;generalize i:w.alloc (Obj.cells #[Value.int IntKind.i64 4,Value.int IntKind.i64 g] 105)=wA;have h:Hid (aj w wA.drew):=by subst i;exact((ap _ _).alloc (ak _) _).drew
 have y:wA.cell? ⟨w.heap.size,1,none⟩=some (ab g):=by subst i;simp[go_sem]
 replace k:wA.cell? ⟨a.b,a.o+1,none⟩=some (ae d j f):=(aq h.out a.b (a.o+1) s).trans k;clear i;go_region_held3 (λw'=>w'.cell? ⟨w.heap.size,1,none⟩=some (ab g)/\w'.cell? ⟨a.b,a.o+1,none⟩=some (ae d j f)) (go_keep) ((go_at_call 132;refine(p.out _ h.out).mono ?_;rintro e D ⟨rfl,rfl⟩));go_wp2_with fail
 go_ret
 exact⟨rfl,h.out⟩
theorem Bv(a:cq)(k h:Int)(w:World)(c:¬k=1)(d:¬k=2)(f:¬k=3)(g:¬k=4):am 99 #[.pointer (some ⟨a.b,a.o,none⟩),.agg #[ab k,ab h]] w λe w'=>e=.returned (.bool false)/\aj w w':=by
 have i:(k==1)=false:=by simpa using c
 have j:(k==2)=false:=by simpa using d
 have l:(k==3)=false:=by simpa using f
 have m:(k==4)=false:=by simpa using g
 go_enter Tryz.func99,Tryz.ntmps99;go_wp2_with fail
 go_ret
 exact⟨rfl,by go_grown⟩
theorem uW(base:Nat)(c:cq)(room:Int)(ws:List Wd)(nm:List ByteArray)(M:Nat->Prop)(v:Wd)(w:World)(i:dA base c room ws nm M w)(l:ws.length<=100000)(j:dn v.2):am 99 #[.pointer (some ⟨c.b,c.o,none⟩),G4 v] w λe w'=>e=.returned (.bool (cG ws nm v))/\aj w w':=by
 obtain⟨k,a⟩:=v;by_cases d:k=1
 ·exact uX c ws nm k a w (ah d) j
 ·by_cases g:k=3
  ·exact uX c ws nm k a w (ai g) j
  ·by_cases f:k=2
   ·subst f;have e:cG ws nm (2,a)=ui nm.length a:=by simp[cG]
    rw[e];exact Bu base c room ws nm M a w i
   ·by_cases h:k=4
    ·subst h;have e:cG ws nm (4,a)=fQ ws a:=by simp[cG]
     rw[e];exact Dm base c room ws nm M a w i l
    ·have e:cG ws nm (k,a)=false:=by simp[cG,d,f,g,h]
     rw[e];exact Bv c k a w d f g h
theorem xC(base:Nat)(j:cq)(room:Int)(ws:List Wd)(nm:List ByteArray)(M:Nat->Prop)(vs:List Wd)(a:Option Addr)(len pc:Nat)(w:World)(r:Hid (dA base j room ws nm M w))(D:ws.length<=100000)(y:Hid (vs.length=len))(I:len<=100000)(x:Hid (ez w vs a))(u:Hid (∀v∈vs,dn v.2)):am 176 #[.pointer (some ⟨j.b,j.o,none⟩),ae a len pc] w λe w'=>e=.returned (.bool (vs.all (cG ws nm)))/\aj w w':=by
 go_enter Tryz.func176,Tryz.ntmps176;go_wp2_with fail;go_loopw [9] (λg wr=>∃k:Nat,k<=len/\g=ab k/\Hid (aj w wr/\(vs.take k).all (cG ws nm)=true)) (λg _=>len-(intOf g).toNat)
 case atStart=>exact⟨0,by omega,rfl,ap _ _,by simp⟩
 case round=>
  obtain⟨k,F,rfl,c⟩:=hrel;by_cases C:k<len
  ·obtain⟨v,f⟩:∃v,vs[k]?=some v:=⟨vs[k]'(by rw[y.out];exact C),aH _⟩;obtain⟨b,o,rfl,t,z⟩:∃b o,a=some ⟨b,o,none⟩/\b<w.heap.size/\∀(g:Nat)(v:Wd),vs[g]?=some v->w.cell? ⟨b,o+g*2,none⟩=some (ab v.1)/\w.cell? ⟨b,o+g*2+1,none⟩=some (ab v.2):=by
    rcases x.out with e|e
    ·rw[e]at f;simp at f
    ·exact e
   obtain⟨p,q⟩:=z k v f;replace p:=(aq c.out.1 b (o+k*2) t).trans p;replace q:=(aq c.out.1 b (o+k*2+1) t).trans q
   have h:Hid (∀(d:World),aj wr d->am 99 #[.pointer (some ⟨j.b,j.o,none⟩),.agg #[ab v.1,ab v.2]] d λe w'=>e=.returned (.bool (cG ws nm v))/\aj d w'):=
    λd B=>uW base j room ws nm _ v d (r.out.later (c.out.1.trans (B.mono c.out.1.size))) D (u.out v (aG f))
   have i:Hid ((cG ws nm v=true->(vs.take (k+1)).all (cG ws nm)=true)/\(cG ws nm v=false->vs.all (cG ws nm)=false)):=by
    refine⟨λe=>?_,λe=>?_⟩
    ·rw[dz,f,kh,c.out.2];simp[e]
    ·cases ha:vs.all (cG ws nm)
     ·rfl
     ·rw[b9]at ha;rw[ha v (aG f)]at e;exact e
   have m:Hid (aj w wr):=c.out.1;clear f z x r u c;have G:(0:Int)<=(k:Int):=by omega
   have H:(k:Int)<(len:Int):=by omega
   have E:=m.out.size;have J:b<wr.heap.size:=by omega
   clear E;cases hsb:cG ws nm v
   ·rw[hsb]at h;replace i:=ao (i.out.2 hsb);clear hsb;go_wp2_with fail;refine(h.out _ ((ap _ _).alloc (ak _) _)).mono ?_;rintro e d ⟨rfl,n⟩;have l:Hid (aj w d):=m.out.trans ((((ap _ _).alloc (ak _) _).trans (n.mono (by simp))).mono m.out.size);clear n p q h;go_wp2_with fail
    go_ret
    exact⟨fB i.out.symm,l.out⟩
   ·rw[hsb]at h;replace i:=ao (i.out.1 hsb);clear hsb;go_wp2_with fail;refine(h.out _ ((ap _ _).alloc (ak _) _)).mono ?_;rintro e d ⟨rfl,n⟩;have l:Hid (aj w d):=m.out.trans ((((ap _ _).alloc (ak _) _).trans (n.mono (by simp))).mono m.out.size);clear n p q h;go_wp2_with fail;go_roundw
    case rel=>exact⟨k+1,by omega,by go_num,l.out,i.out⟩
    case measure=>simp[intOf];omega
  ·have A:Hid (vs.all (cG ws nm)=true):=by
     have s:=c.out.2;rw[bC (by have:=y.out;omega)]at s;exact s
   have l:Hid (aj w wr):=c.out.1;clear c;go_wp2_with fail
   go_ret
   exact⟨fB A.out.symm,l.out⟩
def lm(q:Nat)(k b:Int)(s:ByteArray)(a:Option Addr)(l c:Nat)(w:World):Prop:=
 w.heap[q]?=some (.cells #[ab k,ab b,af s,ae a l c] 30)/\w.heap[q+1]?=some (.cells #[ab 0,ab 0] 105)
theorem tu(w:World)(k b:Int)(s:ByteArray)(a:Option Addr)(l c:Nat):lm w.heap.size k b s a l c ((w.alloc (Obj.cells #[ab k,ab b,af s,ae a l c] 30)).alloc (Obj.cells #[ab 0,ab 0] 105)):=by
 refine⟨((cZ (w.alloc (Obj.cells #[ab k,ab b,af s,ae a l c] 30)) (Obj.cells #[ab 0,ab 0] 105) none).block _ (by simp) (by simp)).trans (aB w _),?_⟩;have:=aB (w.alloc (Obj.cells #[ab k,ab b,af s,ae a l c] 30)) (Obj.cells #[ab 0,ab 0] 105);have es:∀o,(w.alloc o).heap.size=w.heap.size+1:=λo=>by simp
 rw[es]at this;exact this
theorem lm.facts{q:Nat}{k b:Int}{s:ByteArray}{a:Option Addr}{l c:Nat}{w:World}(d:lm q k b s a l c w):(w.cell? ⟨q,0,none⟩=some (ab k)/\w.cell? ⟨q,1,none⟩=some (ab b)/\w.cell? ⟨q,2,none⟩=some (af s)/\w.cell? ⟨q,3,none⟩=some (ae a l c))/\(w.cell? ⟨q+1,0,none⟩=some (ab 0)/\w.cell? ⟨q+1,1,none⟩=some (ab 0))/\w.frozen? ⟨q+1,0,none⟩=false/\w.frozen? ⟨q+1,1,none⟩=false:=by
 obtain⟨e,f⟩:=d;refine⟨⟨?_,?_,?_,?_⟩,⟨?_,?_⟩,?_,?_⟩
 all_goals simp[World.cell?,World.frozen?,e,f]
theorem fA{k f:Int}{s:ByteArray}{a:Option Addr}{l c:Nat}{w w1 w2:World}(g:aj w w1/\w.heap.size+2<=w1.heap.size/\lm w.heap.size k f s a l c w1)(b:aj w1 w2):aj w w2/\w.heap.size+2<=w2.heap.size/\lm w.heap.size k f s a l c w2:=by
 obtain⟨d,h,e⟩:=g;have:=b.size;exact⟨d.trans (b.mono d.size),by omega,(b.block _ (by omega)).trans e.1,(b.block _ (by omega)).trans e.2⟩
theorem pH{k j:Int}{s:ByteArray}{a:Option Addr}{l c:Nat}{w w1:World}(d:aj w w1/\w.heap.size+2<=w1.heap.size/\lm w.heap.size k j s a l c w1)(v0 v1:Value):aj w ((w1.setCell ⟨w.heap.size+1,0,none⟩ v0).setCell ⟨w.heap.size+1,1,none⟩ v1):=by
 obtain⟨f,m,n⟩:=d;have h:=bk w1 (w.heap.size+1) 0 v0;have i:=bk (w1.setCell ⟨w.heap.size+1,0,none⟩ v0) (w.heap.size+1) 1 v1;have e:=(aX f (λb=>b=w.heap.size+1)).trans (h.trans i (λb _ d=>d)) (λb _ d=>d);exact⟨e.os,e.tape,e.output,e.size,λb g=>e.block b g (by omega)⟩
theorem MY(m:cq)(k f:Int)(s:ByteArray)(a:Option Addr)(l c:Nat)(w:World)(d:Int)(x:(d !=0)=true)(p:Hid (∀w1,aj w w1->am 51 #[.agg #[ab k,ab f,af s,ae a l c]] w1 λe w'=>e=.returned (ab d)/\aj w1 w')):am 66 #[.pointer (some ⟨m.b,m.o,none⟩),.agg #[ab k,ab f,af s,ae a l c]] w λe w'=>e=.returned (.tuple #[.agg #[ab 0,ab 0],ab d])/\aj w w':=by
 go_enter Tryz.func66,Tryz.ntmps66;go_wp2_with fail;generalize n:(w.alloc (Obj.cells #[ab k,ab f,af s,ae a l c] 30)).alloc (Obj.cells #[ab 0,ab 0] 105)=h;have g:Hid (aj w h/\w.heap.size+2<=h.heap.size/\lm w.heap.size k f s a l c h):=by
  subst n;exact⟨((ap _ _).alloc (ak _) _).alloc (by simp) _,by simp,tu _ _ _ _ _ _ _⟩
 clear n;refine(p.out _ g.out.1).mono ?_;rintro e w1 ⟨rfl,j⟩;have i:=ao (fA g.out j);obtain⟨⟨y,z,A,B⟩,⟨q,r⟩,t,u⟩:=i.out.2.2.facts;clear j g;go_wp2_with fail;exact av (v:=.tuple #[.agg #[ab 0,ab 0],ab d]) (by simp[results,Tryz.results66,go_sem,q,r]) rfl ⟨rfl,pH i.out _ _⟩
theorem MZ(r:cq)(k f:Int)(s:ByteArray)(a:Option Addr)(l c:Nat)(w:World)(A:Hid (∀w1,aj w w1->am 51 #[.agg #[ab k,ab f,af s,ae a l c]] w1 λe w'=>e=.returned (ab 0)/\aj w1 w'))(B:Hid (∀w1,aj w w1->am 52 #[.agg #[ab k,ab f,af s,ae a l c]] w1 λe w'=>e=.returned (.bool false)/\aj w1 w')):am 66 #[.pointer (some ⟨r.b,r.o,none⟩),.agg #[ab k,ab f,af s,ae a l c]] w λe w'=>e=.returned (.tuple #[.agg #[ab 0,ab 0],ab 5])/\aj w w':=by
 go_enter Tryz.func66,Tryz.ntmps66;go_wp2_with fail;generalize t:(w.alloc (Obj.cells #[ab k,ab f,af s,ae a l c] 30)).alloc (Obj.cells #[ab 0,ab 0] 105)=m;have h:Hid (aj w m/\w.heap.size+2<=m.heap.size/\lm w.heap.size k f s a l c m):=by
  subst t;exact⟨((ap _ _).alloc (ak _) _).alloc (by simp) _,by simp,tu _ _ _ _ _ _ _⟩
 clear t;refine(A.out _ h.out.1).mono ?_;rintro e w1 ⟨rfl,d⟩;have g:=ao (fA h.out d);obtain⟨⟨u,x,y,z⟩,⟨i,j⟩,p,q⟩:=g.out.2.2.facts;clear d h;go_wp2_with fail;clear u x y z i j p q;refine(B.out _ g.out.1).mono ?_;rintro e C ⟨rfl,d⟩;have n:=ao (fA g.out d);obtain⟨⟨u,x,y,z⟩,⟨i,j⟩,p,q⟩:=n.out.2.2.facts;clear d g;go_wp2_with fail;exact av (v:=.tuple #[.agg #[ab 0,ab 0],ab 5]) (by simp[results,Tryz.results66,go_sem,i,j]) rfl ⟨rfl,pH n.out _ _⟩
theorem M0(x:cq)(k q:Int)(s:ByteArray)(a:Option Addr)(l c:Nat)(w:World)(C:Int)(D:Hid (∀w1,aj w w1->am 51 #[.agg #[ab k,ab q,af s,ae a l c]] w1 λe w'=>e=.returned (ab 0)/\aj w1 w'))(F:Hid (∀w1,aj w w1->am 52 #[.agg #[ab k,ab q,af s,ae a l c]] w1 λe w'=>e=.returned (.bool true)/\aj w1 w'))(G:Hid (∀w1,aj w w1->am 81 #[.agg #[ab k,ab q,af s,ae a l c]] w1 λe w'=>e=.returned (ab C)/\aj w1 w'))(E:Hid (∀w1,aj w w1->am 97 #[.pointer (some ⟨x.b,x.o,none⟩),ab C] w1 λe w'=>e=.returned (.bool false)/\aj w1 w')):am 66 #[.pointer (some ⟨x.b,x.o,none⟩),.agg #[ab k,ab q,af s,ae a l c]] w λe w'=>e=.returned (.tuple #[.agg #[ab 0,ab 0],ab 6])/\aj w w':=by
 go_enter Tryz.func66,Tryz.ntmps66;go_wp2_with fail;generalize B:(w.alloc (Obj.cells #[ab k,ab q,af s,ae a l c] 30)).alloc (Obj.cells #[ab 0,ab 0] 105)=z;have y:Hid (aj w z/\w.heap.size+2<=z.heap.size/\lm w.heap.size k q s a l c z):=by
  subst B;exact⟨((ap _ _).alloc (ak _) _).alloc (by simp) _,by simp,tu _ _ _ _ _ _ _⟩
 clear B;refine(D.out _ y.out.1).mono ?_;rintro e w1 ⟨rfl,d⟩;have r:=ao (fA y.out d);obtain⟨⟨j,m,n,p⟩,⟨f,g⟩,h,i⟩:=r.out.2.2.facts;clear d y;go_wp2_with fail;clear j m n p f g h i;refine(F.out _ r.out.1).mono ?_;rintro e H ⟨rfl,d⟩;have t:=ao (fA r.out d);obtain⟨⟨j,m,n,p⟩,⟨f,g⟩,h,i⟩:=t.out.2.2.facts;clear d r;go_wp2_with fail;clear j m n p f g h i;refine(G.out _ t.out.1).mono ?_;rintro e I ⟨rfl,d⟩;have u:=ao (fA t.out d);obtain⟨⟨j,m,n,p⟩,⟨f,g⟩,h,i⟩:=u.out.2.2.facts;clear d t;go_wp2_with fail;clear j m n p f g h i;refine(E.out _ u.out.1).mono ?_;rintro e J ⟨rfl,d⟩;have A:=ao (fA u.out d);obtain⟨⟨j,m,n,p⟩,⟨f,g⟩,h,i⟩:=A.out.2.2.facts;clear d u;go_wp2_with fail;exact av (v:=.tuple #[.agg #[ab 0,ab 0],ab 6]) (by simp[results,Tryz.results66,go_sem,f,g]) rfl ⟨rfl,pH A.out _ _⟩
theorem M1(i:cq)(k t:Int)(s:ByteArray)(a:Option Addr)(l c:Nat)(w:World)(E:Int)(V:Wd)(base:Nat)(room:Int)(ws:List Wd)(nm:List ByteArray)(M:Nat->Prop)(F:Hid (∀w1,aj w w1->am 51 #[.agg #[ab k,ab t,af s,ae a l c]] w1 λe w'=>e=.returned (ab 0)/\aj w1 w'))(I:Hid (∀w1,aj w w1->am 52 #[.agg #[ab k,ab t,af s,ae a l c]] w1 λe w'=>e=.returned (.bool true)/\aj w1 w'))(J:Hid (∀w1,aj w w1->am 81 #[.agg #[ab k,ab t,af s,ae a l c]] w1 λe w'=>e=.returned (ab E)/\aj w1 w'))(H:Hid (∀w1,aj w w1->am 97 #[.pointer (some ⟨i.b,i.o,none⟩),ab E] w1 λe w'=>e=.returned (.bool true)/\aj w1 w'))(K:Hid (∀w1,aj w w1->am 98 #[.pointer (some ⟨i.b,i.o,none⟩),.agg #[ab k,ab t,af s,ae a l c]] w1 λe w'=>e=.returned (.agg #[ab V.1,ab V.2])/\Hid (lD base i room ws nm (λb=>M b/\b<w.heap.size) w1 w'))):am 66 #[.pointer (some ⟨i.b,i.o,none⟩),.agg #[ab k,ab t,af s,ae a l c]] w λe w'=>e=.returned (.tuple #[.agg #[ab V.1,ab V.2],ab 0])/\Hid (lD base i room ws nm M w w'):=by
 go_enter Tryz.func66,Tryz.ntmps66;go_wp2_with fail;generalize D:(w.alloc (Obj.cells #[ab k,ab t,af s,ae a l c] 30)).alloc (Obj.cells #[ab 0,ab 0] 105)=C;have A:Hid (aj w C/\w.heap.size+2<=C.heap.size/\lm w.heap.size k t s a l c C):=by
  subst D;exact⟨((ap _ _).alloc (ak _) _).alloc (by simp) _,by simp,tu _ _ _ _ _ _ _⟩
 clear D;refine(F.out _ A.out.1).mono ?_;rintro e w1 ⟨rfl,d⟩;have x:=ao (fA A.out d);obtain⟨⟨n,p,q,r⟩,⟨j,m⟩,g,h⟩:=x.out.2.2.facts;clear d A;go_wp2_with fail;clear n p q r j m g h;refine(I.out _ x.out.1).mono ?_;rintro e P ⟨rfl,d⟩;have y:=ao (fA x.out d);obtain⟨⟨n,p,q,r⟩,⟨j,m⟩,g,h⟩:=y.out.2.2.facts;clear d x;go_wp2_with fail;clear n p q r j m g h;refine(J.out _ y.out.1).mono ?_;rintro e Q ⟨rfl,d⟩;have z:=ao (fA y.out d);obtain⟨⟨n,p,q,r⟩,⟨j,m⟩,g,h⟩:=z.out.2.2.facts;clear d y;go_wp2_with fail;clear n p q r j m g h;refine(H.out _ z.out.1).mono ?_;rintro e R ⟨rfl,d⟩;have f:=ao (fA z.out d);obtain⟨⟨n,p,q,r⟩,⟨j,m⟩,g,h⟩:=f.out.2.2.facts;clear d z;go_wp2_with fail;refine(K.out _ f.out.1).mono ?_;rintro e S ⟨rfl,B⟩;have u:=ur B.out;have L:=(u (w.heap.size+1) (by omega) (by have:=f.out.2.1;omega) 0).1.trans j;have d1:=(u (w.heap.size+1) (by omega) (by have:=f.out.2.1;omega) 1).1.trans m;have N:=(u (w.heap.size+1) (by omega) (by have:=f.out.2.1;omega) 0).2.trans g;have O:=(u (w.heap.size+1) (by omega) (by have:=f.out.2.1;omega) 1).2.trans h;have G:=ao (Ax B.out f.out.1 f.out.2.1 (ab V.1) (ab V.2));clear u n p q r j m g h B;go_wp2_with fail;exact av (v:=.tuple #[.agg #[ab V.1,ab V.2],ab 0]) (by simp[results,Tryz.results66,go_sem,L,d1]) rfl ⟨rfl,G.out⟩
theorem uH:(n:Nat)->(x:Tm n)->az ⟨n,x⟩->((aw n x).length:Int)<=sz n x+1
 | 0,_,_=>by simp[aw,sz]
 | n+1,x,h=>by
  have c:=eq (bA n x) (h (bA n x) (by simp[aw,bA]));by_cases a:x.1.1=4
  ·have key:∀l:List (Tm n),(∀y∈l,az ⟨n,y⟩)->((l.flatMap λy=>aw n y).length:Int)<=(l.map λy=>1+sz n y).sum:=by
     intro l
     induction l with
     | nil=>intro _;simp
     | cons y l ih=>
      intro b;have g:=uH n y (b y (by simp));have i:=ih (λf e=>b f (by simp[e]));simp only[bB,bj,aK,bv];omega
   have k:=key x.2.2 (λy d=>aT n x y h d);simp only[aw,aZ,sz,if_pos a];omega
  ·have:x.2.2=[]:=bH (c.2.2.2.2 a);simp[aw,this,sz,a]
theorem Hq{n:Nat}{x:Tm n}(a:bu n x=0):bV n x=true:=by
 rw[<-gf]at a;unfold vJ at a;cases hf:bV n x
 ·simp[hf]at a
 ·rfl
def jx(n:Nat)(x:Tm n)(room:Int)(ws:List Wd):Int:=if bu n x≠0 then bu n x else if aJ n x=false then 5 else if decide (sz n x<=room-ws.length)=false then 6 else 0
def G7(n:Nat)(x:Tm n)(base:Nat)(a:cq)(room:Int)(ws:List Wd)(nm:List ByteArray)(M:Nat->Prop)(w:World)(e:Ending)(w':World):Prop:=
 (jx n x room ws≠0->e=.returned (.tuple #[G4 (0,0),ab (jx n x room ws)])/\aj w w')/\
 (jx n x room ws=0->(bu n x=0/\aJ n x=true/\sz n x<=room-ws.length)/\e=.returned (.tuple #[G4 (aU n x ws nm).1,ab 0])/\lD base a room (aU n x ws nm).2.1 (aU n x ws nm).2.2 M w w')
theorem uj(n:Nat)(x:Tm n)(base:Nat)(e:cq)(room:Int)(ws:List Wd)(nm:List ByteArray)(M:Nat->Prop)(w:World)(A:dA base e room ws nm M w)(m:In w.heap.size w n x)(G:bZ (λb=>¬M b) n x)(B:(aw n x).length<=2097152)(S:base<=w.heap.size)(I:0<=room)(H:room<=1000)(V:ws.length<=1000)(T:nm.length<=50000):am 66 #[.pointer (some ⟨e.b,e.o,none⟩),dj n x] w (G7 n x base e room ws nm M w):=by
 cases n with
 | zero=>exact m.elim
 | succ n=>
 have k:∀a,aj w a->am 51 #[dj (n+1) x] a λd g=>d=.returned (ab (bu (n+1) x))/\aj a g:=λa f=>dD (n+1) x w.heap.size a (m.below f) f.size B;have l:∀a,aj w a->am 52 #[dj (n+1) x] a λd g=>d=.returned (.bool (aJ (n+1) x))/\aj a g:=λa f=>iu (n+1) x w.heap.size a (m.below f) f.size;have z:∀a,aj w a->am 81 #[dj (n+1) x] a λd g=>d=.returned (ab (sz (n+1) x))/\aj a g:=λa f=>xj (n+1) x w.heap.size a (m.below f) f.size B;have q:∀a,aj w a->am 97 #[.pointer (some ⟨e.b,e.o,none⟩),ab (sz (n+1) x)] a λd g=>d=.returned (.bool (decide (sz (n+1) x<=room-ws.length)))/\aj a g:=by
  intro a f;obtain⟨P,N,O,K,L,W,_⟩:=A.later f;obtain⟨v,y,rfl⟩:∃v y,P=ae v ws.length y:=by
   rcases L.2 with⟨d,E⟩|⟨R,c,Q,d,_⟩
   ·exact⟨none,0,by rw[d,E]⟩
   ·exact⟨_,c,d⟩
  exact Aq e room (sz (n+1) x) v ws.length y N O a (by omega) I H K
 by_cases i:bu (n+1) x=0
 ·rw[i]at k;by_cases u:aJ (n+1) x=false
  ·rw[u]at l;have d:jx (n+1) x room ws=5:=by simp[jx,i,u]
   refine(MZ e x.1.1 x.1.2.1 x.1.2.2 x.2.1.1 x.2.2.length x.2.1.2 w k l).mono ?_;rintro s g ⟨rfl,h⟩;exact⟨λ_=>⟨by rw[d];rfl,h⟩,λj=>absurd (d.symm.trans j) (by decide)⟩
  ·have r:aJ (n+1) x=true:=by simpa using u
   rw[r]at l;by_cases p:sz (n+1) x<=room-ws.length
   ·have t:decide (sz (n+1) x<=room-ws.length)=true:=by simpa using p
    rw[t]at q;have d:jx (n+1) x room ws=0:=by simp[jx,i,r,p]
    have C:az ⟨n+1,x⟩:=aL.2 (Hq i);have U:=uH (n+1) x C;have D:∀a,aj w a->am 98 #[.pointer (some ⟨e.b,e.o,none⟩),dj (n+1) x] a λd g=>d=.returned (G4 (aU (n+1) x ws nm).1)/\Hid (lD base e room (aU (n+1) x ws nm).2.1 (aU (n+1) x ws nm).2.2 (λb=>M b/\b<w.heap.size) a g):=by
     intro a f;have J:=f.size;exact K6 (n+1) x base e room ws nm _ a (A.later f) ((m.below f).mono J) (G.mono λb h F=>h F.1) (by omega) C (by omega) (by omega)
    refine(M1 e x.1.1 x.1.2.1 x.1.2.2 x.2.1.1 x.2.2.length x.2.1.2 w (sz (n+1) x) (aU (n+1) x ws nm).1 base room (aU (n+1) x ws nm).2.1 (aU (n+1) x ws nm).2.2 M k l z q D).mono ?_;rintro s g ⟨rfl,h⟩;exact⟨λj=>absurd d j,λ_=>⟨⟨i,r,p⟩,rfl,h.out⟩⟩
   ·have t:decide (sz (n+1) x<=room-ws.length)=false:=by simpa using p
    rw[t]at q;have d:jx (n+1) x room ws=6:=by simp[jx,i,r,p]
    refine(M0 e x.1.1 x.1.2.1 x.1.2.2 x.2.1.1 x.2.2.length x.2.1.2 w (sz (n+1) x) k l z q).mono ?_;rintro s g ⟨rfl,h⟩;exact⟨λ_=>⟨by rw[d];rfl,h⟩,λj=>absurd (d.symm.trans j) (by decide)⟩
 ·have d:jx (n+1) x room ws=bu (n+1) x:=by simp[jx,i]
  refine(MY e x.1.1 x.1.2.1 x.1.2.2 x.2.1.1 x.2.2.length x.2.1.2 w (bu (n+1) x) (by simpa using i) k).mono ?_;rintro s g ⟨rfl,h⟩;exact⟨λ_=>⟨by rw[d];rfl,h⟩,λj=>absurd (d.symm.trans j) i⟩
def pw(q:Nat)(k a:Int)(w:World):Prop:=w.heap[q]?=some (.cells #[ab k,ab a] 105)/\qi (q+1) w
theorem Ec(w:World)(k a:Int):pw w.heap.size k a ((w.alloc (Obj.cells #[ab k,ab a] 105)).alloc (Obj.cells #[ab 0,ab 0,af ⟨#[]⟩,ae none 0 0] 30)):=by
 refine⟨((cZ (w.alloc (Obj.cells #[ab k,ab a] 105)) (Obj.cells #[ab 0,ab 0,af ⟨#[]⟩,ae none 0 0] 30) none).block _ (by simp) (by simp)).trans (aB w _),?_⟩;have:=aB (w.alloc (Obj.cells #[ab k,ab a] 105)) (Obj.cells #[ab 0,ab 0,af ⟨#[]⟩,ae none 0 0] 30);have es:∀o,(w.alloc o).heap.size=w.heap.size+1:=λo=>by simp
 rw[es]at this;exact this
theorem ue{k d:Int}{w w1 w2:World}(e:aj w w1/\w.heap.size+2<=w1.heap.size/\pw w.heap.size k d w1)(a:aj w1 w2):aj w w2/\w.heap.size+2<=w2.heap.size/\pw w.heap.size k d w2:=by
 obtain⟨b,f,c⟩:=e;have:=a.size;exact⟨b.trans (a.mono b.size),by omega,(a.block _ (by omega)).trans c.1,(a.block _ (by omega)).trans c.2⟩
theorem pw.cells{q:Nat}{k a:Int}{w:World}(b:pw q k a w):w.cell? ⟨q,0,none⟩=some (ab k)/\w.cell? ⟨q,1,none⟩=some (ab a):=by
 obtain⟨c,_⟩:=b;refine⟨?_,?_⟩
 all_goals simp[World.cell?,c]
theorem N1(c:cq)(k d:Int)(w:World)(j:Hid (∀w1,aj w w1->am 99 #[.pointer (some ⟨c.b,c.o,none⟩),.agg #[ab k,ab d]] w1 λe w'=>e=.returned (.bool false)/\aj w1 w')):am 68 #[.pointer (some ⟨c.b,c.o,none⟩),.agg #[ab k,ab d]] w λe w'=>e=.returned (.tuple #[.agg #[ab 0,ab 0,af .empty,ae none 0 0],ab 1])/\aj w w':=by
 go_enter Tryz.func68,Tryz.ntmps68;go_wp2_with fail;generalize h:(w.alloc (Obj.cells #[ab k,ab d] 105)).alloc (Obj.cells #[ab 0,ab 0,af ⟨#[]⟩,ae none 0 0] 30)=g;have a:Hid (aj w g/\w.heap.size+2<=g.heap.size/\pw w.heap.size k d g):=by
  subst h;exact⟨((ap _ _).alloc (ak _) _).alloc (by simp) _,by simp,Ec _ _ _⟩
 clear h;refine(j.out _ a.out.1).mono ?_;rintro e w1 ⟨rfl,f⟩;have i:=ao (ue a.out f);obtain⟨⟨m,n,p,q⟩,x⟩:=i.out.2.2.2.cells;have l:=ao (λr s t u=>xG a.out.1 f r s t u);clear f a;go_wp2_with fail;exact av (v:=.tuple #[.agg #[ab 0,ab 0,af .empty,ae none 0 0],ab 1]) (by simp[results,Tryz.results68,go_sem,m,n,p,q];rfl) rfl ⟨rfl,l.out _ _ _ _⟩
theorem MQ(n:Nat)(x:Tm (n+1))(c:cq)(k d:Int)(w:World)(A:Hid (∀w1,aj w w1->am 99 #[.pointer (some ⟨c.b,c.o,none⟩),.agg #[ab k,ab d]] w1 λe w'=>e=.returned (.bool true)/\aj w1 w'))(C:Hid (∀w1,aj w w1->am 100 #[.pointer (some ⟨c.b,c.o,none⟩),.agg #[ab k,ab d]] w1 λe w'=>∃y:Tm (n+1),e=.returned (dj (n+1) y)/\Hid (aj w1 w'/\In w'.heap.size w' (n+1) y/\bZ (λq=>w1.heap.size<=q) (n+1) y/\ax (n+1) y (n+1) x=true))):am 68 #[.pointer (some ⟨c.b,c.o,none⟩),.agg #[ab k,ab d]] w λe w'=>∃y:Tm (n+1),e=.returned (.tuple #[dj (n+1) y,ab 0])/\Hid (aj w w'/\In w'.heap.size w' (n+1) y/\bZ (λq=>w.heap.size<=q) (n+1) y/\ax (n+1) y (n+1) x=true):=by
 go_enter Tryz.func68,Tryz.ntmps68;go_wp2_with fail;generalize t:(w.alloc (Obj.cells #[ab k,ab d] 105)).alloc (Obj.cells #[ab 0,ab 0,af ⟨#[]⟩,ae none 0 0] 30)=m;have j:Hid (aj w m/\w.heap.size+2<=m.heap.size/\pw w.heap.size k d m):=by
  subst t;exact⟨((ap _ _).alloc (ak _) _).alloc (by simp) _,by simp,Ec _ _ _⟩
 clear t;refine(A.out _ j.out.1).mono ?_;rintro e w1 ⟨rfl,s⟩;have a:=ao (ue j.out s);obtain⟨L,M⟩:=a.out.2.2.cells;clear s j;go_wp2_with fail;refine(C.out _ a.out.1).mono ?_;rintro e p ⟨y,rfl,l⟩;have z:=ao (ue a.out l.out.1);obtain⟨⟨H,I,J,K⟩,N⟩:=z.out.2.2.2.cells;have B:Hid (∀f g h i,aj w (cJ p (w.heap.size+1) 0 f g h i)/\In (cJ p (w.heap.size+1) 0 f g h i).heap.size (cJ p (w.heap.size+1) 0 f g h i) (n+1) y/\bZ (λq=>w.heap.size<=q) (n+1) y/\ax (n+1) y (n+1) x=true):=by
  intro f g h i;obtain⟨E,F,u,G⟩:=l.out;have O:=a.out.2.1;refine⟨xG a.out.1 E f g h i,?_,u.mono λq D=>by omega,G⟩;rw[bm];exact In.off (λq D=>aV (by omega) _ _ _ _) u F
 have r:dj (n+1) y=.agg #[ab y.1.1,ab y.1.2.1,af y.1.2.2,ae y.2.1.1 y.2.2.length y.2.1.2]:=rfl;rw[r];clear L M l a r;go_wp2_with fail;exact av (v:=.tuple #[dj (n+1) y,ab 0]) (by simp[results,Tryz.results68,go_sem,H,I,J,K,dj]) rfl ⟨y,rfl,B.out _ _ _ _⟩
theorem C6{c:Type}{l b:List c}(d:l <+:b){i:Nat}{x:c}(a:l[i]?=some x):b[i]?=some x:=by
 obtain⟨e,rfl⟩:=d;rw[dk (aR.1 a).1];exact a
theorem dB.mono{ws l:List Wd}{nm k:List ByteArray}(d:ws <+:l)(j:nm <+:k):{n:Nat}->{x:Tm n}->{v:Wd}->dB ws nm n x v->dB l k n x v
 | 0,_,_,h=>h
 | n+1,x,v,h=>by
  obtain⟨a,b,c⟩:=h;refine⟨λe=>?_,λe=>?_,c⟩
  ·obtain⟨i,f,g⟩:=a e;exact⟨i,f,C6 j g⟩
  ·obtain⟨p,f,g,m,o⟩:=b e;refine⟨p,f,C6 d g,ay m d.length_le,λi y s=>?_⟩;obtain⟨t,q,r⟩:=o i y s;exact⟨t,C6 d q,r.mono d j⟩
theorem FP(nm:List ByteArray)(s:ByteArray):nm <+:ew nm s:=by
 unfold ew;split
 ·exact gi _
 ·exact oM _ _
theorem qD{n:Nat}(f:∀(x:Tm n)(ws:List Wd)(nm:List ByteArray),ws <+:(aU n x ws nm).2.1/\nm <+:(aU n x ws nm).2.2)(l:List (Tm n))(ws:List Wd)(nm:List ByteArray):ws <+:(bF (aU n) l ws nm).2.1/\nm <+:(bF (aU n) l ws nm).2.2:=by
 induction l generalizing ws nm with
 | nil=>exact⟨gi _,gi _⟩
 | cons a l ih=>
  obtain⟨d,b⟩:=f a ws nm;obtain⟨c,e⟩:=ih (aU n a ws nm).2.1 (aU n a ws nm).2.2;exact⟨d.trans c,b.trans e⟩
theorem lP:(n:Nat)->(x:Tm n)->(ws:List Wd)->(nm:List ByteArray)->ws <+:(aU n x ws nm).2.1/\nm <+:(aU n x ws nm).2.2
 | 0,_,_,_=>⟨gi _,gi _⟩
 | n+1,x,ws,nm=>by
  by_cases c:x.1.1=2
  ·simp only[aU,if_pos c];exact⟨gi _,FP _ _⟩
  ·by_cases d:x.1.1=4
   ·simp only[aU,if_neg c,if_pos d];obtain⟨a,b⟩:=qD (lP n) x.2.2 ws nm;exact⟨a.trans (oM _ _),b⟩
   ·simp only[aU,if_neg c,if_neg d];exact⟨gi _,gi _⟩
theorem I0(nm:List ByteArray)(s:ByteArray):(ew nm s)[kM (ew nm s) s]?=some s:=by
 have d:s∈ew nm s:=by
  unfold ew;split
  ·rename_i b;exact(yq nm s).1 b
  ·simp
 have a:kM (ew nm s) s<(ew nm s).length:=by
  unfold kM;rw[List.findIdx_lt_length];exact⟨s,d,(og s s).2 rfl⟩
 have c:(ew nm s)[kM (ew nm s) s]'a=s:=(og s _).1 (List.findIdx_getElem (w:=a));rw[aH a,c]
theorem nF{n:Nat}(j:∀(x:Tm n)(ws:List Wd)(nm:List ByteArray),az ⟨n,x⟩->dB (aU n x ws nm).2.1 (aU n x ws nm).2.2 n x (aU n x ws nm).1)(l:List (Tm n))(ws:List Wd)(nm:List ByteArray)(e:∀y∈l,az ⟨n,y⟩):∀(i:Nat)(y:Tm n),l[i]?=some y->∃d,(bF (aU n) l ws nm).1[i]?=some d/\dB (bF (aU n) l ws nm).2.1 (bF (aU n) l ws nm).2.2 n y d:=by
 induction l generalizing ws nm with
 | nil=>intro i y a;simp at a
 | cons c l ih=>
  intro i y a;cases i with
  | zero=>
   simp at a;subst a;obtain⟨f,b⟩:=qD (lP n) l (aU n c ws nm).2.1 (aU n c ws nm).2.2;exact⟨(aU n c ws nm).1,rfl,(j c ws nm (e c (by simp))).mono f b⟩
  | succ i=>
   obtain⟨d,g,h⟩:=ih (aU n c ws nm).2.1 (aU n c ws nm).2.2 (λy a=>e y (by simp[a])) i y (by simpa using a);exact⟨d,by simpa [bF]using g,h⟩
theorem gF:(n:Nat)->(x:Tm n)->(ws:List Wd)->(nm:List ByteArray)->az ⟨n,x⟩->dB (aU n x ws nm).2.1 (aU n x ws nm).2.2 n x (aU n x ws nm).1
 | 0,_,_,_,h=>(dd h).elim
 | n+1,x,ws,nm,h=>by
  by_cases b:x.1.1=2
  ·have c:¬x.1.1=4:=by omega
   simp only[aU,if_pos b];exact⟨λ_=>⟨_,rfl,I0 _ _⟩,λa=>absurd a c,λa=>absurd b a⟩
  ·by_cases c:x.1.1=4
   ·simp only[aU,if_neg b,if_pos c];have j:=gG (aU n) x.2.2 ws nm;refine⟨λa=>absurd a b,λ_=>⟨_,rfl,?_,?_,λe f d=>?_⟩,λ_ a=>absurd c a⟩
    ·rw[ei (ak _),js];rfl
    ·simp only[bj,aZ,j];omega
    ·obtain⟨k,g,i⟩:=nF (gF n) x.2.2 ws nm (λf d=>aT n x f h d) e f d;refine⟨k,?_,i.mono (oM _ _) (gi _)⟩;rw[ei (by omega)];have:(bF (aU n) x.2.2 ws nm).2.1.length+1+e-(bF (aU n) x.2.2 ws nm).2.1.length=e+1:=by omega
     rw[this];simpa using g
   ·simp only[aU,if_neg b,if_neg c];exact⟨λa=>absurd a b,λa=>absurd a c,λ_ _=>rfl⟩
def zo(q:Nat)(w:World):Prop:=w.heap[q]?=some (.cells #[ab 0,ab 0] 105)
theorem zo.facts{q:Nat}{w:World}(a:zo q w):(w.cell? ⟨q,0,none⟩=some (ab 0)/\w.cell? ⟨q,1,none⟩=some (ab 0))/\w.frozen? ⟨q,0,none⟩=false/\w.frozen? ⟨q,1,none⟩=false:=by
 unfold zo at a;refine⟨⟨?_,?_⟩,?_,?_⟩
 all_goals simp[World.cell?,World.frozen?,a]
theorem Bt{ws:List Wd}{nm:List ByteArray}{n:Nat}{x:Tm n}{v:Wd}(h:dB ws nm n x v)(r:az ⟨n,x⟩)(g:aJ n x=true)(t:ws.length<=100000)(s:nm.length<=100000):cG ws nm v=true/\dn v.2:=by
 cases n with
 | zero=>exact h.elim
 | succ n=>
 have d:=r (bA n x) (by simp[aw,bA]);have i:=jV (bA n x) d;simp only[bA]at i;simp only[aJ,aA,oF,gn]at g;obtain⟨m,b,c⟩:=h;by_cases e:x.1.1=2
 ·obtain⟨k,rfl,p⟩:=m e;have j:=(aR.1 p).1;refine⟨?_,?_⟩
  ·simp[cG,ui,j]
  ·unfold dn;show (-9223372036854775808:Int)<=(k:Int)/\(k:Int)<=9223372036854775807;omega
 ·by_cases f:x.1.1=4
  ·obtain⟨l,rfl,q,j,_⟩:=b f;refine⟨?_,?_⟩
   ·simp[cG,fQ,q]
   ·unfold dn;show (-9223372036854775808:Int)<=(l:Int)/\(l:Int)<=9223372036854775807;omega
  ·obtain rfl:=c e f;refine⟨?_,(uf _ d).2⟩;have o:x.1.1=1\/x.1.1=3:=by
    rcases i with a|a|a|a|a|a
    ·exact ah a
    ·exact absurd a e
    ·exact ai a
    ·exact absurd a f
    ·exact absurd a g.1.1
    ·exact absurd a.1 g.1.2
   unfold cv at d;simp only[bA]at d;rcases o with a|a
   ·simp[cG,a]at d ⊢;exact d.1.2
   ·simp[cG,a]at d ⊢;exact d.1.2
theorem Iz(n:Nat)(x:Tm n)(v:Wd)(base:Nat)(a:cq)(room:Int)(ws:List Wd)(nm:List ByteArray)(M:Nat->Prop)(w:World)(h:dA base a room ws nm M w)(d:dB ws nm n x v)(j:az ⟨n,x⟩)(m:aJ n x=true)(f:ws.length<=100000)(i:nm.length<=100000):am 68 #[.pointer (some ⟨a.b,a.o,none⟩),G4 v] w λe w'=>∃y:Tm n,e=.returned (.tuple #[dj n y,ab 0])/\Hid (aj w w'/\In w'.heap.size w' n y/\bZ (λq=>w.heap.size<=q) n y/\ax n y n x=true):=by
 cases n with
 | zero=>exact d.elim
 | succ n=>
 obtain⟨l,p⟩:=Bt d j m f i;refine MQ n x a v.1 v.2 w ?_ ?_
 ·intro g c;have k:=uW base a room ws nm _ v g (h.later c) f p;rw[l]at k;exact k
 ·exact λg c=>JI (n+1) x v base a room ws nm _ g (h.later c) f i d j
end Go.Proofs.YtckamaoibonjcaaGreat

/- What is proved here: plain facts and contracts that the claimed theorem stands on. No condition but those that each names. -/
import Derived.Test.YtckamaoibonjcaaGreatH16
namespace Go.Proofs.YtckamaoibonjcaaGreat
open Go.RowKit
set_option maxHeartbeats 1000000
set_option maxRecDepth 100000
def dz(ws:List Wd)(nm:List ByteArray):(n:Nat)->Tm n->Wd->Prop
 | 0,_,_=>False
 | n+1,x,v=>(x.1.1=2->∃i:Nat,v=(2,(i:Int))/\nm[i]?=some x.1.2.2)/\
    (x.1.1=4->∃p:Nat,v=(4,(p:Int))/\ws[p]?=some (0,(x.2.2.length:Int))/\p+1+x.2.2.length<=ws.length/\∀(i:Nat)(y:Tm n),x.2.2[i]?=some y->∃a,ws[p+1+i]?=some a/\dz ws nm n y a)/\
    (x.1.1≠2->x.1.1≠4->v=(x.1.1,x.1.2.1))
def eA(w:World)(vs:List Wd)(a:Option Addr):Prop:=vs=[]\/∃b o,a=some ⟨b,o,none⟩/\b<w.heap.size/\∀(i:Nat)(v:Wd),vs[i]?=some v->w.cell? ⟨b,o+i*2,none⟩=some (ab v.1)/\w.cell? ⟨b,o+i*2+1,none⟩=some (ab v.2)
def Og(n:Nat):Prop:=∀(x:Tm n)(v:Wd)(base:Nat)(a:ci)(room:Int)(ws:List Wd)(nm:List ByteArray)(M:Nat->Prop)(w:World),dy base a room ws nm M w->ws.length<=100000->nm.length<=100000->dz ws nm n x v->aA ⟨n,x⟩->
 ak 100 #[.pointer (some ⟨a.b,a.o,none⟩),G4 v] w λe w'=>∃y:Tm n,e=.returned (df n y)/\Hid (ai w w'/\In w'.heap.size w' n y/\bZ (λq=>w.heap.size<=q) n y/\aw n y n x=true)
def p8(q:Nat)(w:World):Prop:=w.heap[q]?=some (.cells #[ab 0,ab 0,ae .empty,.slice none 0 0] 30)
theorem p8.kept{q:Nat}{w w':World}(a:p8 q w)(k:w'.heap[q]?=w.heap[q]?):p8 q w':=k.trans a
theorem p8.cells{q:Nat}{w:World}(a:p8 q w):(w.cell? ⟨q,0,none⟩=some (ab 0)/\w.cell? ⟨q,1,none⟩=some (ab 0)/\w.cell? ⟨q,2,none⟩=some (ae .empty)/\w.cell? ⟨q,3,none⟩=some (.slice none 0 0))/\∀j,w.frozen? ⟨q,j,none⟩=false:=by
 unfold p8 at a;refine⟨⟨?_,?_,?_,?_⟩,λj=>?_⟩
 all_goals simp[World.cell?,World.frozen?,a]
theorem JQ{n:Nat}{p:List (Tm n)}{len:Nat}{w w0:World}(f:w0.ownsRow (w.heap.size+1) 30 4 (.slice (some ⟨(w.alloc (.cells #[ab 0,ab 0,ae .empty,.slice none 0 0] 30)).heap.size,0,none⟩) len len) len (madeCells (Value.agg #[ab 0,ab 0,ae .empty,.slice none 0 0]).cells (len*4)).toList)(a:(w.alloc (.cells #[ab 0,ab 0,ae .empty,.slice none 0 0] 30)).grownBy w0 none):ai w w0/\tC n p len (w.heap.size+1) 0 [] w0/\p8 w.heap.size w0:=by
 have c:(w.alloc (.cells #[ab 0,ab 0,ae .empty,.slice none 0 0] 30)).heap.size=w.heap.size+1:=by simp
 have g:ai w (w.alloc (.cells #[ab 0,ab 0,ae .empty,.slice none 0 0] 30)):=(am _ _).alloc (aj _) _;have d:Below (w.heap.size+1) (w.alloc (.cells #[ab 0,ab 0,ae .empty,.slice none 0 0] 30)) w0:=⟨a.os,a.tape,a.output,a.size,λb h=>a.block b (by omega) (by simp)⟩;have e:=qr (w:=w.alloc (.cells #[ab 0,ab 0,ae .empty,.slice none 0 0] 30)) n p len (by rw[c]at f ⊢;exact f);rw[c]at e;exact⟨g.trans (d.mono (by omega)),e,(d.block _ (by omega)).trans (az w _)⟩
theorem tC.end{n:Nat}{p:List (Tm n)}{len g:Nat}{l:List (Tm n)}{w wr:World}(r:tC n p len g len l wr)(A:p.length=len)(z:g=w.heap.size+1)(c:ai w wr)(t:len<=maxLen):∀v0 v1 v2 v3,gA n p w (cG wr w.heap.size 0 v0 v1 v2 v3) (some ⟨g,0,none⟩) len l:=by
 intro v0 v1 v2 v3;obtain⟨y,e,i,j⟩:=r;rw[bw (by omega)]at j;rw[gI,mj,ed]at e;refine⟨⟨c.os,c.tape,c.output,ax c.size (dm (bj _ _ _ _).symm),λh f=>(aT (by omega) _ _ _ _).trans (c.block h f)⟩,by omega,by omega,t,j,ah ⟨g,0,rfl,⟨by omega,rfl,λv=>?_,λa d=>(i a d).2.mono λh f=>by omega⟩,by rw[bj];exact e.lt.2,λu a d=>?_⟩⟩
 ·have k:=e.free v;unfold World.frozen? at k ⊢;rw[aT (w:=wr) (g:=w.heap.size) (b:=g) (o:=0) (by omega) v0 v1 v2 v3];exact k
 have s:=e.cells u ⟨n,a⟩ (by simp[d]);have m:=(i a (aG d)).1;have q:=(i a (aG d)).2;refine⟨?_,?_,q.mono λh f=>by omega⟩
 ·cases n with
  | zero=>exact m.elim
  | succ n=>
   rw[cP];exact dr.block (aT (by omega) _ _ _ _) (n:=n+1) (x:=a) s
 ·rw[bj];exact In.off (λh f=>aT (by omega) _ _ _ _) q m
theorem yQ(n:Nat)(ih:Og n)(base:Nat)(q:ci)(room:Int)(ws:List Wd)(nm:List ByteArray)(M:Nat->Prop)(a:Option Addr)(len pc:Nat)(p:List (Tm n))(vs:List Wd)(Y:Hid (p.length=len))(aC:Hid (vs.length=len))(w:World)(Q:Hid (dy base q room ws nm M w))(aW:len<=8)(al:Hid (ws.length<=100000))(W:Hid (nm.length<=100000))(U:Hid (eA w vs a))(aa:Hid (∀(i:Nat)(y:Tm n)(v:Wd),p[i]?=some y->vs[i]?=some v->dz ws nm n y v))(Z:Hid (∀y∈p,aA ⟨n,y⟩)):ak 134 #[.pointer (some ⟨q.b,q.o,none⟩),.slice a len pc] w λe w'=>∃N O l,e=.returned (.agg #[ab 4,ab 0,ae .empty,.slice N len O])/\Hid (gA n p w w' N O l):=by
 obtain⟨aD,V,ad,af,ag⟩:=bQ fY;go_enter Tryz.func134,Tryz.ntmps134;go_wp2_with (at_make;refine km _ rfl _ _ 28 rfl (w.heap.size+1) 30 aD _ 4 Tryz.underlying28 V ad af _ _ _ _ len rfl rfl rfl rfl (by rw[ag];omega) (by unfold maxLen;omega) (by simp) ?_;intro F X T;have A:=ao (JQ (p:=p) X T);clear X T);clear V ad af ag;obtain⟨d,S⟩:∃d,w.heap.size+1=d:=⟨_,rfl⟩;rw[S]at A ⊢;obtain⟨aq,J,L⟩:Hid (ai w F)/\Hid (tC n p len d 0 [] F)/\Hid (p8 w.heap.size F):=A.out;clear A;go_loopw [13] (λi wr=>∃k:Nat,k<=len/\i=ab k/\Hid (ai w wr/\p8 w.heap.size wr/\∃l,tC n p len d k l wr)) (λi _=>len-(intOf i).toNat)
 case atStart=>exact⟨0,by omega,rfl,aq.out,L.out,[],J.out⟩
 case round=>
  clear J L;obtain⟨k,aS,rfl,K⟩:=hrel;obtain⟨g,t,l,h⟩:Hid (ai w wr)/\Hid (p8 w.heap.size wr)/\∃l,Hid (tC n p len d k l wr):=K.out;clear K;by_cases B:k<len
  ·obtain⟨f,u⟩:∃f,p[k]?=some f:=⟨p[k]'(by rw[Y.out];exact B),aE _⟩;obtain⟨v,s⟩:∃v,vs[k]?=some v:=⟨vs[k]'(by rw[aC.out];exact B),aE _⟩;obtain⟨b,o,rfl,R,ah⟩:∃b o,a=some ⟨b,o,none⟩/\b<w.heap.size/\∀(i:Nat)(v:Wd),vs[i]?=some v->w.cell? ⟨b,o+i*2,none⟩=some (ab v.1)/\w.cell? ⟨b,o+i*2+1,none⟩=some (ab v.2):=by
    rcases U.out with e|e
    ·rw[e]at s;simp at s
    ·exact e
   obtain⟨D,E⟩:=ah k v s;replace D:=(ap g.out b (o+k*2) R).trans D;replace E:=(ap g.out b (o+k*2+1) R).trans E;have aB:=ao u;have aR:d<wr.heap.size:=h.out.2.1.lt.2
   have H:Hid (∀(c:World),ai wr c->ak 100 #[.pointer (some ⟨q.b,q.o,none⟩),.agg #[ab v.1,ab v.2]] c λe w'=>∃y:Tm n,e=.returned (df n y)/\Hid (ai c w'/\In w'.heap.size w' n y/\bZ (λx=>c.heap.size<=x) n y/\aw n y n f=true)):=
    λc j=>ih f v base q room ws nm _ c (Q.out.later (g.out.trans (j.mono g.out.size))) al.out W.out (aa.out k f v u s) (Z.out f (aG u))
   clear ih u s ah U aa Z Q al W;have aU:(0:Int)<=(k:Int):=by omega
   have aV:(k:Int)<(len:Int):=by omega
   have aX:b<wr.heap.size:=by omega
   go_wp2_with fail;refine(H.out _ ((am _ _).alloc (aj _) _)).mono ?_;rintro e c ⟨y,rfl,m⟩;have r:Hid (ai wr c):=((am _ _).alloc (aj _) _).trans (m.out.1.mono (by simp));have az:=ao (h.out.step B f aB.out r.out y m.out.2.1 (m.out.2.2.1.mono λx C=>by simp at C;omega) m.out.2.2.2);have z:=ao (h.out.2.1.below r.out);have I:=m.out.2.1;cases n with
   | zero=>exact I.elim
   | succ n=>
   clear I;have au:Hid (ai w (iX c d (k*4) (fX (n+1) y))):=by
    have j:=g.out.trans (r.out.mono g.out.size);exact⟨j.os,j.tape,j.output,ax j.size (dm (bj _ _ _ _).symm),λx C=>(aT (by omega) _ _ _ _).trans (j.block x C)⟩
   have av:Hid (p8 w.heap.size (iX c d (k*4) (fX (n+1) y))):=t.out.kept ((aT (by omega) _ _ _ _).trans (r.out.block _ (by omega)));obtain⟨G,an⟩:∃G,(l.map (λf=>(⟨n+1,f⟩:An))++List.replicate (len-k) zA)[k]?=some G:=⟨_,aE (by simp[h.out.1];omega)⟩;obtain⟨aL,aM,aN,aO⟩:=z.out.cells k G an;have aQ:=λaF=>z.out.free aF;have P:df (n+1) y=.agg #[ab y.1.1,ab y.1.2.1,ae y.1.2.2,.slice y.2.1.1 y.2.2.length y.2.1.2]:=rfl;rw[P];clear H h g m r z t D E an P;go_wp2_with fail;go_roundw
   case rel=>exact⟨k+1,by omega,by go_num,au.out,av.out,l++ [y],az.out⟩
   case measure=>simp[intOf];omega
  ·obtain rfl:k=len:=by omega
   have ay:=ao (h.out.end Y.out S.symm g.out (by unfold maxLen;omega));obtain⟨⟨aH,aI,aJ,aK⟩,aP⟩:=t.out.cells;clear h ih t;go_wp2_with fail;exact ar (v:=.agg #[ab 4,ab 0,ae .empty,.slice (some ⟨d,0,none⟩) k k]) (by simp[results,Tryz.results134,go_sem,aH,aI,aJ,aK];rfl) rfl ⟨_,_,l,rfl,ay.out _ _ _ _⟩
theorem xC{w wA w2:World}(b:ai w wA)(c:ai wA w2)(v0 v1 v2 v3:Value):ai w (cG w2 (w.heap.size+1) 0 v0 v1 v2 v3):=by
 have a:=b.trans (c.mono b.size);exact⟨a.os,a.tape,a.output,ax a.size (dm (bj _ _ _ _).symm),λe d=>(aT (by omega) _ _ _ _).trans (a.block e d)⟩
theorem Gz(c:ci)(k a:Int)(w:World)(d:¬k=2)(f:¬k=4):ak 100 #[.pointer (some ⟨c.b,c.o,none⟩),.agg #[ab k,ab a]] w λe w'=>e=.returned (.agg #[ab k,ab a,ae .empty,.slice none 0 0])/\ai w w':=by
 have g:(k==2)=false:=by simpa using d
 have h:(k==4)=false:=by simpa using f
 go_enter Tryz.func100,Tryz.ntmps100;go_wp2_with fail;exact ar (v:=.agg #[ab k,ab a,ae .empty,.slice none 0 0]) (by simp[results,Tryz.results100,go_sem];rfl) rfl ⟨rfl,by go_grown⟩
theorem Gy(base:Nat)(a:ci)(room:Int)(ws:List Wd)(nm:List ByteArray)(M:Nat->Prop)(i:Nat)(s:ByteArray)(w:World)(m:Hid (dy base a room ws nm M w))(q:nm.length<=100000)(r:Hid (nm[i]?=some s))(t:s.size<=2048):ak 100 #[.pointer (some ⟨a.b,a.o,none⟩),.agg #[ab 2,ab i]] w λe w'=>e=.returned (.agg #[ab 2,ab 0,ae s,.slice none 0 0])/\ai w w':=by
 go_enter Tryz.func100,Tryz.ntmps100;go_wp2_with fail;generalize f:(w.alloc (Obj.cells #[Value.int IntKind.i64 2,Value.int IntKind.i64 i] 105)).alloc (Obj.cells #[ab 0,ab 0,ae ⟨#[]⟩,.slice none 0 0] 30)=wA;have c:Hid (ai w wA.drew/\wA.drew.heap.size=w.heap.size+2):=by
  subst f;exact⟨(((am _ _).alloc (aj _) _).alloc (by simp) _).drew,by simp[World.drew]⟩
 have D:wA.cell? ⟨w.heap.size,1,none⟩=some (ab i):=by subst f;simp[go_sem]
 have l:Hid (p8 (w.heap.size+1) wA.drew):=by
  subst f;have:=az (w.alloc (Obj.cells #[Value.int IntKind.i64 2,Value.int IntKind.i64 i] 105)) (Obj.cells #[ab 0,ab 0,ae ⟨#[]⟩,.slice none 0 0] 30);have es:∀o,(w.alloc o).heap.size=w.heap.size+1:=λo=>by simp
  rw[es]at this;exact this
 have j:Hid (ak 133 #[.pointer (some ⟨a.b,a.o+2,none⟩),ab i] wA.drew λe w'=>e=.returned (ae s)/\Below wA.drew.heap.size wA.drew w'):=by
  obtain⟨C,u,x,n,F,p,_⟩:=m.out.later c.out.1;exact CH base a room C u x nm i s wA.drew n p.1 r q t
 clear f;go_region_held3 (λw'=>w'.cell? ⟨w.heap.size,1,none⟩=some (ab i)) (go_keep) ((go_at_call 133;refine j.out.mono ?_;rintro e H ⟨rfl,d⟩;have g:=ao d;have G:=λo=>ap d w.heap.size o (by have:=c.out.2;omega);have h:=ao (l.out.kept (d.block _ (by have:=c.out.2;omega)));obtain⟨⟨y,z,A,B⟩,E⟩:=h.out.cells;clear d));have k:=ao (xC c.out.1 g.out (ab 2) (ab 0) (ae s) (.slice none 0 0));go_wp2_with fail;exact ar (v:=.agg #[ab 2,ab 0,ae s,.slice none 0 0]) (by simp[results,Tryz.results100,go_sem,y,z,A,B]) rfl ⟨rfl,k.out⟩
theorem DM(g o j:Nat):(⟨g,o,none⟩:Addr).add j=⟨g,o+j,none⟩:=by
 unfold Addr.add;by_cases a:j=0<;>simp[a]
theorem BG{w:World}{vs:List Wd}{g o:Nat}(d:eQ w vs (some ⟨g,o,none⟩))(h:g<w.heap.size):eA w vs (some ⟨g,o,none⟩):=by
 rcases d with d|⟨ad,c,e⟩
 ·exact ag d
 ·injection c with c;subst c;refine ah ⟨g,o,rfl,h,λa b f=>⟨?_,?_⟩⟩
  ·have:=e (a*2+0) (ab b.1) (by rw[iE vs a b f 0 (by omega)];rfl);rw[DM]at this;exact this
  ·have:=e (a*2+1) (ab b.2) (by rw[iE vs a b f 1 (by omega)];rfl);rw[DM]at this;exact this
theorem JL(n:Nat)(ih:Og n)(base:Nat)(a:ci)(room:Int)(ws:List Wd)(nm:List ByteArray)(M:Nat->Prop)(k len:Nat)(p:List (Tm n))(L:Hid (p.length=len))(w:World)(G:Hid (dy base a room ws nm M w))(ah:len<=8)(D:Hid (ws.length<=100000))(K:Hid (nm.length<=100000))(J:Hid (ws[k]?=some (0,(len:Int))))(C:Hid (k+1+len<=ws.length))(O:Hid (∀(i:Nat)(y:Tm n),p[i]?=some y->∃E,ws[k+1+i]?=some E/\dz ws nm n y E))(N:Hid (∀y∈p,aA ⟨n,y⟩)):ak 100 #[.pointer (some ⟨a.b,a.o,none⟩),.agg #[ab 4,ab k]] w λe w'=>∃g h l,e=.returned (.agg #[ab 4,ab 0,ae .empty,.slice g len h])/\Hid (gA n p w w' g h l):=by
 go_enter Tryz.func100,Tryz.ntmps100;go_wp2_with fail;generalize u:(w.alloc (Obj.cells #[Value.int IntKind.i64 4,Value.int IntKind.i64 k] 105)).alloc (Obj.cells #[ab 0,ab 0,ae ⟨#[]⟩,.slice none 0 0] 30)=wA;have m:Hid (ai w wA.drew/\wA.drew.heap.size=w.heap.size+2):=by
  subst u;exact⟨(((am _ _).alloc (aj _) _).alloc (by simp) _).drew,by simp[World.drew]⟩
 have X:wA.cell? ⟨w.heap.size,1,none⟩=some (ab k):=by subst u;simp[go_sem]
 have V:Hid (p8 (w.heap.size+1) wA.drew):=by
  subst u;have:=az (w.alloc (Obj.cells #[Value.int IntKind.i64 4,Value.int IntKind.i64 k] 105)) (Obj.cells #[ab 0,ab 0,ae ⟨#[]⟩,.slice none 0 0] 30);have es:∀o,(w.alloc o).heap.size=w.heap.size+1:=λo=>by simp
  rw[es]at this;exact this
 have z:=ao (G.out.later m.out.1);obtain⟨c,j,f,A,F⟩:∃c j f,wA.cell? ⟨a.b,a.o+1,none⟩=some (.slice (some ⟨c,0,none⟩) j f)/\Hid (a.b<w.heap.size/\ak 135 #[.slice (some ⟨c,0,none⟩) j f,ab k] wA.drew λe w'=>∃o pc,e=.returned (.slice (some ⟨c,o,none⟩) len pc)/\w'=wA.drew/\Hid (eA wA.drew ((ws.drop (k+1)).take len) (some ⟨c,o,none⟩))):=by
  obtain⟨aN,aK,aL,Y,B,aF,Z,_⟩:=z.out;obtain⟨⟨aB,A,aC,aD⟩,aH⟩:=Y.cells;have ag:=C.out;obtain⟨c,f,rfl,_,_⟩:=B.form (by omega);refine⟨c,_,f,A,Z.2,?_⟩;refine(wF base c ws.length f k len ws wA.drew D.out B J ag).mono ?_;rintro e w' ⟨rfl,pa,pc,rfl,_,aq,o,rfl⟩;exact⟨o,pc,rfl,rfl,BG aq (B.lt c rfl).2⟩
 have S:Hid (∀o pc,eA wA.drew ((ws.drop (k+1)).take len) (some ⟨c,o,none⟩)->ak 134 #[.pointer (some ⟨a.b,a.o,none⟩),.slice (some ⟨c,o,none⟩) len pc] wA.drew λe w'=>∃g h l,e=.returned (.agg #[ab 4,ab 0,ae .empty,.slice g len h])/\Hid (gA n p wA.drew w' g h l)):=by
  intro o pc af;refine yQ n ih base a room ws nm _ (some ⟨c,o,none⟩) len pc p ((ws.drop (k+1)).take len) L ?_ wA.drew z ah D K af ?_ N
  ·have:=C.out;unfold Hid;rw[dw,eK];omega
  ·intro i y v Q P;obtain⟨E,an,al⟩:=O.out i y Q;have ad:i<len:=by have:=(aM.1 Q).1;have:=L.out;omega
   rw[rW ad,jX,an]at P;obtain rfl:=au P;exact al
 clear u ih O N G z J C D K;have aI:a.b<w.heap.size:=F.out.1;have aJ:w.heap.size+1≠a.b:=by omega
 have U:Hid (∀(d:World)(q r s t:Value),(d.cell? ⟨w.heap.size,1,none⟩=some (ab k)/\d.cell? ⟨a.b,a.o+1,none⟩=some (.slice (some ⟨c,0,none⟩) j f))->((((d.setCell ⟨w.heap.size+1,0,none⟩ q).setCell ⟨w.heap.size+1,1,none⟩ r).setCell ⟨w.heap.size+1,2,none⟩ s).setCell ⟨w.heap.size+1,3,none⟩ t).cell? ⟨w.heap.size,1,none⟩=some (ab k)/\((((d.setCell ⟨w.heap.size+1,0,none⟩ q).setCell ⟨w.heap.size+1,1,none⟩ r).setCell ⟨w.heap.size+1,2,none⟩ s).setCell ⟨w.heap.size+1,3,none⟩ t).cell? ⟨a.b,a.o+1,none⟩=some (.slice (some ⟨c,0,none⟩) j f)):=by
  intro d q r s t I;exact⟨(bm (aT (o:=0) (w:=d) (show w.heap.size≠w.heap.size+1 by omega) q r s t) 1).trans I.1,(bm (aT (o:=0) (w:=d) (show a.b≠w.heap.size+1 by omega) q r s t) (a.o+1)).trans I.2⟩
 go_region_held3 (λw'=>w'.cell? ⟨w.heap.size,1,none⟩=some (ab k)/\w'.cell? ⟨a.b,a.o+1,none⟩=some (.slice (some ⟨c,0,none⟩) j f)) (first|(go_keep;done)|exact U.out _ _ _ _ _ aa) ((first
  | (go_at_call 135;refine F.out.2.mono ?_;rintro e d ⟨o,pc,rfl,rfl,W⟩)
  | (go_at_call 134;refine(S.out _ _ W.out).mono ?_;rintro e d ⟨g,h,l,rfl,x⟩;have H:=λb o (aG:b<w.heap.size+1)=>ap x.out.1 b o (by have:=m.out.2;omega);have aa:d.cell? ⟨w.heap.size,1,none⟩=some (ab k)/\d.cell? ⟨a.b,a.o+1,none⟩=some (.slice (some ⟨c,0,none⟩) j f):=⟨(H w.heap.size 1 (by omega)).trans X,(H a.b (a.o+1) (by omega)).trans A⟩;have R:=ao (V.out.kept (x.out.1.block _ (by have:=m.out.2;omega)));obtain⟨⟨av,aw,ax,ay⟩,aE⟩:=R.out.cells)))
 have T:=ao (x.out.box m.out.1 (by have:=m.out.2;omega) (ab 4) (ab 0) (ae .empty) (.slice g len h));go_wp2_with fail;exact ar (v:=.agg #[ab 4,ab 0,ae .empty,.slice g len h]) (by simp[results,Tryz.results100,go_sem,av,aw,ax,ay]) rfl ⟨g,h,l,rfl,T.out⟩
theorem uf(x:Nd)(b:cq x=true):dk x.1.1/\dk x.1.2.1:=by
 have c:=jM x b;unfold cq pY at b;unfold dk;rcases c with a|a|a|a|a|⟨a,d⟩
 all_goals (rw[a]at b ⊢;simp at b;refine⟨by omega,by omega⟩)
theorem JK(n:Nat):Og n:=by
 induction n with
 | zero=>intro a af u q room B z t s _ _ _ x;exact x.elim
 | succ n ih=>
  intro a af u q room B z t s C V F x H;have p:=H (bu n a) (by simp[av,bu]);have S:a.2.2.length<=8:=lH (bu n a) p;have G:a.1.2.2.size<=2048:=by have:=rC (bu n a) p;simp only[bu]at this;omega
  obtain⟨ad,ae,ab⟩:=x;have g:=eq (bu n a) p;have I:∀(e:World)(k A:Int)(r:ByteArray),dk k->dk A->r.size<=2048->In e.heap.size e (n+1) ((k,A,r),(none,0),[]):=λe k A r M d ai=>⟨⟨M,d,by unfold maxLen;show r.size<=_;omega,aj _,aF _⟩,ag rfl⟩;by_cases d:a.1.1=2
  ·obtain⟨j,rfl,P⟩:=ad d;have y:a.2.2=[]:=bB (g.2.2.2.2 (by show a.1.1≠4;omega));refine(Gy u q room B z t j a.1.2.2 s C F P G).mono ?_;rintro f e ⟨rfl,v⟩;refine⟨((2,0,a.1.2.2),(none,0),[]),rfl,v,I e 2 0 _ (by unfold dk;omega) (by unfold dk;omega) G,ag rfl,?_⟩;have N:a.1.2.1=0:=g.2.1 d;simp[aw,d,N,y,ay]
  ·by_cases h:a.1.1=4
   ·obtain⟨k,rfl,Q,R,T⟩:=ae h;refine(JL n ih u q room B z t k a.2.2.length a.2.2 rfl s C S V F Q R T (λm i=>aR n a m H i)).mono ?_;rintro f e ⟨K,L,l,rfl,J⟩;obtain⟨W,X,Y,Z,aa,c⟩:=J.out;have O:a.1.2.1=0:=g.2.2.1 h;have w:a.1.2.2.toList=[]:=g.1 d;refine⟨((4,0,.empty),(K,L),l),by rw[<-X];rfl,W,⟨⟨by unfold dk;show (-9223372036854775808:Int)<=4/\(4:Int)<=9223372036854775807;omega,by unfold dk;show (-9223372036854775808:Int)<=0/\(0:Int)<=9223372036854775807;omega,by unfold maxLen;show (0:Nat)<=_;omega,Y,Z⟩,?_⟩,?_,?_⟩
    ·rcases c with c|⟨b,o,f,D,E,c⟩
     ·exact ag c
     ·exact ah ⟨b,o,f,E,λj m i=>⟨(c j m i).1,(c j m i).2.1⟩⟩
    ·rcases c with c|⟨b,o,f,D,E,c⟩
     ·exact ag c
     ·exact ah ⟨b,o,f,D.1,λj m i=>(c j m i).2.2⟩
    ·simp only[aw];rw[h,O,w,aa];simp
   ·have U:=ab d h;subst U;have y:a.2.2=[]:=bB (g.2.2.2.2 h);have w:a.1.2.2.toList=[]:=g.1 d;refine(Gz q a.1.1 a.1.2.1 s d h).mono ?_;rintro f e ⟨rfl,v⟩;refine⟨((a.1.1,a.1.2.1,.empty),(none,0),[]),rfl,v,I e _ _ _ ?_ ?_ (by show (0:Nat)<=_;omega),ag rfl,?_⟩
    ·exact(uf _ p).1
    ·exact(uf _ p).2
    ·simp only[aw];rw[w,y];simp[ay]
def cE(ws:List Wd)(nm:List ByteArray)(v:Wd):Bool:=
 if v.1=1 then pY v.2 (-1099511627776) 1099511627776 else if v.1=3 then pY v.2 1 99 else if v.1=2 then ui nm.length v.2 else if v.1=4 then fM ws v.2 else false
def xZ(k a:Int):Tm 1:=((k,a,.empty),(none,0),[])
theorem IP(k a:Int)(b:k=1\/k=3):bq 1 (xZ k a)=if cq (bu 0 (xZ k a))then 0 else 5:=by
 rcases b with rfl|rfl<;>simp[bq,xZ,av,oY,B8,sz,mC,bu]<;>rfl
theorem FE(ws:List Wd)(nm:List ByteArray)(k a:Int)(b:k=1\/k=3):cq (bu 0 (xZ k a))=cE ws nm (k,a):=by
 rcases b with rfl|rfl<;>simp[cq,xZ,bu,cE]
theorem uY(i:ci)(ws:List Wd)(nm:List ByteArray)(k a:Int)(w:World)(d:k=1\/k=3)(j:dk a):ak 99 #[.pointer (some ⟨i.b,i.o,none⟩),.agg #[ab k,ab a]] w λe w'=>e=.returned (.bool (cE ws nm (k,a)))/\ai w w':=by
 have f:Hid (∀c,ak 51 #[.agg #[ab k,ab a,ae .empty,.slice none 0 0]] c λe w'=>e=.returned (ab (if cE ws nm (k,a)then 0 else 5))/\ai c w'):=by
  intro c;have g:=dB 1 (xZ k a) c.heap.size c ⟨⟨by rcases d with rfl|rfl<;>simp[xZ,dk],j,by simp[xZ,maxLen],aj _,aF _⟩,ag rfl⟩ (aj _) (by simp[av,xZ]);rw[IP k a d,FE ws nm k a d]at g;exact g
 generalize cE ws nm (k,a)=l at*;cases l
 all_goals
  simp only[cM,oA,if_false]at f;rcases d with rfl|rfl
  all_goals
   go_enter Tryz.func99,Tryz.ntmps99;go_wp2_with fail;refine(f.out _).mono ?_;rintro e m ⟨rfl,h⟩;have HB:=ao h;clear h;go_wp2_with fail
   go_ret
   exact⟨rfl,((am _ _).alloc (aj _) _).trans (HB.out.mono (by simp))⟩
theorem Bn(base:Nat)(d:ci)(room:Int)(ws:List Wd)(nm:List ByteArray)(M:Nat->Prop)(a:Int)(w:World)(j:Hid (dy base d room ws nm M w)):ak 99 #[.pointer (some ⟨d.b,d.o,none⟩),.agg #[ab 2,ab a]] w λe w'=>e=.returned (.bool (ui nm.length a))/\ai w w':=by
 have k:Hid (∀wA,ai w wA->ak 131 #[.pointer (some ⟨d.b,d.o+2,none⟩),ab a] wA λe w'=>e=.returned (.bool (ui nm.length a))/\w'=wA):=by
  intro wA p;obtain⟨s,q,r,m,y,n,_⟩:=j.out.later p;obtain⟨g,h,rfl⟩:∃g h,q=.slice g nm.length h:=by
   rcases n.1.2 with⟨e,l⟩|⟨x,c,u,e,_⟩
   ·exact⟨none,0,by rw[e,l]⟩
   ·exact⟨_,c,e⟩
  exact KV d room s g nm.length h r a wA m
 clear j;generalize ui nm.length a=t at*;go_enter Tryz.func99,Tryz.ntmps99;go_wp2_with fail;generalize f:w.alloc (Obj.cells #[Value.int IntKind.i64 2,Value.int IntKind.i64 a] 105)=wA;have i:Hid (ai w wA.drew):=by subst f;exact((am _ _).alloc (aj _) _).drew
 have v:wA.cell? ⟨w.heap.size,1,none⟩=some (ab a):=by subst f;simp[go_sem]
 clear f;go_region_held3 (λw'=>w'.cell? ⟨w.heap.size,1,none⟩=some (ab a)) (go_keep) ((go_at_call 131;refine(k.out _ i.out).mono ?_;rintro e z ⟨rfl,rfl⟩));go_wp2_with fail
 go_ret
 exact⟨rfl,i.out⟩
theorem Dj(base:Nat)(a:ci)(room:Int)(ws:List Wd)(nm:List ByteArray)(M:Nat->Prop)(g:Int)(w:World)(l:Hid (dy base a room ws nm M w))(t:ws.length<=100000):ak 99 #[.pointer (some ⟨a.b,a.o,none⟩),.agg #[ab 4,ab g]] w λe w'=>e=.returned (.bool (fM ws g))/\ai w w':=by
 obtain⟨d,f,s,k,p⟩:∃d f,a.b<w.heap.size/\w.cell? ⟨a.b,a.o+1,none⟩=some (.slice d ws.length f)/\Hid (∀wA,ai w wA->ak 132 #[.slice d ws.length f,ab g] wA λe w'=>e=.returned (.bool (fM ws g))/\w'=wA):=by
  obtain⟨u,B,C,m,n,A,_⟩:=l.out;obtain⟨d,f,rfl⟩:∃d f,u=.slice d ws.length f:=by
   rcases n.2 with⟨e,q⟩|⟨z,c,x,e,_⟩
   ·exact⟨none,0,by rw[e,q]⟩
   ·exact⟨_,c,e⟩
  exact⟨d,f,m.lt,m.cells.1.2.1,λwA r=>BY base d ws.length f ws g wA rfl t (dG n r)⟩
 clear l;generalize fM ws g=v at*;generalize ws.length=j at*;go_enter Tryz.func99,Tryz.ntmps99;go_wp2_with fail;generalize i:w.alloc (Obj.cells #[Value.int IntKind.i64 4,Value.int IntKind.i64 g] 105)=wA;have h:Hid (ai w wA.drew):=by subst i;exact((am _ _).alloc (aj _) _).drew
 have y:wA.cell? ⟨w.heap.size,1,none⟩=some (ab g):=by subst i;simp[go_sem]
 replace k:wA.cell? ⟨a.b,a.o+1,none⟩=some (.slice d j f):=(ap h.out a.b (a.o+1) s).trans k;clear i;go_region_held3 (λw'=>w'.cell? ⟨w.heap.size,1,none⟩=some (ab g)/\w'.cell? ⟨a.b,a.o+1,none⟩=some (.slice d j f)) (go_keep) ((go_at_call 132;refine(p.out _ h.out).mono ?_;rintro e D ⟨rfl,rfl⟩));go_wp2_with fail
 go_ret
 exact⟨rfl,h.out⟩
theorem Bo(a:ci)(k h:Int)(w:World)(c:¬k=1)(d:¬k=2)(f:¬k=3)(g:¬k=4):ak 99 #[.pointer (some ⟨a.b,a.o,none⟩),.agg #[ab k,ab h]] w λe w'=>e=.returned (.bool false)/\ai w w':=by
 have i:(k==1)=false:=by simpa using c
 have j:(k==2)=false:=by simpa using d
 have l:(k==3)=false:=by simpa using f
 have m:(k==4)=false:=by simpa using g
 go_enter Tryz.func99,Tryz.ntmps99;go_wp2_with fail
 go_ret
 exact⟨rfl,by go_grown⟩
theorem uX(base:Nat)(c:ci)(room:Int)(ws:List Wd)(nm:List ByteArray)(M:Nat->Prop)(v:Wd)(w:World)(i:dy base c room ws nm M w)(l:ws.length<=100000)(j:dk v.2):ak 99 #[.pointer (some ⟨c.b,c.o,none⟩),G4 v] w λe w'=>e=.returned (.bool (cE ws nm v))/\ai w w':=by
 obtain⟨k,a⟩:=v;by_cases d:k=1
 ·exact uY c ws nm k a w (ag d) j
 ·by_cases g:k=3
  ·exact uY c ws nm k a w (ah g) j
  ·by_cases f:k=2
   ·subst f;have e:cE ws nm (2,a)=ui nm.length a:=by simp[cE]
    rw[e];exact Bn base c room ws nm M a w i
   ·by_cases h:k=4
    ·subst h;have e:cE ws nm (4,a)=fM ws a:=by simp[cE]
     rw[e];exact Dj base c room ws nm M a w i l
    ·have e:cE ws nm (k,a)=false:=by simp[cE,d,f,g,h]
     rw[e];exact Bo c k a w d f g h
theorem xz(base:Nat)(j:ci)(room:Int)(ws:List Wd)(nm:List ByteArray)(M:Nat->Prop)(vs:List Wd)(a:Option Addr)(len pc:Nat)(w:World)(r:Hid (dy base j room ws nm M w))(D:ws.length<=100000)(y:Hid (vs.length=len))(I:len<=100000)(x:Hid (eA w vs a))(u:Hid (∀v∈vs,dk v.2)):ak 176 #[.pointer (some ⟨j.b,j.o,none⟩),.slice a len pc] w λe w'=>e=.returned (.bool (vs.all (cE ws nm)))/\ai w w':=by
 go_enter Tryz.func176,Tryz.ntmps176;go_wp2_with fail;go_loopw [9] (λg wr=>∃k:Nat,k<=len/\g=ab k/\Hid (ai w wr/\(vs.take k).all (cE ws nm)=true)) (λg _=>len-(intOf g).toNat)
 case atStart=>exact⟨0,by omega,rfl,am _ _,by simp⟩
 case round=>
  obtain⟨k,F,rfl,c⟩:=hrel;by_cases C:k<len
  ·obtain⟨v,f⟩:∃v,vs[k]?=some v:=⟨vs[k]'(by rw[y.out];exact C),aE _⟩;obtain⟨b,o,rfl,t,z⟩:∃b o,a=some ⟨b,o,none⟩/\b<w.heap.size/\∀(g:Nat)(v:Wd),vs[g]?=some v->w.cell? ⟨b,o+g*2,none⟩=some (ab v.1)/\w.cell? ⟨b,o+g*2+1,none⟩=some (ab v.2):=by
    rcases x.out with e|e
    ·rw[e]at f;simp at f
    ·exact e
   obtain⟨p,q⟩:=z k v f;replace p:=(ap c.out.1 b (o+k*2) t).trans p;replace q:=(ap c.out.1 b (o+k*2+1) t).trans q
   have h:Hid (∀(d:World),ai wr d->ak 99 #[.pointer (some ⟨j.b,j.o,none⟩),.agg #[ab v.1,ab v.2]] d λe w'=>e=.returned (.bool (cE ws nm v))/\ai d w'):=
    λd B=>uX base j room ws nm _ v d (r.out.later (c.out.1.trans (B.mono c.out.1.size))) D (u.out v (aG f))
   have i:Hid ((cE ws nm v=true->(vs.take (k+1)).all (cE ws nm)=true)/\(cE ws nm v=false->vs.all (cE ws nm)=false)):=by
    refine⟨λe=>?_,λe=>?_⟩
    ·rw[dx,f,jV,c.out.2];simp[e]
    ·cases ha:vs.all (cE ws nm)
     ·rfl
     ·rw[b9]at ha;rw[ha v (aG f)]at e;exact e
   have m:Hid (ai w wr):=c.out.1;clear f z x r u c;have G:(0:Int)<=(k:Int):=by omega
   have H:(k:Int)<(len:Int):=by omega
   have E:=m.out.size;have J:b<wr.heap.size:=by omega
   clear E;cases hsb:cE ws nm v
   ·rw[hsb]at h;replace i:=ao (i.out.2 hsb);clear hsb;go_wp2_with fail;refine(h.out _ ((am _ _).alloc (aj _) _)).mono ?_;rintro e d ⟨rfl,n⟩;have l:Hid (ai w d):=m.out.trans ((((am _ _).alloc (aj _) _).trans (n.mono (by simp))).mono m.out.size);clear n p q h;go_wp2_with fail
    go_ret
    exact⟨eG i.out.symm,l.out⟩
   ·rw[hsb]at h;replace i:=ao (i.out.1 hsb);clear hsb;go_wp2_with fail;refine(h.out _ ((am _ _).alloc (aj _) _)).mono ?_;rintro e d ⟨rfl,n⟩;have l:Hid (ai w d):=m.out.trans ((((am _ _).alloc (aj _) _).trans (n.mono (by simp))).mono m.out.size);clear n p q h;go_wp2_with fail;go_roundw
    case rel=>exact⟨k+1,by omega,by go_num,l.out,i.out⟩
    case measure=>simp[intOf];omega
  ·have A:Hid (vs.all (cE ws nm)=true):=by
     have s:=c.out.2;rw[bw (by have:=y.out;omega)]at s;exact s
   have l:Hid (ai w wr):=c.out.1;clear c;go_wp2_with fail
   go_ret
   exact⟨eG A.out.symm,l.out⟩
def lf(q:Nat)(k b:Int)(s:ByteArray)(a:Option Addr)(l c:Nat)(w:World):Prop:=
 w.heap[q]?=some (.cells #[ab k,ab b,ae s,.slice a l c] 30)/\w.heap[q+1]?=some (.cells #[ab 0,ab 0] 105)
theorem tw(w:World)(k b:Int)(s:ByteArray)(a:Option Addr)(l c:Nat):lf w.heap.size k b s a l c ((w.alloc (Obj.cells #[ab k,ab b,ae s,.slice a l c] 30)).alloc (Obj.cells #[ab 0,ab 0] 105)):=by
 refine⟨((cW (w.alloc (Obj.cells #[ab k,ab b,ae s,.slice a l c] 30)) (Obj.cells #[ab 0,ab 0] 105) none).block _ (by simp) (by simp)).trans (az w _),?_⟩;have:=az (w.alloc (Obj.cells #[ab k,ab b,ae s,.slice a l c] 30)) (Obj.cells #[ab 0,ab 0] 105);have es:∀o,(w.alloc o).heap.size=w.heap.size+1:=λo=>by simp
 rw[es]at this;exact this
theorem lf.facts{q:Nat}{k b:Int}{s:ByteArray}{a:Option Addr}{l c:Nat}{w:World}(d:lf q k b s a l c w):(w.cell? ⟨q,0,none⟩=some (ab k)/\w.cell? ⟨q,1,none⟩=some (ab b)/\w.cell? ⟨q,2,none⟩=some (ae s)/\w.cell? ⟨q,3,none⟩=some (.slice a l c))/\(w.cell? ⟨q+1,0,none⟩=some (ab 0)/\w.cell? ⟨q+1,1,none⟩=some (ab 0))/\w.frozen? ⟨q+1,0,none⟩=false/\w.frozen? ⟨q+1,1,none⟩=false:=by
 obtain⟨e,f⟩:=d;refine⟨⟨?_,?_,?_,?_⟩,⟨?_,?_⟩,?_,?_⟩
 all_goals simp[World.cell?,World.frozen?,e,f]
theorem fB{k f:Int}{s:ByteArray}{a:Option Addr}{l c:Nat}{w w1 w2:World}(g:ai w w1/\w.heap.size+2<=w1.heap.size/\lf w.heap.size k f s a l c w1)(b:ai w1 w2):ai w w2/\w.heap.size+2<=w2.heap.size/\lf w.heap.size k f s a l c w2:=by
 obtain⟨d,h,e⟩:=g;have:=b.size;exact⟨d.trans (b.mono d.size),by omega,(b.block _ (by omega)).trans e.1,(b.block _ (by omega)).trans e.2⟩
theorem pC{k j:Int}{s:ByteArray}{a:Option Addr}{l c:Nat}{w w1:World}(d:ai w w1/\w.heap.size+2<=w1.heap.size/\lf w.heap.size k j s a l c w1)(v0 v1:Value):ai w ((w1.setCell ⟨w.heap.size+1,0,none⟩ v0).setCell ⟨w.heap.size+1,1,none⟩ v1):=by
 obtain⟨f,m,n⟩:=d;have h:=bi w1 (w.heap.size+1) 0 v0;have i:=bi (w1.setCell ⟨w.heap.size+1,0,none⟩ v0) (w.heap.size+1) 1 v1;have e:=(aV f (λb=>b=w.heap.size+1)).trans (h.trans i (λb _ d=>d)) (λb _ d=>d);exact⟨e.os,e.tape,e.output,e.size,λb g=>e.block b g (by omega)⟩
theorem M0(m:ci)(k f:Int)(s:ByteArray)(a:Option Addr)(l c:Nat)(w:World)(d:Int)(x:(d !=0)=true)(p:Hid (∀w1,ai w w1->ak 51 #[.agg #[ab k,ab f,ae s,.slice a l c]] w1 λe w'=>e=.returned (ab d)/\ai w1 w')):ak 66 #[.pointer (some ⟨m.b,m.o,none⟩),.agg #[ab k,ab f,ae s,.slice a l c]] w λe w'=>e=.returned (.tuple #[.agg #[ab 0,ab 0],ab d])/\ai w w':=by
 go_enter Tryz.func66,Tryz.ntmps66;go_wp2_with fail;generalize n:(w.alloc (Obj.cells #[ab k,ab f,ae s,.slice a l c] 30)).alloc (Obj.cells #[ab 0,ab 0] 105)=h;have g:Hid (ai w h/\w.heap.size+2<=h.heap.size/\lf w.heap.size k f s a l c h):=by
  subst n;exact⟨((am _ _).alloc (aj _) _).alloc (by simp) _,by simp,tw _ _ _ _ _ _ _⟩
 clear n;refine(p.out _ g.out.1).mono ?_;rintro e w1 ⟨rfl,j⟩;have i:=ao (fB g.out j);obtain⟨⟨y,z,A,B⟩,⟨q,r⟩,t,u⟩:=i.out.2.2.facts;clear j g;go_wp2_with fail;exact ar (v:=.tuple #[.agg #[ab 0,ab 0],ab d]) (by simp[results,Tryz.results66,go_sem,q,r]) rfl ⟨rfl,pC i.out _ _⟩
theorem M1(r:ci)(k f:Int)(s:ByteArray)(a:Option Addr)(l c:Nat)(w:World)(A:Hid (∀w1,ai w w1->ak 51 #[.agg #[ab k,ab f,ae s,.slice a l c]] w1 λe w'=>e=.returned (ab 0)/\ai w1 w'))(B:Hid (∀w1,ai w w1->ak 52 #[.agg #[ab k,ab f,ae s,.slice a l c]] w1 λe w'=>e=.returned (.bool false)/\ai w1 w')):ak 66 #[.pointer (some ⟨r.b,r.o,none⟩),.agg #[ab k,ab f,ae s,.slice a l c]] w λe w'=>e=.returned (.tuple #[.agg #[ab 0,ab 0],ab 5])/\ai w w':=by
 go_enter Tryz.func66,Tryz.ntmps66;go_wp2_with fail;generalize t:(w.alloc (Obj.cells #[ab k,ab f,ae s,.slice a l c] 30)).alloc (Obj.cells #[ab 0,ab 0] 105)=m;have h:Hid (ai w m/\w.heap.size+2<=m.heap.size/\lf w.heap.size k f s a l c m):=by
  subst t;exact⟨((am _ _).alloc (aj _) _).alloc (by simp) _,by simp,tw _ _ _ _ _ _ _⟩
 clear t;refine(A.out _ h.out.1).mono ?_;rintro e w1 ⟨rfl,d⟩;have g:=ao (fB h.out d);obtain⟨⟨u,x,y,z⟩,⟨i,j⟩,p,q⟩:=g.out.2.2.facts;clear d h;go_wp2_with fail;clear u x y z i j p q;refine(B.out _ g.out.1).mono ?_;rintro e C ⟨rfl,d⟩;have n:=ao (fB g.out d);obtain⟨⟨u,x,y,z⟩,⟨i,j⟩,p,q⟩:=n.out.2.2.facts;clear d g;go_wp2_with fail;exact ar (v:=.tuple #[.agg #[ab 0,ab 0],ab 5]) (by simp[results,Tryz.results66,go_sem,i,j]) rfl ⟨rfl,pC n.out _ _⟩
theorem M2(x:ci)(k q:Int)(s:ByteArray)(a:Option Addr)(l c:Nat)(w:World)(C:Int)(D:Hid (∀w1,ai w w1->ak 51 #[.agg #[ab k,ab q,ae s,.slice a l c]] w1 λe w'=>e=.returned (ab 0)/\ai w1 w'))(F:Hid (∀w1,ai w w1->ak 52 #[.agg #[ab k,ab q,ae s,.slice a l c]] w1 λe w'=>e=.returned (.bool true)/\ai w1 w'))(G:Hid (∀w1,ai w w1->ak 81 #[.agg #[ab k,ab q,ae s,.slice a l c]] w1 λe w'=>e=.returned (ab C)/\ai w1 w'))(E:Hid (∀w1,ai w w1->ak 97 #[.pointer (some ⟨x.b,x.o,none⟩),ab C] w1 λe w'=>e=.returned (.bool false)/\ai w1 w')):ak 66 #[.pointer (some ⟨x.b,x.o,none⟩),.agg #[ab k,ab q,ae s,.slice a l c]] w λe w'=>e=.returned (.tuple #[.agg #[ab 0,ab 0],ab 6])/\ai w w':=by
 go_enter Tryz.func66,Tryz.ntmps66;go_wp2_with fail;generalize B:(w.alloc (Obj.cells #[ab k,ab q,ae s,.slice a l c] 30)).alloc (Obj.cells #[ab 0,ab 0] 105)=z;have y:Hid (ai w z/\w.heap.size+2<=z.heap.size/\lf w.heap.size k q s a l c z):=by
  subst B;exact⟨((am _ _).alloc (aj _) _).alloc (by simp) _,by simp,tw _ _ _ _ _ _ _⟩
 clear B;refine(D.out _ y.out.1).mono ?_;rintro e w1 ⟨rfl,d⟩;have r:=ao (fB y.out d);obtain⟨⟨j,m,n,p⟩,⟨f,g⟩,h,i⟩:=r.out.2.2.facts;clear d y;go_wp2_with fail;clear j m n p f g h i;refine(F.out _ r.out.1).mono ?_;rintro e H ⟨rfl,d⟩;have t:=ao (fB r.out d);obtain⟨⟨j,m,n,p⟩,⟨f,g⟩,h,i⟩:=t.out.2.2.facts;clear d r;go_wp2_with fail;clear j m n p f g h i;refine(G.out _ t.out.1).mono ?_;rintro e I ⟨rfl,d⟩;have u:=ao (fB t.out d);obtain⟨⟨j,m,n,p⟩,⟨f,g⟩,h,i⟩:=u.out.2.2.facts;clear d t;go_wp2_with fail;clear j m n p f g h i;refine(E.out _ u.out.1).mono ?_;rintro e J ⟨rfl,d⟩;have A:=ao (fB u.out d);obtain⟨⟨j,m,n,p⟩,⟨f,g⟩,h,i⟩:=A.out.2.2.facts;clear d u;go_wp2_with fail;exact ar (v:=.tuple #[.agg #[ab 0,ab 0],ab 6]) (by simp[results,Tryz.results66,go_sem,f,g]) rfl ⟨rfl,pC A.out _ _⟩
theorem M3(i:ci)(k t:Int)(s:ByteArray)(a:Option Addr)(l c:Nat)(w:World)(E:Int)(V:Wd)(base:Nat)(room:Int)(ws:List Wd)(nm:List ByteArray)(M:Nat->Prop)(F:Hid (∀w1,ai w w1->ak 51 #[.agg #[ab k,ab t,ae s,.slice a l c]] w1 λe w'=>e=.returned (ab 0)/\ai w1 w'))(I:Hid (∀w1,ai w w1->ak 52 #[.agg #[ab k,ab t,ae s,.slice a l c]] w1 λe w'=>e=.returned (.bool true)/\ai w1 w'))(J:Hid (∀w1,ai w w1->ak 81 #[.agg #[ab k,ab t,ae s,.slice a l c]] w1 λe w'=>e=.returned (ab E)/\ai w1 w'))(H:Hid (∀w1,ai w w1->ak 97 #[.pointer (some ⟨i.b,i.o,none⟩),ab E] w1 λe w'=>e=.returned (.bool true)/\ai w1 w'))(K:Hid (∀w1,ai w w1->ak 98 #[.pointer (some ⟨i.b,i.o,none⟩),.agg #[ab k,ab t,ae s,.slice a l c]] w1 λe w'=>e=.returned (.agg #[ab V.1,ab V.2])/\Hid (lq base i room ws nm (λb=>M b/\b<w.heap.size) w1 w'))):ak 66 #[.pointer (some ⟨i.b,i.o,none⟩),.agg #[ab k,ab t,ae s,.slice a l c]] w λe w'=>e=.returned (.tuple #[.agg #[ab V.1,ab V.2],ab 0])/\Hid (lq base i room ws nm M w w'):=by
 go_enter Tryz.func66,Tryz.ntmps66;go_wp2_with fail;generalize D:(w.alloc (Obj.cells #[ab k,ab t,ae s,.slice a l c] 30)).alloc (Obj.cells #[ab 0,ab 0] 105)=C;have A:Hid (ai w C/\w.heap.size+2<=C.heap.size/\lf w.heap.size k t s a l c C):=by
  subst D;exact⟨((am _ _).alloc (aj _) _).alloc (by simp) _,by simp,tw _ _ _ _ _ _ _⟩
 clear D;refine(F.out _ A.out.1).mono ?_;rintro e w1 ⟨rfl,d⟩;have x:=ao (fB A.out d);obtain⟨⟨n,p,q,r⟩,⟨j,m⟩,g,h⟩:=x.out.2.2.facts;clear d A;go_wp2_with fail;clear n p q r j m g h;refine(I.out _ x.out.1).mono ?_;rintro e P ⟨rfl,d⟩;have y:=ao (fB x.out d);obtain⟨⟨n,p,q,r⟩,⟨j,m⟩,g,h⟩:=y.out.2.2.facts;clear d x;go_wp2_with fail;clear n p q r j m g h;refine(J.out _ y.out.1).mono ?_;rintro e Q ⟨rfl,d⟩;have z:=ao (fB y.out d);obtain⟨⟨n,p,q,r⟩,⟨j,m⟩,g,h⟩:=z.out.2.2.facts;clear d y;go_wp2_with fail;clear n p q r j m g h;refine(H.out _ z.out.1).mono ?_;rintro e R ⟨rfl,d⟩;have f:=ao (fB z.out d);obtain⟨⟨n,p,q,r⟩,⟨j,m⟩,g,h⟩:=f.out.2.2.facts;clear d z;go_wp2_with fail;refine(K.out _ f.out.1).mono ?_;rintro e S ⟨rfl,B⟩;have u:=ur B.out;have L:=(u (w.heap.size+1) (by omega) (by have:=f.out.2.1;omega) 0).1.trans j;have d1:=(u (w.heap.size+1) (by omega) (by have:=f.out.2.1;omega) 1).1.trans m;have N:=(u (w.heap.size+1) (by omega) (by have:=f.out.2.1;omega) 0).2.trans g;have O:=(u (w.heap.size+1) (by omega) (by have:=f.out.2.1;omega) 1).2.trans h;have G:=ao (Ap B.out f.out.1 f.out.2.1 (ab V.1) (ab V.2));clear u n p q r j m g h B;go_wp2_with fail;exact ar (v:=.tuple #[.agg #[ab V.1,ab V.2],ab 0]) (by simp[results,Tryz.results66,go_sem,L,d1]) rfl ⟨rfl,G.out⟩
theorem uH:(n:Nat)->(x:Tm n)->aA ⟨n,x⟩->((av n x).length:Int)<=sz n x+1
 | 0,_,_=>by simp[av,sz]
 | n+1,x,h=>by
  have c:=eq (bu n x) (h (bu n x) (by simp[av,bu]));by_cases a:x.1.1=4
  ·have key:∀l:List (Tm n),(∀y∈l,aA ⟨n,y⟩)->((l.flatMap λy=>av n y).length:Int)<=(l.map λy=>1+sz n y).sum:=by
     intro l
     induction l with
     | nil=>intro _;simp
     | cons y l ih=>
      intro b;have g:=uH n y (b y (by simp));have i:=ih (λf e=>b f (by simp[e]));simp only[bv,bf,aI,bC];omega
   have k:=key x.2.2 (λy d=>aR n x y h d);simp only[av,aZ,sz,if_pos a];omega
  ·have:x.2.2=[]:=bB (c.2.2.2.2 a);simp[av,this,sz,a]
theorem Hr{n:Nat}{x:Tm n}(a:bq n x=0):bT n x=true:=by
 rw[<-fZ]at a;unfold vH at a;cases hf:bT n x
 ·simp[hf]at a
 ·rfl
def jo(n:Nat)(x:Tm n)(room:Int)(ws:List Wd):Int:=if bq n x≠0 then bq n x else if aH n x=false then 5 else if decide (sz n x<=room-ws.length)=false then 6 else 0
def G7(n:Nat)(x:Tm n)(base:Nat)(a:ci)(room:Int)(ws:List Wd)(nm:List ByteArray)(M:Nat->Prop)(w:World)(e:Ending)(w':World):Prop:=
 (jo n x room ws≠0->e=.returned (.tuple #[G4 (0,0),ab (jo n x room ws)])/\ai w w')/\
 (jo n x room ws=0->(bq n x=0/\aH n x=true/\sz n x<=room-ws.length)/\e=.returned (.tuple #[G4 (aS n x ws nm).1,ab 0])/\lq base a room (aS n x ws nm).2.1 (aS n x ws nm).2.2 M w w')
theorem uj(n:Nat)(x:Tm n)(base:Nat)(e:ci)(room:Int)(ws:List Wd)(nm:List ByteArray)(M:Nat->Prop)(w:World)(A:dy base e room ws nm M w)(m:In w.heap.size w n x)(G:bZ (λb=>¬M b) n x)(B:(av n x).length<=2097152)(S:base<=w.heap.size)(I:0<=room)(H:room<=1000)(V:ws.length<=1000)(T:nm.length<=50000):ak 66 #[.pointer (some ⟨e.b,e.o,none⟩),df n x] w (G7 n x base e room ws nm M w):=by
 cases n with
 | zero=>exact m.elim
 | succ n=>
 have k:∀a,ai w a->ak 51 #[df (n+1) x] a λd g=>d=.returned (ab (bq (n+1) x))/\ai a g:=λa f=>dB (n+1) x w.heap.size a (m.below f) f.size B;have l:∀a,ai w a->ak 52 #[df (n+1) x] a λd g=>d=.returned (.bool (aH (n+1) x))/\ai a g:=λa f=>im (n+1) x w.heap.size a (m.below f) f.size;have z:∀a,ai w a->ak 81 #[df (n+1) x] a λd g=>d=.returned (ab (sz (n+1) x))/\ai a g:=λa f=>xg (n+1) x w.heap.size a (m.below f) f.size B;have q:∀a,ai w a->ak 97 #[.pointer (some ⟨e.b,e.o,none⟩),ab (sz (n+1) x)] a λd g=>d=.returned (.bool (decide (sz (n+1) x<=room-ws.length)))/\ai a g:=by
  intro a f;obtain⟨P,N,O,K,L,W,_⟩:=A.later f;obtain⟨v,y,rfl⟩:∃v y,P=.slice v ws.length y:=by
   rcases L.2 with⟨d,E⟩|⟨R,c,Q,d,_⟩
   ·exact⟨none,0,by rw[d,E]⟩
   ·exact⟨_,c,d⟩
  exact Aj e room (sz (n+1) x) v ws.length y N O a (by omega) I H K
 by_cases i:bq (n+1) x=0
 ·rw[i]at k;by_cases u:aH (n+1) x=false
  ·rw[u]at l;have d:jo (n+1) x room ws=5:=by simp[jo,i,u]
   refine(M1 e x.1.1 x.1.2.1 x.1.2.2 x.2.1.1 x.2.2.length x.2.1.2 w k l).mono ?_;rintro s g ⟨rfl,h⟩;exact⟨λ_=>⟨by rw[d];rfl,h⟩,λj=>absurd (d.symm.trans j) (by decide)⟩
  ·have r:aH (n+1) x=true:=by simpa using u
   rw[r]at l;by_cases p:sz (n+1) x<=room-ws.length
   ·have t:decide (sz (n+1) x<=room-ws.length)=true:=by simpa using p
    rw[t]at q;have d:jo (n+1) x room ws=0:=by simp[jo,i,r,p]
    have C:aA ⟨n+1,x⟩:=aJ.2 (Hr i);have U:=uH (n+1) x C;have D:∀a,ai w a->ak 98 #[.pointer (some ⟨e.b,e.o,none⟩),df (n+1) x] a λd g=>d=.returned (G4 (aS (n+1) x ws nm).1)/\Hid (lq base e room (aS (n+1) x ws nm).2.1 (aS (n+1) x ws nm).2.2 (λb=>M b/\b<w.heap.size) a g):=by
     intro a f;have J:=f.size;exact K7 (n+1) x base e room ws nm _ a (A.later f) ((m.below f).mono J) (G.mono λb h F=>h F.1) (by omega) C (by omega) (by omega)
    refine(M3 e x.1.1 x.1.2.1 x.1.2.2 x.2.1.1 x.2.2.length x.2.1.2 w (sz (n+1) x) (aS (n+1) x ws nm).1 base room (aS (n+1) x ws nm).2.1 (aS (n+1) x ws nm).2.2 M k l z q D).mono ?_;rintro s g ⟨rfl,h⟩;exact⟨λj=>absurd d j,λ_=>⟨⟨i,r,p⟩,rfl,h.out⟩⟩
   ·have t:decide (sz (n+1) x<=room-ws.length)=false:=by simpa using p
    rw[t]at q;have d:jo (n+1) x room ws=6:=by simp[jo,i,r,p]
    refine(M2 e x.1.1 x.1.2.1 x.1.2.2 x.2.1.1 x.2.2.length x.2.1.2 w (sz (n+1) x) k l z q).mono ?_;rintro s g ⟨rfl,h⟩;exact⟨λ_=>⟨by rw[d];rfl,h⟩,λj=>absurd (d.symm.trans j) (by decide)⟩
 ·have d:jo (n+1) x room ws=bq (n+1) x:=by simp[jo,i]
  refine(M0 e x.1.1 x.1.2.1 x.1.2.2 x.2.1.1 x.2.2.length x.2.1.2 w (bq (n+1) x) (by simpa using i) k).mono ?_;rintro s g ⟨rfl,h⟩;exact⟨λ_=>⟨by rw[d];rfl,h⟩,λj=>absurd (d.symm.trans j) i⟩
def pn(q:Nat)(k a:Int)(w:World):Prop:=w.heap[q]?=some (.cells #[ab k,ab a] 105)/\p8 (q+1) w
theorem D7(w:World)(k a:Int):pn w.heap.size k a ((w.alloc (Obj.cells #[ab k,ab a] 105)).alloc (Obj.cells #[ab 0,ab 0,ae ⟨#[]⟩,.slice none 0 0] 30)):=by
 refine⟨((cW (w.alloc (Obj.cells #[ab k,ab a] 105)) (Obj.cells #[ab 0,ab 0,ae ⟨#[]⟩,.slice none 0 0] 30) none).block _ (by simp) (by simp)).trans (az w _),?_⟩;have:=az (w.alloc (Obj.cells #[ab k,ab a] 105)) (Obj.cells #[ab 0,ab 0,ae ⟨#[]⟩,.slice none 0 0] 30);have es:∀o,(w.alloc o).heap.size=w.heap.size+1:=λo=>by simp
 rw[es]at this;exact this
theorem ue{k d:Int}{w w1 w2:World}(e:ai w w1/\w.heap.size+2<=w1.heap.size/\pn w.heap.size k d w1)(a:ai w1 w2):ai w w2/\w.heap.size+2<=w2.heap.size/\pn w.heap.size k d w2:=by
 obtain⟨b,f,c⟩:=e;have:=a.size;exact⟨b.trans (a.mono b.size),by omega,(a.block _ (by omega)).trans c.1,(a.block _ (by omega)).trans c.2⟩
theorem pn.cells{q:Nat}{k a:Int}{w:World}(b:pn q k a w):w.cell? ⟨q,0,none⟩=some (ab k)/\w.cell? ⟨q,1,none⟩=some (ab a):=by
 obtain⟨c,_⟩:=b;refine⟨?_,?_⟩
 all_goals simp[World.cell?,c]
theorem N4(c:ci)(k d:Int)(w:World)(j:Hid (∀w1,ai w w1->ak 99 #[.pointer (some ⟨c.b,c.o,none⟩),.agg #[ab k,ab d]] w1 λe w'=>e=.returned (.bool false)/\ai w1 w')):ak 68 #[.pointer (some ⟨c.b,c.o,none⟩),.agg #[ab k,ab d]] w λe w'=>e=.returned (.tuple #[.agg #[ab 0,ab 0,ae .empty,.slice none 0 0],ab 1])/\ai w w':=by
 go_enter Tryz.func68,Tryz.ntmps68;go_wp2_with fail;generalize h:(w.alloc (Obj.cells #[ab k,ab d] 105)).alloc (Obj.cells #[ab 0,ab 0,ae ⟨#[]⟩,.slice none 0 0] 30)=g;have a:Hid (ai w g/\w.heap.size+2<=g.heap.size/\pn w.heap.size k d g):=by
  subst h;exact⟨((am _ _).alloc (aj _) _).alloc (by simp) _,by simp,D7 _ _ _⟩
 clear h;refine(j.out _ a.out.1).mono ?_;rintro e w1 ⟨rfl,f⟩;have i:=ao (ue a.out f);obtain⟨⟨m,n,p,q⟩,x⟩:=i.out.2.2.2.cells;have l:=ao (λr s t u=>xC a.out.1 f r s t u);clear f a;go_wp2_with fail;exact ar (v:=.tuple #[.agg #[ab 0,ab 0,ae .empty,.slice none 0 0],ab 1]) (by simp[results,Tryz.results68,go_sem,m,n,p,q];rfl) rfl ⟨rfl,l.out _ _ _ _⟩
theorem MS(n:Nat)(x:Tm (n+1))(c:ci)(k d:Int)(w:World)(A:Hid (∀w1,ai w w1->ak 99 #[.pointer (some ⟨c.b,c.o,none⟩),.agg #[ab k,ab d]] w1 λe w'=>e=.returned (.bool true)/\ai w1 w'))(C:Hid (∀w1,ai w w1->ak 100 #[.pointer (some ⟨c.b,c.o,none⟩),.agg #[ab k,ab d]] w1 λe w'=>∃y:Tm (n+1),e=.returned (df (n+1) y)/\Hid (ai w1 w'/\In w'.heap.size w' (n+1) y/\bZ (λq=>w1.heap.size<=q) (n+1) y/\aw (n+1) y (n+1) x=true))):ak 68 #[.pointer (some ⟨c.b,c.o,none⟩),.agg #[ab k,ab d]] w λe w'=>∃y:Tm (n+1),e=.returned (.tuple #[df (n+1) y,ab 0])/\Hid (ai w w'/\In w'.heap.size w' (n+1) y/\bZ (λq=>w.heap.size<=q) (n+1) y/\aw (n+1) y (n+1) x=true):=by
 go_enter Tryz.func68,Tryz.ntmps68;go_wp2_with fail;generalize t:(w.alloc (Obj.cells #[ab k,ab d] 105)).alloc (Obj.cells #[ab 0,ab 0,ae ⟨#[]⟩,.slice none 0 0] 30)=m;have j:Hid (ai w m/\w.heap.size+2<=m.heap.size/\pn w.heap.size k d m):=by
  subst t;exact⟨((am _ _).alloc (aj _) _).alloc (by simp) _,by simp,D7 _ _ _⟩
 clear t;refine(A.out _ j.out.1).mono ?_;rintro e w1 ⟨rfl,s⟩;have a:=ao (ue j.out s);obtain⟨L,M⟩:=a.out.2.2.cells;clear s j;go_wp2_with fail;refine(C.out _ a.out.1).mono ?_;rintro e p ⟨y,rfl,l⟩;have z:=ao (ue a.out l.out.1);obtain⟨⟨H,I,J,K⟩,N⟩:=z.out.2.2.2.cells;have B:Hid (∀f g h i,ai w (cG p (w.heap.size+1) 0 f g h i)/\In (cG p (w.heap.size+1) 0 f g h i).heap.size (cG p (w.heap.size+1) 0 f g h i) (n+1) y/\bZ (λq=>w.heap.size<=q) (n+1) y/\aw (n+1) y (n+1) x=true):=by
  intro f g h i;obtain⟨E,F,u,G⟩:=l.out;have O:=a.out.2.1;refine⟨xC a.out.1 E f g h i,?_,u.mono λq D=>by omega,G⟩;rw[bj];exact In.off (λq D=>aT (by omega) _ _ _ _) u F
 have r:df (n+1) y=.agg #[ab y.1.1,ab y.1.2.1,ae y.1.2.2,.slice y.2.1.1 y.2.2.length y.2.1.2]:=rfl;rw[r];clear L M l a r;go_wp2_with fail;exact ar (v:=.tuple #[df (n+1) y,ab 0]) (by simp[results,Tryz.results68,go_sem,H,I,J,K,df]) rfl ⟨y,rfl,B.out _ _ _ _⟩
theorem C0{c:Type}{l b:List c}(d:l <+:b){i:Nat}{x:c}(a:l[i]?=some x):b[i]?=some x:=by
 obtain⟨e,rfl⟩:=d;rw[dg (aM.1 a).1];exact a
theorem dz.mono{ws l:List Wd}{nm k:List ByteArray}(d:ws <+:l)(j:nm <+:k):{n:Nat}->{x:Tm n}->{v:Wd}->dz ws nm n x v->dz l k n x v
 | 0,_,_,h=>h
 | n+1,x,v,h=>by
  obtain⟨a,b,c⟩:=h;refine⟨λe=>?_,λe=>?_,c⟩
  ·obtain⟨i,f,g⟩:=a e;exact⟨i,f,C0 j g⟩
  ·obtain⟨p,f,g,m,o⟩:=b e;refine⟨p,f,C0 d g,ax m d.length_le,λi y s=>?_⟩;obtain⟨t,q,r⟩:=o i y s;exact⟨t,C0 d q,r.mono d j⟩
theorem FP(nm:List ByteArray)(s:ByteArray):nm <+:ew nm s:=by
 unfold ew;split
 ·exact gg _
 ·exact oH _ _
theorem qz{n:Nat}(f:∀(x:Tm n)(ws:List Wd)(nm:List ByteArray),ws <+:(aS n x ws nm).2.1/\nm <+:(aS n x ws nm).2.2)(l:List (Tm n))(ws:List Wd)(nm:List ByteArray):ws <+:(bF (aS n) l ws nm).2.1/\nm <+:(bF (aS n) l ws nm).2.2:=by
 induction l generalizing ws nm with
 | nil=>exact⟨gg _,gg _⟩
 | cons a l ih=>
  obtain⟨d,b⟩:=f a ws nm;obtain⟨c,e⟩:=ih (aS n a ws nm).2.1 (aS n a ws nm).2.2;exact⟨d.trans c,b.trans e⟩
theorem lI:(n:Nat)->(x:Tm n)->(ws:List Wd)->(nm:List ByteArray)->ws <+:(aS n x ws nm).2.1/\nm <+:(aS n x ws nm).2.2
 | 0,_,_,_=>⟨gg _,gg _⟩
 | n+1,x,ws,nm=>by
  by_cases c:x.1.1=2
  ·simp only[aS,if_pos c];exact⟨gg _,FP _ _⟩
  ·by_cases d:x.1.1=4
   ·simp only[aS,if_neg c,if_pos d];obtain⟨a,b⟩:=qz (lI n) x.2.2 ws nm;exact⟨a.trans (oH _ _),b⟩
   ·simp only[aS,if_neg c,if_neg d];exact⟨gg _,gg _⟩
theorem I4(nm:List ByteArray)(s:ByteArray):(ew nm s)[kF (ew nm s) s]?=some s:=by
 have d:s∈ew nm s:=by
  unfold ew;split
  ·rename_i b;exact(yj nm s).1 b
  ·simp
 have a:kF (ew nm s) s<(ew nm s).length:=by
  unfold kF;rw[List.findIdx_lt_length];exact⟨s,d,(nZ s s).2 rfl⟩
 have c:(ew nm s)[kF (ew nm s) s]'a=s:=(nZ s _).1 (List.findIdx_getElem (w:=a));rw[aE a,c]
theorem nC{n:Nat}(j:∀(x:Tm n)(ws:List Wd)(nm:List ByteArray),aA ⟨n,x⟩->dz (aS n x ws nm).2.1 (aS n x ws nm).2.2 n x (aS n x ws nm).1)(l:List (Tm n))(ws:List Wd)(nm:List ByteArray)(e:∀y∈l,aA ⟨n,y⟩):∀(i:Nat)(y:Tm n),l[i]?=some y->∃d,(bF (aS n) l ws nm).1[i]?=some d/\dz (bF (aS n) l ws nm).2.1 (bF (aS n) l ws nm).2.2 n y d:=by
 induction l generalizing ws nm with
 | nil=>intro i y a;simp at a
 | cons c l ih=>
  intro i y a;cases i with
  | zero=>
   simp at a;subst a;obtain⟨f,b⟩:=qz (lI n) l (aS n c ws nm).2.1 (aS n c ws nm).2.2;exact⟨(aS n c ws nm).1,rfl,(j c ws nm (e c (by simp))).mono f b⟩
  | succ i=>
   obtain⟨d,g,h⟩:=ih (aS n c ws nm).2.1 (aS n c ws nm).2.2 (λy a=>e y (by simp[a])) i y (by simpa using a);exact⟨d,by simpa [bF]using g,h⟩
theorem gC:(n:Nat)->(x:Tm n)->(ws:List Wd)->(nm:List ByteArray)->aA ⟨n,x⟩->dz (aS n x ws nm).2.1 (aS n x ws nm).2.2 n x (aS n x ws nm).1
 | 0,_,_,_,h=>(cZ h).elim
 | n+1,x,ws,nm,h=>by
  by_cases b:x.1.1=2
  ·have c:¬x.1.1=4:=by omega
   simp only[aS,if_pos b];exact⟨λ_=>⟨_,rfl,I4 _ _⟩,λa=>absurd a c,λa=>absurd b a⟩
  ·by_cases c:x.1.1=4
   ·simp only[aS,if_neg b,if_pos c];have j:=gD (aS n) x.2.2 ws nm;refine⟨λa=>absurd a b,λ_=>⟨_,rfl,?_,?_,λe f d=>?_⟩,λ_ a=>absurd c a⟩
    ·rw[dN (aj _),gI];rfl
    ·simp only[bf,aZ,j];omega
    ·obtain⟨k,g,i⟩:=nC (gC n) x.2.2 ws nm (λf d=>aR n x f h d) e f d;refine⟨k,?_,i.mono (oH _ _) (gg _)⟩;rw[dN (by omega)];have:(bF (aS n) x.2.2 ws nm).2.1.length+1+e-(bF (aS n) x.2.2 ws nm).2.1.length=e+1:=by omega
     rw[this];simpa using g
   ·simp only[aS,if_neg b,if_neg c];exact⟨λa=>absurd a b,λa=>absurd a c,λ_ _=>rfl⟩
def zg(q:Nat)(w:World):Prop:=w.heap[q]?=some (.cells #[ab 0,ab 0] 105)
theorem zg.facts{q:Nat}{w:World}(a:zg q w):(w.cell? ⟨q,0,none⟩=some (ab 0)/\w.cell? ⟨q,1,none⟩=some (ab 0))/\w.frozen? ⟨q,0,none⟩=false/\w.frozen? ⟨q,1,none⟩=false:=by
 unfold zg at a;refine⟨⟨?_,?_⟩,?_,?_⟩
 all_goals simp[World.cell?,World.frozen?,a]
end Go.Proofs.YtckamaoibonjcaaGreat

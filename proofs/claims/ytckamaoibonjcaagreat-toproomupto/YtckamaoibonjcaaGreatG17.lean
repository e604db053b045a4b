/- What is proved here: plain facts and contracts that the claimed theorem stands on. No condition but those that each names. -/
import Derived.Test.YtckamaoibonjcaaGreatG16
namespace Go.Proofs.YtckamaoibonjcaaGreat
open Go.RowKit
set_option maxHeartbeats 1000000
set_option maxRecDepth 100000
def dv(ws:List Wd)(nm:List ByteArray):(n:Nat)->Tm n->Wd->Prop
 | 0,_,_=>False
 | n+1,x,v=>(x.1.1=2->∃i:Nat,v=(2,(i:Int))/\nm[i]?=some x.1.2.2)/\
    (x.1.1=4->∃p:Nat,v=(4,(p:Int))/\ws[p]?=some (0,(x.2.2.length:Int))/\p+1+x.2.2.length<=ws.length/\∀(i:Nat)(y:Tm n),x.2.2[i]?=some y->∃a,ws[p+1+i]?=some a/\dv ws nm n y a)/\
    (x.1.1≠2->x.1.1≠4->v=(x.1.1,x.1.2.1))
def eq(w:World)(vs:List Wd)(a:Option Addr):Prop:=vs=[]\/∃b o,a=some ⟨b,o,none⟩/\b<w.heap.size/\∀(i:Nat)(v:Wd),vs[i]?=some v->w.cell? ⟨b,o+i*2,none⟩=some (.int .i64 v.1)/\w.cell? ⟨b,o+i*2+1,none⟩=some (.int .i64 v.2)
def NR(n:Nat):Prop:=∀(x:Tm n)(v:Wd)(base:Nat)(a:cg)(room:Int)(ws:List Wd)(nm:List ByteArray)(M:Nat->Prop)(w:World),du base a room ws nm M w->ws.length<=100000->nm.length<=100000->dv ws nm n x v->av ⟨n,x⟩->
 ah 100 #[.pointer (some ⟨a.b,a.o,none⟩),GL v] w λe w'=>∃y:Tm n,e=.returned (dd n y)/\Hid (ag w w'/\In w'.heap.size w' n y/\bV (λq=>w.heap.size<=q) n y/\au n y n x=true)
def pW(q:Nat)(w:World):Prop:=w.heap[q]?=some (.cells #[.int .i64 0,.int .i64 0,.string .empty,.slice none 0 0] 30)
theorem pW.kept{q:Nat}{w w':World}(a:pW q w)(k:w'.heap[q]?=w.heap[q]?):pW q w':=k.trans a
theorem pW.cells{q:Nat}{w:World}(a:pW q w):(w.cell? ⟨q,0,none⟩=some (.int .i64 0)/\w.cell? ⟨q,1,none⟩=some (.int .i64 0)/\w.cell? ⟨q,2,none⟩=some (.string .empty)/\w.cell? ⟨q,3,none⟩=some (.slice none 0 0))/\∀j,w.frozen? ⟨q,j,none⟩=false:=by
 unfold pW at a;refine⟨⟨?_,?_,?_,?_⟩,λj=>?_⟩
 all_goals simp[World.cell?,World.frozen?,a]
theorem Jx{n:Nat}{p:List (Tm n)}{len:Nat}{w w0:World}(f:w0.ownsRow (w.heap.size+1) 30 4 (.slice (some ⟨(w.alloc (.cells #[.int .i64 0,.int .i64 0,.string .empty,.slice none 0 0] 30)).heap.size,0,none⟩) len len) len (madeCells (Value.agg #[.int .i64 0,.int .i64 0,.string .empty,.slice none 0 0]).cells (len*4)).toList)(a:(w.alloc (.cells #[.int .i64 0,.int .i64 0,.string .empty,.slice none 0 0] 30)).grownBy w0 none):ag w w0/\tj n p len (w.heap.size+1) 0 [] w0/\pW w.heap.size w0:=by
 have c:(w.alloc (.cells #[.int .i64 0,.int .i64 0,.string .empty,.slice none 0 0] 30)).heap.size=w.heap.size+1:=by simp
 have g:ag w (w.alloc (.cells #[.int .i64 0,.int .i64 0,.string .empty,.slice none 0 0] 30)):=(ak _ _).alloc (ai _) _;have d:Below (w.heap.size+1) (w.alloc (.cells #[.int .i64 0,.int .i64 0,.string .empty,.slice none 0 0] 30)) w0:=⟨a.os,a.tape,a.output,a.size,λb h=>a.block b (by omega) (by simp)⟩;have e:=qk (w:=w.alloc (.cells #[.int .i64 0,.int .i64 0,.string .empty,.slice none 0 0] 30)) n p len (by rw[c]at f ⊢;exact f);rw[c]at e;exact⟨g.trans (d.mono (by omega)),e,(d.block _ (by omega)).trans (ax w _)⟩
theorem tj.end{n:Nat}{p:List (Tm n)}{len g:Nat}{l:List (Tm n)}{w wr:World}(r:tj n p len g len l wr)(A:p.length=len)(z:g=w.heap.size+1)(c:ag w wr)(t:len<=maxLen):∀v0 v1 v2 v3,gn n p w (cE wr w.heap.size 0 v0 v1 v2 v3) (some ⟨g,0,none⟩) len l:=by
 intro v0 v1 v2 v3;obtain⟨y,e,i,j⟩:=r;rw[bw (by omega)]at j;rw[ji,mg,dY]at e;refine⟨⟨c.os,c.tape,c.output,aw c.size (dk (bf _ _ _ _).symm),λh f=>(aR (by omega) _ _ _ _).trans (c.block h f)⟩,by omega,by omega,t,j,af ⟨g,0,rfl,⟨by omega,rfl,λv=>?_,λa d=>(i a d).2.mono λh f=>by omega⟩,by rw[bf];exact e.lt.2,λu a d=>?_⟩⟩
 ·have k:=e.free v;unfold World.frozen? at k ⊢;rw[aR (w:=wr) (g:=w.heap.size) (b:=g) (o:=0) (by omega) v0 v1 v2 v3];exact k
 have s:=e.cells u ⟨n,a⟩ (by simp[d]);have m:=(i a (aC d)).1;have q:=(i a (aC d)).2;refine⟨?_,?_,q.mono λh f=>by omega⟩
 ·cases n with
  | zero=>exact m.elim
  | succ n=>
   rw[cN];exact dy.block (aR (by omega) _ _ _ _) (n:=n+1) (x:=a) s
 ·rw[bf];exact In.off (λh f=>aR (by omega) _ _ _ _) q m
theorem yH(n:Nat)(ih:NR n)(base:Nat)(q:cg)(room:Int)(ws:List Wd)(nm:List ByteArray)(M:Nat->Prop)(a:Option Addr)(len pc:Nat)(p:List (Tm n))(vs:List Wd)(Y:Hid (p.length=len))(aA:Hid (vs.length=len))(w:World)(Q:Hid (du base q room ws nm M w))(aU:len<=8)(al:Hid (ws.length<=100000))(W:Hid (nm.length<=100000))(U:Hid (eq w vs a))(aa:Hid (∀(i:Nat)(y:Tm n)(v:Wd),p[i]?=some y->vs[i]?=some v->dv ws nm n y v))(Z:Hid (∀y∈p,av ⟨n,y⟩)):ah 134 #[.pointer (some ⟨q.b,q.o,none⟩),.slice a len pc] w λe w'=>∃N O l,e=.returned (.agg #[.int .i64 4,.int .i64 0,.string .empty,.slice N len O])/\Hid (gn n p w w' N O l):=by
 obtain⟨aB,V,ab,ad,ae⟩:=bO fR;go_enter Tryz.func134,Tryz.ntmps134;go_wp2_with (at_make;refine ke _ rfl _ _ 28 rfl (w.heap.size+1) 30 aB _ 4 Tryz.underlying28 V ab ad _ _ _ _ len rfl rfl rfl rfl (by rw[ae];omega) (by unfold maxLen;omega) (by simp) ?_;intro F X T;have A:=aj (Jx (p:=p) X T);clear X T);clear V ab ad ae;obtain⟨d,S⟩:∃d,w.heap.size+1=d:=⟨_,rfl⟩;rw[S]at A ⊢;obtain⟨ao,J,L⟩:Hid (ag w F)/\Hid (tj n p len d 0 [] F)/\Hid (pW w.heap.size F):=A.out;clear A;go_loopw [13] (λi wr=>∃k:Nat,k<=len/\i=.int .i64 k/\Hid (ag w wr/\pW w.heap.size wr/\∃l,tj n p len d k l wr)) (λi _=>len-(intOf i).toNat)
 case atStart=>exact⟨0,by omega,rfl,ao.out,L.out,[],J.out⟩
 case round=>
  clear J L;obtain⟨k,aQ,rfl,K⟩:=hrel;obtain⟨g,t,l,h⟩:Hid (ag w wr)/\Hid (pW w.heap.size wr)/\∃l,Hid (tj n p len d k l wr):=K.out;clear K;by_cases B:k<len
  ·obtain⟨f,u⟩:∃f,p[k]?=some f:=⟨p[k]'(by rw[Y.out];exact B),aD _⟩;obtain⟨v,s⟩:∃v,vs[k]?=some v:=⟨vs[k]'(by rw[aA.out];exact B),aD _⟩;obtain⟨b,o,rfl,R,af⟩:∃b o,a=some ⟨b,o,none⟩/\b<w.heap.size/\∀(i:Nat)(v:Wd),vs[i]?=some v->w.cell? ⟨b,o+i*2,none⟩=some (.int .i64 v.1)/\w.cell? ⟨b,o+i*2+1,none⟩=some (.int .i64 v.2):=by
    rcases U.out with e|e
    ·rw[e]at s;simp at s
    ·exact e
   obtain⟨D,E⟩:=af k v s;replace D:=(am g.out b (o+k*2) R).trans D;replace E:=(am g.out b (o+k*2+1) R).trans E;have az:=aj u;have aP:d<wr.heap.size:=h.out.2.1.lt.2
   have H:Hid (∀(c:World),ag wr c->ah 100 #[.pointer (some ⟨q.b,q.o,none⟩),.agg #[.int .i64 v.1,.int .i64 v.2]] c λe w'=>∃y:Tm n,e=.returned (dd n y)/\Hid (ag c w'/\In w'.heap.size w' n y/\bV (λx=>c.heap.size<=x) n y/\au n y n f=true)):=
    λc j=>ih f v base q room ws nm _ c (Q.out.later (g.out.trans (j.mono g.out.size))) al.out W.out (aa.out k f v u s) (Z.out f (aC u))
   clear ih u s af U aa Z Q al W;have aS:(0:Int)<=(k:Int):=by omega
   have aT:(k:Int)<(len:Int):=by omega
   have aV:b<wr.heap.size:=by omega
   go_wp2_with fail;refine(H.out _ ((ak _ _).alloc (ai _) _)).mono ?_;rintro e c ⟨y,rfl,m⟩;have r:Hid (ag wr c):=((ak _ _).alloc (ai _) _).trans (m.out.1.mono (by simp));have ay:=aj (h.out.step B f az.out r.out y m.out.2.1 (m.out.2.2.1.mono λx C=>by simp at C;omega) m.out.2.2.2);have z:=aj (h.out.2.1.below r.out);have I:=m.out.2.1;cases n with
   | zero=>exact I.elim
   | succ n=>
   clear I;have aq:Hid (ag w (iT c d (k*4) (fQ (n+1) y))):=by
    have j:=g.out.trans (r.out.mono g.out.size);exact⟨j.os,j.tape,j.output,aw j.size (dk (bf _ _ _ _).symm),λx C=>(aR (by omega) _ _ _ _).trans (j.block x C)⟩
   have ar:Hid (pW w.heap.size (iT c d (k*4) (fQ (n+1) y))):=t.out.kept ((aR (by omega) _ _ _ _).trans (r.out.block _ (by omega)));obtain⟨G,an⟩:∃G,(l.map (λf=>(⟨n+1,f⟩:An))++List.replicate (len-k) zA)[k]?=some G:=⟨_,aD (by simp[h.out.1];omega)⟩;obtain⟨aJ,aK,aL,aM⟩:=z.out.cells k G an;have aO:=λaE=>z.out.free aE;have P:dd (n+1) y=.agg #[.int .i64 y.1.1,.int .i64 y.1.2.1,.string y.1.2.2,.slice y.2.1.1 y.2.2.length y.2.1.2]:=rfl;rw[P];clear H h g m r z t D E an P;go_wp2_with fail;go_roundw
   case rel=>exact⟨k+1,by omega,by go_num,aq.out,ar.out,l++ [y],ay.out⟩
   case measure=>simp[intOf];omega
  ·obtain rfl:k=len:=by omega
   have ax:=aj (h.out.end Y.out S.symm g.out (by unfold maxLen;omega));obtain⟨⟨aF,aG,aH,aI⟩,aN⟩:=t.out.cells;clear h ih t;go_wp2_with fail;exact ap (v:=.agg #[.int .i64 4,.int .i64 0,.string .empty,.slice (some ⟨d,0,none⟩) k k]) (by simp[results,Tryz.results134,go_sem,aF,aG,aH,aI];rfl) rfl ⟨_,_,l,rfl,ax.out _ _ _ _⟩
theorem xp{w wA w2:World}(b:ag w wA)(c:ag wA w2)(v0 v1 v2 v3:Value):ag w (cE w2 (w.heap.size+1) 0 v0 v1 v2 v3):=by
 have a:=b.trans (c.mono b.size);exact⟨a.os,a.tape,a.output,aw a.size (dk (bf _ _ _ _).symm),λe d=>(aR (by omega) _ _ _ _).trans (a.block e d)⟩
theorem Gh(c:cg)(k a:Int)(w:World)(d:¬k=2)(f:¬k=4):ah 100 #[.pointer (some ⟨c.b,c.o,none⟩),.agg #[.int .i64 k,.int .i64 a]] w λe w'=>e=.returned (.agg #[.int .i64 k,.int .i64 a,.string .empty,.slice none 0 0])/\ag w w':=by
 have g:(k==2)=false:=by simpa using d
 have h:(k==4)=false:=by simpa using f
 go_enter Tryz.func100,Tryz.ntmps100;go_wp2_with fail;exact ap (v:=.agg #[.int .i64 k,.int .i64 a,.string .empty,.slice none 0 0]) (by simp[results,Tryz.results100,go_sem];rfl) rfl ⟨rfl,by go_grown⟩
theorem Gg(base:Nat)(a:cg)(room:Int)(ws:List Wd)(nm:List ByteArray)(M:Nat->Prop)(i:Nat)(s:ByteArray)(w:World)(m:Hid (du base a room ws nm M w))(q:nm.length<=100000)(r:Hid (nm[i]?=some s))(t:s.size<=2048):ah 100 #[.pointer (some ⟨a.b,a.o,none⟩),.agg #[.int .i64 2,.int .i64 i]] w λe w'=>e=.returned (.agg #[.int .i64 2,.int .i64 0,.string s,.slice none 0 0])/\ag w w':=by
 go_enter Tryz.func100,Tryz.ntmps100;go_wp2_with fail;generalize f:(w.alloc (Obj.cells #[Value.int IntKind.i64 2,Value.int IntKind.i64 i] 105)).alloc (Obj.cells #[.int .i64 0,.int .i64 0,.string ⟨#[]⟩,.slice none 0 0] 30)=wA;have c:Hid (ag w wA.drew/\wA.drew.heap.size=w.heap.size+2):=by
  subst f;exact⟨(((ak _ _).alloc (ai _) _).alloc (by simp) _).drew,by simp[World.drew]⟩
 have D:wA.cell? ⟨w.heap.size,1,none⟩=some (.int .i64 i):=by subst f;simp[go_sem]
 have l:Hid (pW (w.heap.size+1) wA.drew):=by
  subst f;have:=ax (w.alloc (Obj.cells #[Value.int IntKind.i64 2,Value.int IntKind.i64 i] 105)) (Obj.cells #[.int .i64 0,.int .i64 0,.string ⟨#[]⟩,.slice none 0 0] 30);have es:∀o,(w.alloc o).heap.size=w.heap.size+1:=λo=>by simp
  rw[es]at this;exact this
 have j:Hid (ah 133 #[.pointer (some ⟨a.b,a.o+2,none⟩),.int .i64 i] wA.drew λe w'=>e=.returned (.string s)/\Below wA.drew.heap.size wA.drew w'):=by
  obtain⟨C,u,x,n,F,p,_⟩:=m.out.later c.out.1;exact Cx base a room C u x nm i s wA.drew n p.1 r q t
 clear f;go_region_held3 (λw'=>w'.cell? ⟨w.heap.size,1,none⟩=some (.int .i64 i)) (go_keep) ((go_at_call 133;refine j.out.mono ?_;rintro e H ⟨rfl,d⟩;have g:=aj d;have G:=λo=>am d w.heap.size o (by have:=c.out.2;omega);have h:=aj (l.out.kept (d.block _ (by have:=c.out.2;omega)));obtain⟨⟨y,z,A,B⟩,E⟩:=h.out.cells;clear d));have k:=aj (xp c.out.1 g.out (.int .i64 2) (.int .i64 0) (.string s) (.slice none 0 0));go_wp2_with fail;exact ap (v:=.agg #[.int .i64 2,.int .i64 0,.string s,.slice none 0 0]) (by simp[results,Tryz.results100,go_sem,y,z,A,B]) rfl ⟨rfl,k.out⟩
theorem DD(g o j:Nat):(⟨g,o,none⟩:Addr).add j=⟨g,o+j,none⟩:=by
 unfold Addr.add;by_cases a:j=0<;>simp[a]
theorem By{w:World}{vs:List Wd}{g o:Nat}(d:eG w vs (some ⟨g,o,none⟩))(h:g<w.heap.size):eq w vs (some ⟨g,o,none⟩):=by
 rcases d with d|⟨ad,c,e⟩
 ·exact ae d
 ·injection c with c;subst c;refine af ⟨g,o,rfl,h,λa b f=>⟨?_,?_⟩⟩
  ·have:=e (a*2+0) (.int .i64 b.1) (by rw[iy vs a b f 0 (by omega)];rfl);rw[DD]at this;exact this
  ·have:=e (a*2+1) (.int .i64 b.2) (by rw[iy vs a b f 1 (by omega)];rfl);rw[DD]at this;exact this
theorem Jr(n:Nat)(ih:NR n)(base:Nat)(a:cg)(room:Int)(ws:List Wd)(nm:List ByteArray)(M:Nat->Prop)(k len:Nat)(p:List (Tm n))(L:Hid (p.length=len))(w:World)(G:Hid (du base a room ws nm M w))(af:len<=8)(D:Hid (ws.length<=100000))(K:Hid (nm.length<=100000))(J:Hid (ws[k]?=some (0,(len:Int))))(C:Hid (k+1+len<=ws.length))(O:Hid (∀(i:Nat)(y:Tm n),p[i]?=some y->∃E,ws[k+1+i]?=some E/\dv ws nm n y E))(N:Hid (∀y∈p,av ⟨n,y⟩)):ah 100 #[.pointer (some ⟨a.b,a.o,none⟩),.agg #[.int .i64 4,.int .i64 k]] w λe w'=>∃g h l,e=.returned (.agg #[.int .i64 4,.int .i64 0,.string .empty,.slice g len h])/\Hid (gn n p w w' g h l):=by
 go_enter Tryz.func100,Tryz.ntmps100;go_wp2_with fail;generalize u:(w.alloc (Obj.cells #[Value.int IntKind.i64 4,Value.int IntKind.i64 k] 105)).alloc (Obj.cells #[.int .i64 0,.int .i64 0,.string ⟨#[]⟩,.slice none 0 0] 30)=wA;have m:Hid (ag w wA.drew/\wA.drew.heap.size=w.heap.size+2):=by
  subst u;exact⟨(((ak _ _).alloc (ai _) _).alloc (by simp) _).drew,by simp[World.drew]⟩
 have X:wA.cell? ⟨w.heap.size,1,none⟩=some (.int .i64 k):=by subst u;simp[go_sem]
 have V:Hid (pW (w.heap.size+1) wA.drew):=by
  subst u;have:=ax (w.alloc (Obj.cells #[Value.int IntKind.i64 4,Value.int IntKind.i64 k] 105)) (Obj.cells #[.int .i64 0,.int .i64 0,.string ⟨#[]⟩,.slice none 0 0] 30);have es:∀o,(w.alloc o).heap.size=w.heap.size+1:=λo=>by simp
  rw[es]at this;exact this
 have z:=aj (G.out.later m.out.1);obtain⟨c,j,f,A,F⟩:∃c j f,wA.cell? ⟨a.b,a.o+1,none⟩=some (.slice (some ⟨c,0,none⟩) j f)/\Hid (a.b<w.heap.size/\ah 135 #[.slice (some ⟨c,0,none⟩) j f,.int .i64 k] wA.drew λe w'=>∃o pc,e=.returned (.slice (some ⟨c,o,none⟩) len pc)/\w'=wA.drew/\Hid (eq wA.drew ((ws.drop (k+1)).take len) (some ⟨c,o,none⟩))):=by
  obtain⟨aK,aI,aJ,Y,B,aD,Z,_⟩:=z.out;obtain⟨⟨az,A,aA,aB⟩,aF⟩:=Y.cells;have ae:=C.out;obtain⟨c,f,rfl,_,_⟩:=B.form (by omega);refine⟨c,_,f,A,Z.2,?_⟩;refine(wg base c ws.length f k len ws wA.drew D.out B J ae).mono ?_;rintro e w' ⟨rfl,pa,pc,rfl,_,ao,o,rfl⟩;exact⟨o,pc,rfl,rfl,By ao (B.lt c rfl).2⟩
 have S:Hid (∀o pc,eq wA.drew ((ws.drop (k+1)).take len) (some ⟨c,o,none⟩)->ah 134 #[.pointer (some ⟨a.b,a.o,none⟩),.slice (some ⟨c,o,none⟩) len pc] wA.drew λe w'=>∃g h l,e=.returned (.agg #[.int .i64 4,.int .i64 0,.string .empty,.slice g len h])/\Hid (gn n p wA.drew w' g h l)):=by
  intro o pc ad;refine yH n ih base a room ws nm _ (some ⟨c,o,none⟩) len pc p ((ws.drop (k+1)).take len) L ?_ wA.drew z af D K ad ?_ N
  ·have:=C.out;unfold Hid;rw[dr,eC];omega
  ·intro i y v Q P;obtain⟨E,an,al⟩:=O.out i y Q;have ab:i<len:=by have:=(aL.1 Q).1;have:=L.out;omega
   rw[rQ ab,jX,an]at P;obtain rfl:=aq P;exact al
 clear u ih O N G z J C D K;have aG:a.b<w.heap.size:=F.out.1;have aH:w.heap.size+1≠a.b:=by omega
 have U:Hid (∀(d:World)(q r s t:Value),(d.cell? ⟨w.heap.size,1,none⟩=some (.int .i64 k)/\d.cell? ⟨a.b,a.o+1,none⟩=some (.slice (some ⟨c,0,none⟩) j f))->((((d.setCell ⟨w.heap.size+1,0,none⟩ q).setCell ⟨w.heap.size+1,1,none⟩ r).setCell ⟨w.heap.size+1,2,none⟩ s).setCell ⟨w.heap.size+1,3,none⟩ t).cell? ⟨w.heap.size,1,none⟩=some (.int .i64 k)/\((((d.setCell ⟨w.heap.size+1,0,none⟩ q).setCell ⟨w.heap.size+1,1,none⟩ r).setCell ⟨w.heap.size+1,2,none⟩ s).setCell ⟨w.heap.size+1,3,none⟩ t).cell? ⟨a.b,a.o+1,none⟩=some (.slice (some ⟨c,0,none⟩) j f)):=by
  intro d q r s t I;exact⟨(bk (aR (o:=0) (w:=d) (show w.heap.size≠w.heap.size+1 by omega) q r s t) 1).trans I.1,(bk (aR (o:=0) (w:=d) (show a.b≠w.heap.size+1 by omega) q r s t) (a.o+1)).trans I.2⟩
 go_region_held3 (λw'=>w'.cell? ⟨w.heap.size,1,none⟩=some (.int .i64 k)/\w'.cell? ⟨a.b,a.o+1,none⟩=some (.slice (some ⟨c,0,none⟩) j f)) (first|(go_keep;done)|exact U.out _ _ _ _ _ aa) ((first
  | (go_at_call 135;refine F.out.2.mono ?_;rintro e d ⟨o,pc,rfl,rfl,W⟩)
  | (go_at_call 134;refine(S.out _ _ W.out).mono ?_;rintro e d ⟨g,h,l,rfl,x⟩;have H:=λb o (aE:b<w.heap.size+1)=>am x.out.1 b o (by have:=m.out.2;omega);have aa:d.cell? ⟨w.heap.size,1,none⟩=some (.int .i64 k)/\d.cell? ⟨a.b,a.o+1,none⟩=some (.slice (some ⟨c,0,none⟩) j f):=⟨(H w.heap.size 1 (by omega)).trans X,(H a.b (a.o+1) (by omega)).trans A⟩;have R:=aj (V.out.kept (x.out.1.block _ (by have:=m.out.2;omega)));obtain⟨⟨ar,au,aw,ay⟩,aC⟩:=R.out.cells)))
 have T:=aj (x.out.box m.out.1 (by have:=m.out.2;omega) (.int .i64 4) (.int .i64 0) (.string .empty) (.slice g len h));go_wp2_with fail;exact ap (v:=.agg #[.int .i64 4,.int .i64 0,.string .empty,.slice g len h]) (by simp[results,Tryz.results100,go_sem,ar,au,aw,ay]) rfl ⟨g,h,l,rfl,T.out⟩
theorem tT(x:Nd)(b:cm x=true):dh x.1.1/\dh x.1.2.1:=by
 have c:=jM x b;unfold cm pT at b;unfold dh;rcases c with a|a|a|a|a|⟨a,d⟩
 all_goals (rw[a]at b ⊢;simp at b;refine⟨by omega,by omega⟩)
theorem Jq(n:Nat):NR n:=by
 induction n with
 | zero=>intro a ah u q room B z t s _ _ _ x;exact x.elim
 | succ n ih=>
  intro a ah u q room B z t s C V F x H;have p:=H (bu n a) (by simp[ar,bu]);have S:a.2.2.length<=8:=lF (bu n a) p;have G:a.1.2.2.size<=2048:=by have:=ru (bu n a) p;simp only[bu]at this;omega
  obtain⟨ad,ag,ab⟩:=x;have g:=eg (bu n a) p;have I:∀(e:World)(k A:Int)(r:ByteArray),dh k->dh A->r.size<=2048->In e.heap.size e (n+1) ((k,A,r),(none,0),[]):=λe k A r M d aj=>⟨⟨M,d,by unfold maxLen;show r.size<=_;omega,ai _,aB _⟩,ae rfl⟩;by_cases d:a.1.1=2
  ·obtain⟨j,rfl,P⟩:=ad d;have y:a.2.2=[]:=bD (g.2.2.2.2 (by show a.1.1≠4;omega));refine(Gg u q room B z t j a.1.2.2 s C F P G).mono ?_;rintro f e ⟨rfl,v⟩;refine⟨((2,0,a.1.2.2),(none,0),[]),rfl,v,I e 2 0 _ (by unfold dh;omega) (by unfold dh;omega) G,ae rfl,?_⟩;have N:a.1.2.1=0:=g.2.1 d;simp[au,d,N,y,az]
  ·by_cases h:a.1.1=4
   ·obtain⟨k,rfl,Q,R,T⟩:=ag h;refine(Jr n ih u q room B z t k a.2.2.length a.2.2 rfl s C S V F Q R T (λm i=>aN n a m H i)).mono ?_;rintro f e ⟨K,L,l,rfl,J⟩;obtain⟨W,X,Y,Z,aa,c⟩:=J.out;have O:a.1.2.1=0:=g.2.2.1 h;have w:a.1.2.2.toList=[]:=g.1 d;refine⟨((4,0,.empty),(K,L),l),by rw[<-X];rfl,W,⟨⟨by unfold dh;show (-9223372036854775808:Int)<=4/\(4:Int)<=9223372036854775807;omega,by unfold dh;show (-9223372036854775808:Int)<=0/\(0:Int)<=9223372036854775807;omega,by unfold maxLen;show (0:Nat)<=_;omega,Y,Z⟩,?_⟩,?_,?_⟩
    ·rcases c with c|⟨b,o,f,D,E,c⟩
     ·exact ae c
     ·exact af ⟨b,o,f,E,λj m i=>⟨(c j m i).1,(c j m i).2.1⟩⟩
    ·rcases c with c|⟨b,o,f,D,E,c⟩
     ·exact ae c
     ·exact af ⟨b,o,f,D.1,λj m i=>(c j m i).2.2⟩
    ·simp only[au];rw[h,O,w,aa];simp
   ·have U:=ab d h;subst U;have y:a.2.2=[]:=bD (g.2.2.2.2 h);have w:a.1.2.2.toList=[]:=g.1 d;refine(Gh q a.1.1 a.1.2.1 s d h).mono ?_;rintro f e ⟨rfl,v⟩;refine⟨((a.1.1,a.1.2.1,.empty),(none,0),[]),rfl,v,I e _ _ _ ?_ ?_ (by show (0:Nat)<=_;omega),ae rfl,?_⟩
    ·exact(tT _ p).1
    ·exact(tT _ p).2
    ·simp only[au];rw[w,y];simp[az]
def cC(ws:List Wd)(nm:List ByteArray)(v:Wd):Bool:=
 if v.1=1 then pT v.2 (-1099511627776) 1099511627776 else if v.1=3 then pT v.2 1 99 else if v.1=2 then tV nm.length v.2 else if v.1=4 then fG ws v.2 else false
def xP(k a:Int):Tm 1:=((k,a,.empty),(none,0),[])
theorem Ir(k a:Int)(b:k=1\/k=3):bm 1 (xP k a)=if cm (bu 0 (xP k a))then 0 else 5:=by
 rcases b with rfl|rfl<;>simp[bm,xP,ar,oT,BU,sz,mw,bu]<;>rfl
theorem Fm(ws:List Wd)(nm:List ByteArray)(k a:Int)(b:k=1\/k=3):cm (bu 0 (xP k a))=cC ws nm (k,a):=by
 rcases b with rfl|rfl<;>simp[cm,xP,bu,cC]
theorem uK(i:cg)(ws:List Wd)(nm:List ByteArray)(k a:Int)(w:World)(d:k=1\/k=3)(j:dh a):ah 99 #[.pointer (some ⟨i.b,i.o,none⟩),.agg #[.int .i64 k,.int .i64 a]] w λe w'=>e=.returned (.bool (cC ws nm (k,a)))/\ag w w':=by
 have f:Hid (∀c,ah 51 #[.agg #[.int .i64 k,.int .i64 a,.string .empty,.slice none 0 0]] c λe w'=>e=.returned (.int .i64 (if cC ws nm (k,a)then 0 else 5))/\ag c w'):=by
  intro c;have g:=dx 1 (xP k a) c.heap.size c ⟨⟨by rcases d with rfl|rfl<;>simp[xP,dh],j,by simp[xP,maxLen],ai _,aB _⟩,ae rfl⟩ (ai _) (by simp[ar,xP]);rw[Ir k a d,Fm ws nm k a d]at g;exact g
 generalize cC ws nm (k,a)=l at*;cases l
 all_goals
  simp only[cH,oo,if_false]at f;rcases d with rfl|rfl
  all_goals
   go_enter Tryz.func99,Tryz.ntmps99;go_wp2_with fail;refine(f.out _).mono ?_;rintro e m ⟨rfl,h⟩;have HB:=aj h;clear h;go_wp2_with fail
   go_ret
   exact⟨rfl,((ak _ _).alloc (ai _) _).trans (HB.out.mono (by simp))⟩
theorem Be(base:Nat)(d:cg)(room:Int)(ws:List Wd)(nm:List ByteArray)(M:Nat->Prop)(a:Int)(w:World)(j:Hid (du base d room ws nm M w)):ah 99 #[.pointer (some ⟨d.b,d.o,none⟩),.agg #[.int .i64 2,.int .i64 a]] w λe w'=>e=.returned (.bool (tV nm.length a))/\ag w w':=by
 have k:Hid (∀wA,ag w wA->ah 131 #[.pointer (some ⟨d.b,d.o+2,none⟩),.int .i64 a] wA λe w'=>e=.returned (.bool (tV nm.length a))/\w'=wA):=by
  intro wA p;obtain⟨s,q,r,m,y,n,_⟩:=j.out.later p;obtain⟨g,h,rfl⟩:∃g h,q=.slice g nm.length h:=by
   rcases n.1.2 with⟨e,l⟩|⟨x,c,u,e,_⟩
   ·exact⟨none,0,by rw[e,l]⟩
   ·exact⟨_,c,e⟩
  exact KB d room s g nm.length h r a wA m
 clear j;generalize tV nm.length a=t at*;go_enter Tryz.func99,Tryz.ntmps99;go_wp2_with fail;generalize f:w.alloc (Obj.cells #[Value.int IntKind.i64 2,Value.int IntKind.i64 a] 105)=wA;have i:Hid (ag w wA.drew):=by subst f;exact((ak _ _).alloc (ai _) _).drew
 have v:wA.cell? ⟨w.heap.size,1,none⟩=some (.int .i64 a):=by subst f;simp[go_sem]
 clear f;go_region_held3 (λw'=>w'.cell? ⟨w.heap.size,1,none⟩=some (.int .i64 a)) (go_keep) ((go_at_call 131;refine(k.out _ i.out).mono ?_;rintro e z ⟨rfl,rfl⟩));go_wp2_with fail
 go_ret
 exact⟨rfl,i.out⟩
theorem C8(base:Nat)(a:cg)(room:Int)(ws:List Wd)(nm:List ByteArray)(M:Nat->Prop)(g:Int)(w:World)(l:Hid (du base a room ws nm M w))(t:ws.length<=100000):ah 99 #[.pointer (some ⟨a.b,a.o,none⟩),.agg #[.int .i64 4,.int .i64 g]] w λe w'=>e=.returned (.bool (fG ws g))/\ag w w':=by
 obtain⟨d,f,s,k,p⟩:∃d f,a.b<w.heap.size/\w.cell? ⟨a.b,a.o+1,none⟩=some (.slice d ws.length f)/\Hid (∀wA,ag w wA->ah 132 #[.slice d ws.length f,.int .i64 g] wA λe w'=>e=.returned (.bool (fG ws g))/\w'=wA):=by
  obtain⟨u,B,C,m,n,A,_⟩:=l.out;obtain⟨d,f,rfl⟩:∃d f,u=.slice d ws.length f:=by
   rcases n.2 with⟨e,q⟩|⟨z,c,x,e,_⟩
   ·exact⟨none,0,by rw[e,q]⟩
   ·exact⟨_,c,e⟩
  exact⟨d,f,m.lt,m.cells.1.2.1,λwA r=>BO base d ws.length f ws g wA rfl t (dE n r)⟩
 clear l;generalize fG ws g=v at*;generalize ws.length=j at*;go_enter Tryz.func99,Tryz.ntmps99;go_wp2_with fail;generalize i:w.alloc (Obj.cells #[Value.int IntKind.i64 4,Value.int IntKind.i64 g] 105)=wA;have h:Hid (ag w wA.drew):=by subst i;exact((ak _ _).alloc (ai _) _).drew
 have y:wA.cell? ⟨w.heap.size,1,none⟩=some (.int .i64 g):=by subst i;simp[go_sem]
 replace k:wA.cell? ⟨a.b,a.o+1,none⟩=some (.slice d j f):=(am h.out a.b (a.o+1) s).trans k;clear i;go_region_held3 (λw'=>w'.cell? ⟨w.heap.size,1,none⟩=some (.int .i64 g)/\w'.cell? ⟨a.b,a.o+1,none⟩=some (.slice d j f)) (go_keep) ((go_at_call 132;refine(p.out _ h.out).mono ?_;rintro e D ⟨rfl,rfl⟩));go_wp2_with fail
 go_ret
 exact⟨rfl,h.out⟩
theorem Bf(a:cg)(k h:Int)(w:World)(c:¬k=1)(d:¬k=2)(f:¬k=3)(g:¬k=4):ah 99 #[.pointer (some ⟨a.b,a.o,none⟩),.agg #[.int .i64 k,.int .i64 h]] w λe w'=>e=.returned (.bool false)/\ag w w':=by
 have i:(k==1)=false:=by simpa using c
 have j:(k==2)=false:=by simpa using d
 have l:(k==3)=false:=by simpa using f
 have m:(k==4)=false:=by simpa using g
 go_enter Tryz.func99,Tryz.ntmps99;go_wp2_with fail
 go_ret
 exact⟨rfl,by go_grown⟩
theorem uJ(base:Nat)(c:cg)(room:Int)(ws:List Wd)(nm:List ByteArray)(M:Nat->Prop)(v:Wd)(w:World)(i:du base c room ws nm M w)(l:ws.length<=100000)(j:dh v.2):ah 99 #[.pointer (some ⟨c.b,c.o,none⟩),GL v] w λe w'=>e=.returned (.bool (cC ws nm v))/\ag w w':=by
 obtain⟨k,a⟩:=v;by_cases d:k=1
 ·exact uK c ws nm k a w (ae d) j
 ·by_cases g:k=3
  ·exact uK c ws nm k a w (af g) j
  ·by_cases f:k=2
   ·subst f;have e:cC ws nm (2,a)=tV nm.length a:=by simp[cC]
    rw[e];exact Be base c room ws nm M a w i
   ·by_cases h:k=4
    ·subst h;have e:cC ws nm (4,a)=fG ws a:=by simp[cC]
     rw[e];exact C8 base c room ws nm M a w i l
    ·have e:cC ws nm (k,a)=false:=by simp[cC,d,f,g,h]
     rw[e];exact Bf c k a w d f g h
theorem xj(base:Nat)(j:cg)(room:Int)(ws:List Wd)(nm:List ByteArray)(M:Nat->Prop)(vs:List Wd)(a:Option Addr)(len pc:Nat)(w:World)(r:Hid (du base j room ws nm M w))(D:ws.length<=100000)(y:Hid (vs.length=len))(I:len<=100000)(x:Hid (eq w vs a))(u:Hid (∀v∈vs,dh v.2)):ah 176 #[.pointer (some ⟨j.b,j.o,none⟩),.slice a len pc] w λe w'=>e=.returned (.bool (vs.all (cC ws nm)))/\ag w w':=by
 go_enter Tryz.func176,Tryz.ntmps176;go_wp2_with fail;go_loopw [9] (λg wr=>∃k:Nat,k<=len/\g=.int .i64 k/\Hid (ag w wr/\(vs.take k).all (cC ws nm)=true)) (λg _=>len-(intOf g).toNat)
 case atStart=>exact⟨0,by omega,rfl,ak _ _,by simp⟩
 case round=>
  obtain⟨k,F,rfl,c⟩:=hrel;by_cases C:k<len
  ·obtain⟨v,f⟩:∃v,vs[k]?=some v:=⟨vs[k]'(by rw[y.out];exact C),aD _⟩;obtain⟨b,o,rfl,t,z⟩:∃b o,a=some ⟨b,o,none⟩/\b<w.heap.size/\∀(g:Nat)(v:Wd),vs[g]?=some v->w.cell? ⟨b,o+g*2,none⟩=some (.int .i64 v.1)/\w.cell? ⟨b,o+g*2+1,none⟩=some (.int .i64 v.2):=by
    rcases x.out with e|e
    ·rw[e]at f;simp at f
    ·exact e
   obtain⟨p,q⟩:=z k v f;replace p:=(am c.out.1 b (o+k*2) t).trans p;replace q:=(am c.out.1 b (o+k*2+1) t).trans q
   have h:Hid (∀(d:World),ag wr d->ah 99 #[.pointer (some ⟨j.b,j.o,none⟩),.agg #[.int .i64 v.1,.int .i64 v.2]] d λe w'=>e=.returned (.bool (cC ws nm v))/\ag d w'):=
    λd B=>uJ base j room ws nm _ v d (r.out.later (c.out.1.trans (B.mono c.out.1.size))) D (u.out v (aC f))
   have i:Hid ((cC ws nm v=true->(vs.take (k+1)).all (cC ws nm)=true)/\(cC ws nm v=false->vs.all (cC ws nm)=false)):=by
    refine⟨λe=>?_,λe=>?_⟩
    ·rw[dt,f,jV,c.out.2];simp[e]
    ·cases ha:vs.all (cC ws nm)
     ·rfl
     ·rw[bX]at ha;rw[ha v (aC f)]at e;exact e
   have m:Hid (ag w wr):=c.out.1;clear f z x r u c;have G:(0:Int)<=(k:Int):=by omega
   have H:(k:Int)<(len:Int):=by omega
   have E:=m.out.size;have J:b<wr.heap.size:=by omega
   clear E;cases hsb:cC ws nm v
   ·rw[hsb]at h;replace i:=aj (i.out.2 hsb);clear hsb;go_wp2_with fail;refine(h.out _ ((ak _ _).alloc (ai _) _)).mono ?_;rintro e d ⟨rfl,n⟩;have l:Hid (ag w d):=m.out.trans ((((ak _ _).alloc (ai _) _).trans (n.mono (by simp))).mono m.out.size);clear n p q h;go_wp2_with fail
    go_ret
    exact⟨ft i.out.symm,l.out⟩
   ·rw[hsb]at h;replace i:=aj (i.out.1 hsb);clear hsb;go_wp2_with fail;refine(h.out _ ((ak _ _).alloc (ai _) _)).mono ?_;rintro e d ⟨rfl,n⟩;have l:Hid (ag w d):=m.out.trans ((((ak _ _).alloc (ai _) _).trans (n.mono (by simp))).mono m.out.size);clear n p q h;go_wp2_with fail;go_roundw
    case rel=>exact⟨k+1,by omega,by go_num,l.out,i.out⟩
    case measure=>simp[intOf];omega
  ·have A:Hid (vs.all (cC ws nm)=true):=by
     have s:=c.out.2;rw[bw (by have:=y.out;omega)]at s;exact s
   have l:Hid (ag w wr):=c.out.1;clear c;go_wp2_with fail
   go_ret
   exact⟨ft A.out.symm,l.out⟩
def kV(q:Nat)(k b:Int)(s:ByteArray)(a:Option Addr)(l c:Nat)(w:World):Prop:=
 w.heap[q]?=some (.cells #[.int .i64 k,.int .i64 b,.string s,.slice a l c] 30)/\w.heap[q+1]?=some (.cells #[.int .i64 0,.int .i64 0] 105)
theorem te(w:World)(k b:Int)(s:ByteArray)(a:Option Addr)(l c:Nat):kV w.heap.size k b s a l c ((w.alloc (Obj.cells #[.int .i64 k,.int .i64 b,.string s,.slice a l c] 30)).alloc (Obj.cells #[.int .i64 0,.int .i64 0] 105)):=by
 refine⟨((cV (w.alloc (Obj.cells #[.int .i64 k,.int .i64 b,.string s,.slice a l c] 30)) (Obj.cells #[.int .i64 0,.int .i64 0] 105) none).block _ (by simp) (by simp)).trans (ax w _),?_⟩;have:=ax (w.alloc (Obj.cells #[.int .i64 k,.int .i64 b,.string s,.slice a l c] 30)) (Obj.cells #[.int .i64 0,.int .i64 0] 105);have es:∀o,(w.alloc o).heap.size=w.heap.size+1:=λo=>by simp
 rw[es]at this;exact this
theorem kV.facts{q:Nat}{k b:Int}{s:ByteArray}{a:Option Addr}{l c:Nat}{w:World}(d:kV q k b s a l c w):(w.cell? ⟨q,0,none⟩=some (.int .i64 k)/\w.cell? ⟨q,1,none⟩=some (.int .i64 b)/\w.cell? ⟨q,2,none⟩=some (.string s)/\w.cell? ⟨q,3,none⟩=some (.slice a l c))/\(w.cell? ⟨q+1,0,none⟩=some (.int .i64 0)/\w.cell? ⟨q+1,1,none⟩=some (.int .i64 0))/\w.frozen? ⟨q+1,0,none⟩=false/\w.frozen? ⟨q+1,1,none⟩=false:=by
 obtain⟨e,f⟩:=d;refine⟨⟨?_,?_,?_,?_⟩,⟨?_,?_⟩,?_,?_⟩
 all_goals simp[World.cell?,World.frozen?,e,f]
theorem fq{k f:Int}{s:ByteArray}{a:Option Addr}{l c:Nat}{w w1 w2:World}(g:ag w w1/\w.heap.size+2<=w1.heap.size/\kV w.heap.size k f s a l c w1)(b:ag w1 w2):ag w w2/\w.heap.size+2<=w2.heap.size/\kV w.heap.size k f s a l c w2:=by
 obtain⟨d,h,e⟩:=g;have:=b.size;exact⟨d.trans (b.mono d.size),by omega,(b.block _ (by omega)).trans e.1,(b.block _ (by omega)).trans e.2⟩
theorem pw{k j:Int}{s:ByteArray}{a:Option Addr}{l c:Nat}{w w1:World}(d:ag w w1/\w.heap.size+2<=w1.heap.size/\kV w.heap.size k j s a l c w1)(v0 v1:Value):ag w ((w1.setCell ⟨w.heap.size+1,0,none⟩ v0).setCell ⟨w.heap.size+1,1,none⟩ v1):=by
 obtain⟨f,m,n⟩:=d;have h:=aZ w1 (w.heap.size+1) 0 v0;have i:=aZ (w1.setCell ⟨w.heap.size+1,0,none⟩ v0) (w.heap.size+1) 1 v1;have e:=(aT f (λb=>b=w.heap.size+1)).trans (h.trans i (λb _ d=>d)) (λb _ d=>d);exact⟨e.os,e.tape,e.output,e.size,λb g=>e.block b g (by omega)⟩
theorem ME(m:cg)(k f:Int)(s:ByteArray)(a:Option Addr)(l c:Nat)(w:World)(d:Int)(x:(d !=0)=true)(p:Hid (∀w1,ag w w1->ah 51 #[.agg #[.int .i64 k,.int .i64 f,.string s,.slice a l c]] w1 λe w'=>e=.returned (.int .i64 d)/\ag w1 w')):ah 66 #[.pointer (some ⟨m.b,m.o,none⟩),.agg #[.int .i64 k,.int .i64 f,.string s,.slice a l c]] w λe w'=>e=.returned (.tuple #[.agg #[.int .i64 0,.int .i64 0],.int .i64 d])/\ag w w':=by
 go_enter Tryz.func66,Tryz.ntmps66;go_wp2_with fail;generalize n:(w.alloc (Obj.cells #[.int .i64 k,.int .i64 f,.string s,.slice a l c] 30)).alloc (Obj.cells #[.int .i64 0,.int .i64 0] 105)=h;have g:Hid (ag w h/\w.heap.size+2<=h.heap.size/\kV w.heap.size k f s a l c h):=by
  subst n;exact⟨((ak _ _).alloc (ai _) _).alloc (by simp) _,by simp,te _ _ _ _ _ _ _⟩
 clear n;refine(p.out _ g.out.1).mono ?_;rintro e w1 ⟨rfl,j⟩;have i:=aj (fq g.out j);obtain⟨⟨y,z,A,B⟩,⟨q,r⟩,t,u⟩:=i.out.2.2.facts;clear j g;go_wp2_with fail;exact ap (v:=.tuple #[.agg #[.int .i64 0,.int .i64 0],.int .i64 d]) (by simp[results,Tryz.results66,go_sem,q,r]) rfl ⟨rfl,pw i.out _ _⟩
theorem MF(r:cg)(k f:Int)(s:ByteArray)(a:Option Addr)(l c:Nat)(w:World)(A:Hid (∀w1,ag w w1->ah 51 #[.agg #[.int .i64 k,.int .i64 f,.string s,.slice a l c]] w1 λe w'=>e=.returned (.int .i64 0)/\ag w1 w'))(B:Hid (∀w1,ag w w1->ah 52 #[.agg #[.int .i64 k,.int .i64 f,.string s,.slice a l c]] w1 λe w'=>e=.returned (.bool false)/\ag w1 w')):ah 66 #[.pointer (some ⟨r.b,r.o,none⟩),.agg #[.int .i64 k,.int .i64 f,.string s,.slice a l c]] w λe w'=>e=.returned (.tuple #[.agg #[.int .i64 0,.int .i64 0],.int .i64 5])/\ag w w':=by
 go_enter Tryz.func66,Tryz.ntmps66;go_wp2_with fail;generalize t:(w.alloc (Obj.cells #[.int .i64 k,.int .i64 f,.string s,.slice a l c] 30)).alloc (Obj.cells #[.int .i64 0,.int .i64 0] 105)=m;have h:Hid (ag w m/\w.heap.size+2<=m.heap.size/\kV w.heap.size k f s a l c m):=by
  subst t;exact⟨((ak _ _).alloc (ai _) _).alloc (by simp) _,by simp,te _ _ _ _ _ _ _⟩
 clear t;refine(A.out _ h.out.1).mono ?_;rintro e w1 ⟨rfl,d⟩;have g:=aj (fq h.out d);obtain⟨⟨u,x,y,z⟩,⟨i,j⟩,p,q⟩:=g.out.2.2.facts;clear d h;go_wp2_with fail;clear u x y z i j p q;refine(B.out _ g.out.1).mono ?_;rintro e C ⟨rfl,d⟩;have n:=aj (fq g.out d);obtain⟨⟨u,x,y,z⟩,⟨i,j⟩,p,q⟩:=n.out.2.2.facts;clear d g;go_wp2_with fail;exact ap (v:=.tuple #[.agg #[.int .i64 0,.int .i64 0],.int .i64 5]) (by simp[results,Tryz.results66,go_sem,i,j]) rfl ⟨rfl,pw n.out _ _⟩
theorem MG(x:cg)(k q:Int)(s:ByteArray)(a:Option Addr)(l c:Nat)(w:World)(C:Int)(D:Hid (∀w1,ag w w1->ah 51 #[.agg #[.int .i64 k,.int .i64 q,.string s,.slice a l c]] w1 λe w'=>e=.returned (.int .i64 0)/\ag w1 w'))(F:Hid (∀w1,ag w w1->ah 52 #[.agg #[.int .i64 k,.int .i64 q,.string s,.slice a l c]] w1 λe w'=>e=.returned (.bool true)/\ag w1 w'))(G:Hid (∀w1,ag w w1->ah 81 #[.agg #[.int .i64 k,.int .i64 q,.string s,.slice a l c]] w1 λe w'=>e=.returned (.int .i64 C)/\ag w1 w'))(E:Hid (∀w1,ag w w1->ah 97 #[.pointer (some ⟨x.b,x.o,none⟩),.int .i64 C] w1 λe w'=>e=.returned (.bool false)/\ag w1 w')):ah 66 #[.pointer (some ⟨x.b,x.o,none⟩),.agg #[.int .i64 k,.int .i64 q,.string s,.slice a l c]] w λe w'=>e=.returned (.tuple #[.agg #[.int .i64 0,.int .i64 0],.int .i64 6])/\ag w w':=by
 go_enter Tryz.func66,Tryz.ntmps66;go_wp2_with fail;generalize B:(w.alloc (Obj.cells #[.int .i64 k,.int .i64 q,.string s,.slice a l c] 30)).alloc (Obj.cells #[.int .i64 0,.int .i64 0] 105)=z;have y:Hid (ag w z/\w.heap.size+2<=z.heap.size/\kV w.heap.size k q s a l c z):=by
  subst B;exact⟨((ak _ _).alloc (ai _) _).alloc (by simp) _,by simp,te _ _ _ _ _ _ _⟩
 clear B;refine(D.out _ y.out.1).mono ?_;rintro e w1 ⟨rfl,d⟩;have r:=aj (fq y.out d);obtain⟨⟨j,m,n,p⟩,⟨f,g⟩,h,i⟩:=r.out.2.2.facts;clear d y;go_wp2_with fail;clear j m n p f g h i;refine(F.out _ r.out.1).mono ?_;rintro e H ⟨rfl,d⟩;have t:=aj (fq r.out d);obtain⟨⟨j,m,n,p⟩,⟨f,g⟩,h,i⟩:=t.out.2.2.facts;clear d r;go_wp2_with fail;clear j m n p f g h i;refine(G.out _ t.out.1).mono ?_;rintro e I ⟨rfl,d⟩;have u:=aj (fq t.out d);obtain⟨⟨j,m,n,p⟩,⟨f,g⟩,h,i⟩:=u.out.2.2.facts;clear d t;go_wp2_with fail;clear j m n p f g h i;refine(E.out _ u.out.1).mono ?_;rintro e J ⟨rfl,d⟩;have A:=aj (fq u.out d);obtain⟨⟨j,m,n,p⟩,⟨f,g⟩,h,i⟩:=A.out.2.2.facts;clear d u;go_wp2_with fail;exact ap (v:=.tuple #[.agg #[.int .i64 0,.int .i64 0],.int .i64 6]) (by simp[results,Tryz.results66,go_sem,f,g]) rfl ⟨rfl,pw A.out _ _⟩
theorem MH(i:cg)(k t:Int)(s:ByteArray)(a:Option Addr)(l c:Nat)(w:World)(E:Int)(V:Wd)(base:Nat)(room:Int)(ws:List Wd)(nm:List ByteArray)(M:Nat->Prop)(F:Hid (∀w1,ag w w1->ah 51 #[.agg #[.int .i64 k,.int .i64 t,.string s,.slice a l c]] w1 λe w'=>e=.returned (.int .i64 0)/\ag w1 w'))(I:Hid (∀w1,ag w w1->ah 52 #[.agg #[.int .i64 k,.int .i64 t,.string s,.slice a l c]] w1 λe w'=>e=.returned (.bool true)/\ag w1 w'))(J:Hid (∀w1,ag w w1->ah 81 #[.agg #[.int .i64 k,.int .i64 t,.string s,.slice a l c]] w1 λe w'=>e=.returned (.int .i64 E)/\ag w1 w'))(H:Hid (∀w1,ag w w1->ah 97 #[.pointer (some ⟨i.b,i.o,none⟩),.int .i64 E] w1 λe w'=>e=.returned (.bool true)/\ag w1 w'))(K:Hid (∀w1,ag w w1->ah 98 #[.pointer (some ⟨i.b,i.o,none⟩),.agg #[.int .i64 k,.int .i64 t,.string s,.slice a l c]] w1 λe w'=>e=.returned (.agg #[.int .i64 V.1,.int .i64 V.2])/\Hid (lk base i room ws nm (λb=>M b/\b<w.heap.size) w1 w'))):ah 66 #[.pointer (some ⟨i.b,i.o,none⟩),.agg #[.int .i64 k,.int .i64 t,.string s,.slice a l c]] w λe w'=>e=.returned (.tuple #[.agg #[.int .i64 V.1,.int .i64 V.2],.int .i64 0])/\Hid (lk base i room ws nm M w w'):=by
 go_enter Tryz.func66,Tryz.ntmps66;go_wp2_with fail;generalize D:(w.alloc (Obj.cells #[.int .i64 k,.int .i64 t,.string s,.slice a l c] 30)).alloc (Obj.cells #[.int .i64 0,.int .i64 0] 105)=C;have A:Hid (ag w C/\w.heap.size+2<=C.heap.size/\kV w.heap.size k t s a l c C):=by
  subst D;exact⟨((ak _ _).alloc (ai _) _).alloc (by simp) _,by simp,te _ _ _ _ _ _ _⟩
 clear D;refine(F.out _ A.out.1).mono ?_;rintro e w1 ⟨rfl,d⟩;have x:=aj (fq A.out d);obtain⟨⟨n,p,q,r⟩,⟨j,m⟩,g,h⟩:=x.out.2.2.facts;clear d A;go_wp2_with fail;clear n p q r j m g h;refine(I.out _ x.out.1).mono ?_;rintro e P ⟨rfl,d⟩;have y:=aj (fq x.out d);obtain⟨⟨n,p,q,r⟩,⟨j,m⟩,g,h⟩:=y.out.2.2.facts;clear d x;go_wp2_with fail;clear n p q r j m g h;refine(J.out _ y.out.1).mono ?_;rintro e Q ⟨rfl,d⟩;have z:=aj (fq y.out d);obtain⟨⟨n,p,q,r⟩,⟨j,m⟩,g,h⟩:=z.out.2.2.facts;clear d y;go_wp2_with fail;clear n p q r j m g h;refine(H.out _ z.out.1).mono ?_;rintro e R ⟨rfl,d⟩;have f:=aj (fq z.out d);obtain⟨⟨n,p,q,r⟩,⟨j,m⟩,g,h⟩:=f.out.2.2.facts;clear d z;go_wp2_with fail;refine(K.out _ f.out.1).mono ?_;rintro e S ⟨rfl,B⟩;have u:=ub B.out;have L:=(u (w.heap.size+1) (by omega) (by have:=f.out.2.1;omega) 0).1.trans j;have d1:=(u (w.heap.size+1) (by omega) (by have:=f.out.2.1;omega) 1).1.trans m;have N:=(u (w.heap.size+1) (by omega) (by have:=f.out.2.1;omega) 0).2.trans g;have O:=(u (w.heap.size+1) (by omega) (by have:=f.out.2.1;omega) 1).2.trans h;have G:=aj (Ah B.out f.out.1 f.out.2.1 (.int .i64 V.1) (.int .i64 V.2));clear u n p q r j m g h B;go_wp2_with fail;exact ap (v:=.tuple #[.agg #[.int .i64 V.1,.int .i64 V.2],.int .i64 0]) (by simp[results,Tryz.results66,go_sem,L,d1]) rfl ⟨rfl,G.out⟩
theorem uu:(n:Nat)->(x:Tm n)->av ⟨n,x⟩->((ar n x).length:Int)<=sz n x+1
 | 0,_,_=>by simp[ar,sz]
 | n+1,x,h=>by
  have c:=eg (bu n x) (h (bu n x) (by simp[ar,bu]));by_cases a:x.1.1=4
  ·have key:∀l:List (Tm n),(∀y∈l,av ⟨n,y⟩)->((l.flatMap λy=>ar n y).length:Int)<=(l.map λy=>1+sz n y).sum:=by
     intro l
     induction l with
     | nil=>intro _;simp
     | cons y l ih=>
      intro b;have g:=uu n y (b y (by simp));have i:=ih (λf e=>b f (by simp[e]));simp only[bv,aY,aH,bq];omega
   have k:=key x.2.2 (λy d=>aN n x y h d);simp only[ar,aV,sz,if_pos a];omega
  ·have:x.2.2=[]:=bD (c.2.2.2.2 a);simp[ar,this,sz,a]
theorem G8{n:Nat}{x:Tm n}(a:bm n x=0):bQ n x=true:=by
 rw[<-fS]at a;unfold vv at a;cases hf:bQ n x
 ·simp[hf]at a
 ·rfl
def jo(n:Nat)(x:Tm n)(room:Int)(ws:List Wd):Int:=if bm n x≠0 then bm n x else if aF n x=false then 5 else if decide (sz n x<=room-ws.length)=false then 6 else 0
def GP(n:Nat)(x:Tm n)(base:Nat)(a:cg)(room:Int)(ws:List Wd)(nm:List ByteArray)(M:Nat->Prop)(w:World)(e:Ending)(w':World):Prop:=
 (jo n x room ws≠0->e=.returned (.tuple #[GL (0,0),.int .i64 (jo n x room ws)])/\ag w w')/\
 (jo n x room ws=0->(bm n x=0/\aF n x=true/\sz n x<=room-ws.length)/\e=.returned (.tuple #[GL (aO n x ws nm).1,.int .i64 0])/\lk base a room (aO n x ws nm).2.1 (aO n x ws nm).2.2 M w w')
theorem tW(n:Nat)(x:Tm n)(base:Nat)(e:cg)(room:Int)(ws:List Wd)(nm:List ByteArray)(M:Nat->Prop)(w:World)(A:du base e room ws nm M w)(m:In w.heap.size w n x)(G:bV (λb=>¬M b) n x)(B:(ar n x).length<=2097152)(S:base<=w.heap.size)(I:0<=room)(H:room<=1000)(V:ws.length<=1000)(T:nm.length<=50000):ah 66 #[.pointer (some ⟨e.b,e.o,none⟩),dd n x] w (GP n x base e room ws nm M w):=by
 cases n with
 | zero=>exact m.elim
 | succ n=>
 have k:∀a,ag w a->ah 51 #[dd (n+1) x] a λd g=>d=.returned (.int .i64 (bm (n+1) x))/\ag a g:=λa f=>dx (n+1) x w.heap.size a (m.below f) f.size B;have l:∀a,ag w a->ah 52 #[dd (n+1) x] a λd g=>d=.returned (.bool (aF (n+1) x))/\ag a g:=λa f=>ie (n+1) x w.heap.size a (m.below f) f.size;have z:∀a,ag w a->ah 81 #[dd (n+1) x] a λd g=>d=.returned (.int .i64 (sz (n+1) x))/\ag a g:=λa f=>wT (n+1) x w.heap.size a (m.below f) f.size B;have q:∀a,ag w a->ah 97 #[.pointer (some ⟨e.b,e.o,none⟩),.int .i64 (sz (n+1) x)] a λd g=>d=.returned (.bool (decide (sz (n+1) x<=room-ws.length)))/\ag a g:=by
  intro a f;obtain⟨P,N,O,K,L,W,_⟩:=A.later f;obtain⟨v,y,rfl⟩:∃v y,P=.slice v ws.length y:=by
   rcases L.2 with⟨d,E⟩|⟨R,c,Q,d,_⟩
   ·exact⟨none,0,by rw[d,E]⟩
   ·exact⟨_,c,d⟩
  exact Aa e room (sz (n+1) x) v ws.length y N O a (by omega) I H K
 by_cases i:bm (n+1) x=0
 ·rw[i]at k;by_cases u:aF (n+1) x=false
  ·rw[u]at l;have d:jo (n+1) x room ws=5:=by simp[jo,i,u]
   refine(MF e x.1.1 x.1.2.1 x.1.2.2 x.2.1.1 x.2.2.length x.2.1.2 w k l).mono ?_;rintro s g ⟨rfl,h⟩;exact⟨λ_=>⟨by rw[d];rfl,h⟩,λj=>absurd (d.symm.trans j) (by decide)⟩
  ·have r:aF (n+1) x=true:=by simpa using u
   rw[r]at l;by_cases p:sz (n+1) x<=room-ws.length
   ·have t:decide (sz (n+1) x<=room-ws.length)=true:=by simpa using p
    rw[t]at q;have d:jo (n+1) x room ws=0:=by simp[jo,i,r,p]
    have C:av ⟨n+1,x⟩:=aG.2 (G8 i);have U:=uu (n+1) x C;have D:∀a,ag w a->ah 98 #[.pointer (some ⟨e.b,e.o,none⟩),dd (n+1) x] a λd g=>d=.returned (GL (aO (n+1) x ws nm).1)/\Hid (lk base e room (aO (n+1) x ws nm).2.1 (aO (n+1) x ws nm).2.2 (λb=>M b/\b<w.heap.size) a g):=by
     intro a f;have J:=f.size;exact KJ (n+1) x base e room ws nm _ a (A.later f) ((m.below f).mono J) (G.mono λb h F=>h F.1) (by omega) C (by omega) (by omega)
    refine(MH e x.1.1 x.1.2.1 x.1.2.2 x.2.1.1 x.2.2.length x.2.1.2 w (sz (n+1) x) (aO (n+1) x ws nm).1 base room (aO (n+1) x ws nm).2.1 (aO (n+1) x ws nm).2.2 M k l z q D).mono ?_;rintro s g ⟨rfl,h⟩;exact⟨λj=>absurd d j,λ_=>⟨⟨i,r,p⟩,rfl,h.out⟩⟩
   ·have t:decide (sz (n+1) x<=room-ws.length)=false:=by simpa using p
    rw[t]at q;have d:jo (n+1) x room ws=6:=by simp[jo,i,r,p]
    refine(MG e x.1.1 x.1.2.1 x.1.2.2 x.2.1.1 x.2.2.length x.2.1.2 w (sz (n+1) x) k l z q).mono ?_;rintro s g ⟨rfl,h⟩;exact⟨λ_=>⟨by rw[d];rfl,h⟩,λj=>absurd (d.symm.trans j) (by decide)⟩
 ·have d:jo (n+1) x room ws=bm (n+1) x:=by simp[jo,i]
  refine(ME e x.1.1 x.1.2.1 x.1.2.2 x.2.1.1 x.2.2.length x.2.1.2 w (bm (n+1) x) (by simpa using i) k).mono ?_;rintro s g ⟨rfl,h⟩;exact⟨λ_=>⟨by rw[d];rfl,h⟩,λj=>absurd (d.symm.trans j) i⟩
def pd(q:Nat)(k a:Int)(w:World):Prop:=w.heap[q]?=some (.cells #[.int .i64 k,.int .i64 a] 105)/\pW (q+1) w
theorem DT(w:World)(k a:Int):pd w.heap.size k a ((w.alloc (Obj.cells #[.int .i64 k,.int .i64 a] 105)).alloc (Obj.cells #[.int .i64 0,.int .i64 0,.string ⟨#[]⟩,.slice none 0 0] 30)):=by
 refine⟨((cV (w.alloc (Obj.cells #[.int .i64 k,.int .i64 a] 105)) (Obj.cells #[.int .i64 0,.int .i64 0,.string ⟨#[]⟩,.slice none 0 0] 30) none).block _ (by simp) (by simp)).trans (ax w _),?_⟩;have:=ax (w.alloc (Obj.cells #[.int .i64 k,.int .i64 a] 105)) (Obj.cells #[.int .i64 0,.int .i64 0,.string ⟨#[]⟩,.slice none 0 0] 30);have es:∀o,(w.alloc o).heap.size=w.heap.size+1:=λo=>by simp
 rw[es]at this;exact this
theorem tS{k d:Int}{w w1 w2:World}(e:ag w w1/\w.heap.size+2<=w1.heap.size/\pd w.heap.size k d w1)(a:ag w1 w2):ag w w2/\w.heap.size+2<=w2.heap.size/\pd w.heap.size k d w2:=by
 obtain⟨b,f,c⟩:=e;have:=a.size;exact⟨b.trans (a.mono b.size),by omega,(a.block _ (by omega)).trans c.1,(a.block _ (by omega)).trans c.2⟩
theorem pd.cells{q:Nat}{k a:Int}{w:World}(b:pd q k a w):w.cell? ⟨q,0,none⟩=some (.int .i64 k)/\w.cell? ⟨q,1,none⟩=some (.int .i64 a):=by
 obtain⟨c,_⟩:=b;refine⟨?_,?_⟩
 all_goals simp[World.cell?,c]
theorem NH(c:cg)(k d:Int)(w:World)(j:Hid (∀w1,ag w w1->ah 99 #[.pointer (some ⟨c.b,c.o,none⟩),.agg #[.int .i64 k,.int .i64 d]] w1 λe w'=>e=.returned (.bool false)/\ag w1 w')):ah 68 #[.pointer (some ⟨c.b,c.o,none⟩),.agg #[.int .i64 k,.int .i64 d]] w λe w'=>e=.returned (.tuple #[.agg #[.int .i64 0,.int .i64 0,.string .empty,.slice none 0 0],.int .i64 1])/\ag w w':=by
 go_enter Tryz.func68,Tryz.ntmps68;go_wp2_with fail;generalize h:(w.alloc (Obj.cells #[.int .i64 k,.int .i64 d] 105)).alloc (Obj.cells #[.int .i64 0,.int .i64 0,.string ⟨#[]⟩,.slice none 0 0] 30)=g;have a:Hid (ag w g/\w.heap.size+2<=g.heap.size/\pd w.heap.size k d g):=by
  subst h;exact⟨((ak _ _).alloc (ai _) _).alloc (by simp) _,by simp,DT _ _ _⟩
 clear h;refine(j.out _ a.out.1).mono ?_;rintro e w1 ⟨rfl,f⟩;have i:=aj (tS a.out f);obtain⟨⟨m,n,p,q⟩,x⟩:=i.out.2.2.2.cells;have l:=aj (λr s t u=>xp a.out.1 f r s t u);clear f a;go_wp2_with fail;exact ap (v:=.tuple #[.agg #[.int .i64 0,.int .i64 0,.string .empty,.slice none 0 0],.int .i64 1]) (by simp[results,Tryz.results68,go_sem,m,n,p,q];rfl) rfl ⟨rfl,l.out _ _ _ _⟩
theorem Mw(n:Nat)(x:Tm (n+1))(c:cg)(k d:Int)(w:World)(A:Hid (∀w1,ag w w1->ah 99 #[.pointer (some ⟨c.b,c.o,none⟩),.agg #[.int .i64 k,.int .i64 d]] w1 λe w'=>e=.returned (.bool true)/\ag w1 w'))(C:Hid (∀w1,ag w w1->ah 100 #[.pointer (some ⟨c.b,c.o,none⟩),.agg #[.int .i64 k,.int .i64 d]] w1 λe w'=>∃y:Tm (n+1),e=.returned (dd (n+1) y)/\Hid (ag w1 w'/\In w'.heap.size w' (n+1) y/\bV (λq=>w1.heap.size<=q) (n+1) y/\au (n+1) y (n+1) x=true))):ah 68 #[.pointer (some ⟨c.b,c.o,none⟩),.agg #[.int .i64 k,.int .i64 d]] w λe w'=>∃y:Tm (n+1),e=.returned (.tuple #[dd (n+1) y,.int .i64 0])/\Hid (ag w w'/\In w'.heap.size w' (n+1) y/\bV (λq=>w.heap.size<=q) (n+1) y/\au (n+1) y (n+1) x=true):=by
 go_enter Tryz.func68,Tryz.ntmps68;go_wp2_with fail;generalize t:(w.alloc (Obj.cells #[.int .i64 k,.int .i64 d] 105)).alloc (Obj.cells #[.int .i64 0,.int .i64 0,.string ⟨#[]⟩,.slice none 0 0] 30)=m;have j:Hid (ag w m/\w.heap.size+2<=m.heap.size/\pd w.heap.size k d m):=by
  subst t;exact⟨((ak _ _).alloc (ai _) _).alloc (by simp) _,by simp,DT _ _ _⟩
 clear t;refine(A.out _ j.out.1).mono ?_;rintro e w1 ⟨rfl,s⟩;have a:=aj (tS j.out s);obtain⟨L,M⟩:=a.out.2.2.cells;clear s j;go_wp2_with fail;refine(C.out _ a.out.1).mono ?_;rintro e p ⟨y,rfl,l⟩;have z:=aj (tS a.out l.out.1);obtain⟨⟨H,I,J,K⟩,N⟩:=z.out.2.2.2.cells;have B:Hid (∀f g h i,ag w (cE p (w.heap.size+1) 0 f g h i)/\In (cE p (w.heap.size+1) 0 f g h i).heap.size (cE p (w.heap.size+1) 0 f g h i) (n+1) y/\bV (λq=>w.heap.size<=q) (n+1) y/\au (n+1) y (n+1) x=true):=by
  intro f g h i;obtain⟨E,F,u,G⟩:=l.out;have O:=a.out.2.1;refine⟨xp a.out.1 E f g h i,?_,u.mono λq D=>by omega,G⟩;rw[bf];exact In.off (λq D=>aR (by omega) _ _ _ _) u F
 have r:dd (n+1) y=.agg #[.int .i64 y.1.1,.int .i64 y.1.2.1,.string y.1.2.2,.slice y.2.1.1 y.2.2.length y.2.1.2]:=rfl;rw[r];clear L M l a r;go_wp2_with fail;exact ap (v:=.tuple #[dd (n+1) y,.int .i64 0]) (by simp[results,Tryz.results68,go_sem,H,I,J,K,dd]) rfl ⟨y,rfl,B.out _ _ _ _⟩
theorem CR{c:Type}{l b:List c}(d:l <+:b){i:Nat}{x:c}(a:l[i]?=some x):b[i]?=some x:=by
 obtain⟨e,rfl⟩:=d;rw[de (aL.1 a).1];exact a
theorem dv.mono{ws l:List Wd}{nm k:List ByteArray}(d:ws <+:l)(j:nm <+:k):{n:Nat}->{x:Tm n}->{v:Wd}->dv ws nm n x v->dv l k n x v
 | 0,_,_,h=>h
 | n+1,x,v,h=>by
  obtain⟨a,b,c⟩:=h;refine⟨λe=>?_,λe=>?_,c⟩
  ·obtain⟨i,f,g⟩:=a e;exact⟨i,f,CR j g⟩
  ·obtain⟨p,f,g,m,o⟩:=b e;refine⟨p,f,CR d g,aw m d.length_le,λi y s=>?_⟩;obtain⟨t,q,r⟩:=o i y s;exact⟨t,CR d q,r.mono d j⟩
theorem Fy(nm:List ByteArray)(s:ByteArray):nm <+:ei nm s:=by
 unfold ei;split
 ·exact fX _
 ·exact oB _ _
theorem qt{n:Nat}(f:∀(x:Tm n)(ws:List Wd)(nm:List ByteArray),ws <+:(aO n x ws nm).2.1/\nm <+:(aO n x ws nm).2.2)(l:List (Tm n))(ws:List Wd)(nm:List ByteArray):ws <+:(bB (aO n) l ws nm).2.1/\nm <+:(bB (aO n) l ws nm).2.2:=by
 induction l generalizing ws nm with
 | nil=>exact⟨fX _,fX _⟩
 | cons a l ih=>
  obtain⟨d,b⟩:=f a ws nm;obtain⟨c,e⟩:=ih (aO n a ws nm).2.1 (aO n a ws nm).2.2;exact⟨d.trans c,b.trans e⟩
theorem lG:(n:Nat)->(x:Tm n)->(ws:List Wd)->(nm:List ByteArray)->ws <+:(aO n x ws nm).2.1/\nm <+:(aO n x ws nm).2.2
 | 0,_,_,_=>⟨fX _,fX _⟩
 | n+1,x,ws,nm=>by
  by_cases c:x.1.1=2
  ·simp only[aO,if_pos c];exact⟨fX _,Fy _ _⟩
  ·by_cases d:x.1.1=4
   ·simp only[aO,if_neg c,if_pos d];obtain⟨a,b⟩:=qt (lG n) x.2.2 ws nm;exact⟨a.trans (oB _ _),b⟩
   ·simp only[aO,if_neg c,if_neg d];exact⟨fX _,fX _⟩
theorem IH(nm:List ByteArray)(s:ByteArray):(ei nm s)[kC (ei nm s) s]?=some s:=by
 have d:s∈ei nm s:=by
  unfold ei;split
  ·rename_i b;exact(xV nm s).1 b
  ·simp
 have a:kC (ei nm s) s<(ei nm s).length:=by
  unfold kC;rw[List.findIdx_lt_length];exact⟨s,d,(nS s s).2 rfl⟩
 have c:(ei nm s)[kC (ei nm s) s]'a=s:=(nS s _).1 (List.findIdx_getElem (w:=a));rw[aD a,c]
theorem nu{n:Nat}(j:∀(x:Tm n)(ws:List Wd)(nm:List ByteArray),av ⟨n,x⟩->dv (aO n x ws nm).2.1 (aO n x ws nm).2.2 n x (aO n x ws nm).1)(l:List (Tm n))(ws:List Wd)(nm:List ByteArray)(e:∀y∈l,av ⟨n,y⟩):∀(i:Nat)(y:Tm n),l[i]?=some y->∃d,(bB (aO n) l ws nm).1[i]?=some d/\dv (bB (aO n) l ws nm).2.1 (bB (aO n) l ws nm).2.2 n y d:=by
 induction l generalizing ws nm with
 | nil=>intro i y a;simp at a
 | cons c l ih=>
  intro i y a;cases i with
  | zero=>
   simp at a;subst a;obtain⟨f,b⟩:=qt (lG n) l (aO n c ws nm).2.1 (aO n c ws nm).2.2;exact⟨(aO n c ws nm).1,rfl,(j c ws nm (e c (by simp))).mono f b⟩
  | succ i=>
   obtain⟨d,g,h⟩:=ih (aO n c ws nm).2.1 (aO n c ws nm).2.2 (λy a=>e y (by simp[a])) i y (by simpa using a);exact⟨d,by simpa [bB]using g,h⟩
theorem gt:(n:Nat)->(x:Tm n)->(ws:List Wd)->(nm:List ByteArray)->av ⟨n,x⟩->dv (aO n x ws nm).2.1 (aO n x ws nm).2.2 n x (aO n x ws nm).1
 | 0,_,_,_,h=>(cY h).elim
 | n+1,x,ws,nm,h=>by
  by_cases b:x.1.1=2
  ·have c:¬x.1.1=4:=by omega
   simp only[aO,if_pos b];exact⟨λ_=>⟨_,rfl,IH _ _⟩,λa=>absurd a c,λa=>absurd b a⟩
  ·by_cases c:x.1.1=4
   ·simp only[aO,if_neg b,if_pos c];have j:=gu (aO n) x.2.2 ws nm;refine⟨λa=>absurd a b,λ_=>⟨_,rfl,?_,?_,λe f d=>?_⟩,λ_ a=>absurd c a⟩
    ·rw[dZ (ai _),ji];rfl
    ·simp only[aY,aV,j];omega
    ·obtain⟨k,g,i⟩:=nu (gt n) x.2.2 ws nm (λf d=>aN n x f h d) e f d;refine⟨k,?_,i.mono (oB _ _) (fX _)⟩;rw[dZ (by omega)];have:(bB (aO n) x.2.2 ws nm).2.1.length+1+e-(bB (aO n) x.2.2 ws nm).2.1.length=e+1:=by omega
     rw[this];simpa using g
   ·simp only[aO,if_neg b,if_neg c];exact⟨λa=>absurd a b,λa=>absurd a c,λ_ _=>rfl⟩
def yU(q:Nat)(w:World):Prop:=w.heap[q]?=some (.cells #[.int .i64 0,.int .i64 0] 105)
theorem yU.facts{q:Nat}{w:World}(a:yU q w):(w.cell? ⟨q,0,none⟩=some (.int .i64 0)/\w.cell? ⟨q,1,none⟩=some (.int .i64 0))/\w.frozen? ⟨q,0,none⟩=false/\w.frozen? ⟨q,1,none⟩=false:=by
 unfold yU at a;refine⟨⟨?_,?_⟩,?_,?_⟩
 all_goals simp[World.cell?,World.frozen?,a]
end Go.Proofs.YtckamaoibonjcaaGreat

/- What is proved here: plain facts and contracts that the claimed theorem stands on. No condition but those that each names. -/
import Derived.Test.YtnidfceinoiboaaGreatG16
namespace Go.Proofs.YtnidfceinoiboaaGreat
open Go.RowKit
set_option maxHeartbeats 1000000
set_option maxRecDepth 100000
def dA(ws:List Wd)(nm:List ByteArray):(n:Nat)->Tm n->Wd->Prop
 | 0,_,_=>False
 | n+1,x,v=>(x.1.1=2->∃i:Nat,v=(2,(i:Int))/\nm[i]?=some x.1.2.2)/\
    (x.1.1=4->∃p:Nat,v=(4,(p:Int))/\ws[p]?=some (0,(x.2.2.length:Int))/\p+1+x.2.2.length<=ws.length/\∀(i:Nat)(y:Tm n),x.2.2[i]?=some y->∃u,ws[p+1+i]?=some u/\dA ws nm n y u)/\
    (x.1.1≠2->x.1.1≠4->v=(x.1.1,x.1.2.1))
def ew(w:World)(vs:List Wd)(a:Option Addr):Prop:=vs=[]\/∃b o,a=some ⟨b,o,none⟩/\b<w.heap.size/\∀(i:Nat)(v:Wd),vs[i]?=some v->w.cell? ⟨b,o+i*2,none⟩=some (.int .i64 v.1)/\w.cell? ⟨b,o+i*2+1,none⟩=some (.int .i64 v.2)
def LU(n:Nat):Prop:=∀(x:Tm n)(v:Wd)(base:Nat)(a:bW)(room:Int)(ws:List Wd)(nm:List ByteArray)(M:Nat->Prop)(w:World),dy base a room ws nm M w->ws.length<=100000->nm.length<=100000->dA ws nm n x v->aB ⟨n,x⟩->
 Calls Tryz.prog 110 #[.pointer (some ⟨a.b,a.o,none⟩),EU v] w λe w'=>∃y:Tm n,e=.returned (dg n y)/\Hid (Below w.heap.size w w'/\In w'.heap.size w' n y/\ch (λq=>w.heap.size<=q) n y/\aw n y n x=true)
def pq(q:Nat)(w:World):Prop:=w.heap[q]?=some (.cells #[.int .i64 0,.int .i64 0,.string .empty,.slice none 0 0] 30)
theorem pq.kept{q:Nat}{w w':World}(a:pq q w)(k:w'.heap[q]?=w.heap[q]?):pq q w':=k.trans a
theorem pq.cells{q:Nat}{w:World}(a:pq q w):(w.cell? ⟨q,0,none⟩=some (.int .i64 0)/\w.cell? ⟨q,1,none⟩=some (.int .i64 0)/\w.cell? ⟨q,2,none⟩=some (.string .empty)/\w.cell? ⟨q,3,none⟩=some (.slice none 0 0))/\∀j,w.frozen? ⟨q,j,none⟩=false:=by
 unfold pq at a;refine⟨⟨?_,?_,?_,?_⟩,λj=>?_⟩
 all_goals simp[World.cell?,World.frozen?,a]
theorem G9{n:Nat}{p:List (Tm n)}{len:Nat}{w w0:World}(f:w0.ownsRow (w.heap.size+1) 30 4 (.slice (some ⟨(w.alloc (.cells #[.int .i64 0,.int .i64 0,.string .empty,.slice none 0 0] 30)).heap.size,0,none⟩) len len) len (madeCells (Value.agg #[.int .i64 0,.int .i64 0,.string .empty,.slice none 0 0]).cells (len*4)).toList)(a:(w.alloc (.cells #[.int .i64 0,.int .i64 0,.string .empty,.slice none 0 0] 30)).grownBy w0 none):Below w.heap.size w w0/\sx n p len (w.heap.size+1) 0 [] w0/\pq w.heap.size w0:=by
 have c:(w.alloc (.cells #[.int .i64 0,.int .i64 0,.string .empty,.slice none 0 0] 30)).heap.size=w.heap.size+1:=by simp
 have g:Below w.heap.size w (w.alloc (.cells #[.int .i64 0,.int .i64 0,.string .empty,.slice none 0 0] 30)):=(ah _ _).alloc (ag _) _;have d:Below (w.heap.size+1) (w.alloc (.cells #[.int .i64 0,.int .i64 0,.string .empty,.slice none 0 0] 30)) w0:=⟨a.os,a.tape,a.output,a.size,λb h=>a.block b (by omega) (by simp)⟩;have e:=pD (w:=w.alloc (.cells #[.int .i64 0,.int .i64 0,.string .empty,.slice none 0 0] 30)) n p len (by rw[c]at f ⊢;exact f);rw[c]at e;exact⟨g.trans (d.mono (by omega)),e,(d.block _ (by omega)).trans (ax w _)⟩
theorem sx.end{n:Nat}{p:List (Tm n)}{len g:Nat}{l:List (Tm n)}{w wr:World}(r:sx n p len g len l wr)(A:p.length=len)(z:g=w.heap.size+1)(c:Below w.heap.size w wr)(t:len<=maxLen):∀v0 v1 v2 v3,fV n p w (cP wr w.heap.size 0 v0 v1 v2 v3) (some ⟨g,0,none⟩) len l:=by
 intro v0 v1 v2 v3;obtain⟨y,e,i,j⟩:=r;rw[bk (by omega)]at j;rw[iZ,lN,ee]at e;refine⟨⟨c.os,c.tape,c.output,au c.size (dp (aZ _ _ _ _).symm),λh f=>(aO (by omega) _ _ _ _).trans (c.block h f)⟩,by omega,by omega,t,j,af ⟨g,0,rfl,⟨by omega,rfl,λv=>?_,λa d=>(i a d).2.mono λh f=>by omega⟩,by rw[aZ];exact e.lt.2,λu a d=>?_⟩⟩
 ·have k:=e.free v;unfold World.frozen? at k ⊢;rw[aO (w:=wr) (g:=w.heap.size) (b:=g) (o:=0) (by omega) v0 v1 v2 v3];exact k
 have s:=e.cells u ⟨n,a⟩ (by simp[d]);have m:=(i a (ay d)).1;have q:=(i a (ay d)).2;refine⟨?_,?_,q.mono λh f=>by omega⟩
 ·cases n with
  | zero=>exact m.elim
  | succ n=>
   rw[cU];exact dr.block (aO (by omega) _ _ _ _) (n:=n+1) (x:=a) s
 ·rw[aZ];exact In.off (λh f=>aO (by omega) _ _ _ _) q m
theorem xA(n:Nat)(ih:LU n)(base:Nat)(q:bW)(room:Int)(ws:List Wd)(nm:List ByteArray)(M:Nat->Prop)(a:Option Addr)(len pc:Nat)(p:List (Tm n))(vs:List Wd)(Y:Hid (p.length=len))(ax:Hid (vs.length=len))(w:World)(Q:Hid (dy base q room ws nm M w))(aS:len<=8)(ak:Hid (ws.length<=100000))(W:Hid (nm.length<=100000))(U:Hid (ew w vs a))(aa:Hid (∀(i:Nat)(y:Tm n)(v:Wd),p[i]?=some y->vs[i]?=some v->dA ws nm n y v))(Z:Hid (∀y∈p,aB ⟨n,y⟩)):Calls Tryz.prog 138 #[.pointer (some ⟨q.b,q.o,none⟩),.slice a len pc] w λe w'=>∃N O l,e=.returned (.agg #[.int .i64 4,.int .i64 0,.string .empty,.slice N len O])/\Hid (fV n p w w' N O l):=by
 obtain⟨az,V,ab,ad,ae⟩:=bM gA;go_enter Tryz.func138,Tryz.ntmps138;go_wp2_with (at_make;refine jZ _ rfl _ _ 28 rfl (w.heap.size+1) 30 az _ 4 Tryz.underlying28 V ab ad _ _ _ _ len rfl rfl rfl rfl (by rw[ae];omega) (by unfold maxLen;omega) (by simp) ?_;intro F X T;have A:=ai (G9 (p:=p) X T);clear X T);clear V ab ad ae;obtain⟨d,S⟩:∃d,w.heap.size+1=d:=⟨_,rfl⟩;rw[S]at A ⊢;obtain⟨am,J,L⟩:Hid (Below w.heap.size w F)/\Hid (sx n p len d 0 [] F)/\Hid (pq w.heap.size F):=A.out;clear A;go_loopw [13] (λi wr=>∃k:Nat,k<=len/\i=.int .i64 k/\Hid (Below w.heap.size w wr/\pq w.heap.size wr/\∃l,sx n p len d k l wr)) (λi _=>len-(intOf i).toNat)
 case atStart=>exact⟨0,by omega,rfl,am.out,L.out,[],J.out⟩
 case round=>
  clear J L;obtain⟨k,aP,rfl,K⟩:=hrel;obtain⟨g,t,l,h⟩:Hid (Below w.heap.size w wr)/\Hid (pq w.heap.size wr)/\∃l,Hid (sx n p len d k l wr):=K.out;clear K;by_cases B:k<len
  ·obtain⟨f,u⟩:∃f,p[k]?=some f:=⟨p[k]'(by rw[Y.out];exact B),aA _⟩;obtain⟨v,s⟩:∃v,vs[k]?=some v:=⟨vs[k]'(by rw[ax.out];exact B),aA _⟩;obtain⟨b,o,rfl,R,af⟩:∃b o,a=some ⟨b,o,none⟩/\b<w.heap.size/\∀(i:Nat)(v:Wd),vs[i]?=some v->w.cell? ⟨b,o+i*2,none⟩=some (.int .i64 v.1)/\w.cell? ⟨b,o+i*2+1,none⟩=some (.int .i64 v.2):=by
    rcases U.out with e|e
    ·rw[e]at s;simp at s
    ·exact e
   obtain⟨D,E⟩:=af k v s;replace D:=(aj g.out b (o+k*2) R).trans D;replace E:=(aj g.out b (o+k*2+1) R).trans E;have av:=ai u;have aN:d<wr.heap.size:=h.out.2.1.lt.2
   have H:Hid (∀(c:World),Below wr.heap.size wr c->Calls Tryz.prog 110 #[.pointer (some ⟨q.b,q.o,none⟩),.agg #[.int .i64 v.1,.int .i64 v.2]] c λe w'=>∃y:Tm n,e=.returned (dg n y)/\Hid (Below c.heap.size c w'/\In w'.heap.size w' n y/\ch (λx=>c.heap.size<=x) n y/\aw n y n f=true)):=
    λc j=>ih f v base q room ws nm _ c (Q.out.later (g.out.trans (j.mono g.out.size))) ak.out W.out (aa.out k f v u s) (Z.out f (ay u))
   clear ih u s af U aa Z Q ak W;have aQ:(0:Int)<=(k:Int):=by omega
   have aR:(k:Int)<(len:Int):=by omega
   have aT:b<wr.heap.size:=by omega
   go_wp2_with fail;refine(H.out _ ((ah _ _).alloc (ag _) _)).mono ?_;rintro e c ⟨y,rfl,m⟩;have r:Hid (Below wr.heap.size wr c):=((ah _ _).alloc (ag _) _).trans (m.out.1.mono (by simp));have ar:=ai (h.out.step B f av.out r.out y m.out.2.1 (m.out.2.2.1.mono λx C=>by simp at C;omega) m.out.2.2.2);have z:=ai (h.out.2.1.below r.out);have I:=m.out.2.1;cases n with
   | zero=>exact I.elim
   | succ n=>
   clear I;have an:Hid (Below w.heap.size w (iH c d (k*4) (iv (n+1) y))):=by
    have j:=g.out.trans (r.out.mono g.out.size);exact⟨j.os,j.tape,j.output,au j.size (dp (aZ _ _ _ _).symm),λx C=>(aO (by omega) _ _ _ _).trans (j.block x C)⟩
   have ap:Hid (pq w.heap.size (iH c d (k*4) (iv (n+1) y))):=t.out.kept ((aO (by omega) _ _ _ _).trans (r.out.block _ (by omega)));obtain⟨G,al⟩:∃G,(l.map (λf=>(⟨n+1,f⟩:An))++List.replicate (len-k) zA)[k]?=some G:=⟨_,aA (by simp[h.out.1];omega)⟩;obtain⟨aH,aI,aJ,aK⟩:=z.out.cells k G al;have aM:=λaC=>z.out.free aC;have P:dg (n+1) y=.agg #[.int .i64 y.1.1,.int .i64 y.1.2.1,.string y.1.2.2,.slice y.2.1.1 y.2.2.length y.2.1.2]:=rfl;rw[P];clear H h g m r z t D E al P;go_wp2_with fail;go_roundw
   case rel=>exact⟨k+1,by omega,by go_num,an.out,ap.out,l++ [y],ar.out⟩
   case measure=>simp[intOf];omega
  ·obtain rfl:k=len:=by omega
   have aq:=ai (h.out.end Y.out S.symm g.out (by unfold maxLen;omega));obtain⟨⟨aD,aE,aF,aG⟩,aL⟩:=t.out.cells;clear h ih t;go_wp2_with fail;exact ao (v:=.agg #[.int .i64 4,.int .i64 0,.string .empty,.slice (some ⟨d,0,none⟩) k k]) (by simp[results,Tryz.results138,go_sem,aD,aE,aF,aG];rfl) rfl ⟨_,_,l,rfl,aq.out _ _ _ _⟩
theorem vW{w b w2:World}(c:Below w.heap.size w b)(d:Below b.heap.size b w2)(v0 v1 v2 v3:Value):Below w.heap.size w (cP w2 (w.heap.size+1) 0 v0 v1 v2 v3):=by
 have a:=c.trans (d.mono c.size);exact⟨a.os,a.tape,a.output,au a.size (dp (aZ _ _ _ _).symm),λf e=>(aO (by omega) _ _ _ _).trans (a.block f e)⟩
theorem EB(a:bW)(k u:Int)(w:World)(c:¬k=2)(d:¬k=4):Calls Tryz.prog 110 #[.pointer (some ⟨a.b,a.o,none⟩),.agg #[.int .i64 k,.int .i64 u]] w λe w'=>e=.returned (.agg #[.int .i64 k,.int .i64 u,.string .empty,.slice none 0 0])/\Below w.heap.size w w':=by
 have f:(k==2)=false:=by simpa using c
 have g:(k==4)=false:=by simpa using d
 go_enter Tryz.func110,Tryz.ntmps110;go_wp2_with fail;exact ao (v:=.agg #[.int .i64 k,.int .i64 u,.string .empty,.slice none 0 0]) (by simp[results,Tryz.results110,go_sem];rfl) rfl ⟨rfl,by go_grown⟩
theorem EA(base:Nat)(c:bW)(room:Int)(ws:List Wd)(nm:List ByteArray)(M:Nat->Prop)(i:Nat)(s:ByteArray)(w:World)(n:Hid (dy base c room ws nm M w))(r:nm.length<=100000)(t:Hid (nm[i]?=some s))(u:s.size<=2048):Calls Tryz.prog 110 #[.pointer (some ⟨c.b,c.o,none⟩),.agg #[.int .i64 2,.int .i64 i]] w λe w'=>e=.returned (.agg #[.int .i64 2,.int .i64 0,.string s,.slice none 0 0])/\Below w.heap.size w w':=by
 go_enter Tryz.func110,Tryz.ntmps110;go_wp2_with fail;generalize g:(w.alloc (Obj.cells #[Value.int IntKind.i64 2,Value.int IntKind.i64 i] 125)).alloc (Obj.cells #[.int .i64 0,.int .i64 0,.string ⟨#[]⟩,.slice none 0 0] 30)=a;have d:Hid (Below w.heap.size w a.drew/\a.drew.heap.size=w.heap.size+2):=by
  subst g;exact⟨(((ah _ _).alloc (ag _) _).alloc (by simp) _).drew,by simp[World.drew]⟩
 have E:a.cell? ⟨w.heap.size,1,none⟩=some (.int .i64 i):=by subst g;simp[go_sem]
 have m:Hid (pq (w.heap.size+1) a.drew):=by
  subst g;have:=ax (w.alloc (Obj.cells #[Value.int IntKind.i64 2,Value.int IntKind.i64 i] 125)) (Obj.cells #[.int .i64 0,.int .i64 0,.string ⟨#[]⟩,.slice none 0 0] 30);have es:∀o,(w.alloc o).heap.size=w.heap.size+1:=λo=>by simp
  rw[es]at this;exact this
 have k:Hid (Calls Tryz.prog 137 #[.pointer (some ⟨c.b,c.o+2,none⟩),.int .i64 i] a.drew λe w'=>e=.returned (.string s)/\Below a.drew.heap.size a.drew w'):=by
  obtain⟨D,x,y,p,G,q,_⟩:=n.out.later d.out.1;exact Ba base c room D x y nm i s a.drew p q.1 t r u
 clear g;go_region_held3 (λw'=>w'.cell? ⟨w.heap.size,1,none⟩=some (.int .i64 i)) (go_keep) ((go_at_call 137;refine k.out.mono ?_;rintro e I ⟨rfl,f⟩;have h:=ai f;have H:=λo=>aj f w.heap.size o (by have:=d.out.2;omega);have j:=ai (m.out.kept (f.block _ (by have:=d.out.2;omega)));obtain⟨⟨z,A,B,C⟩,F⟩:=j.out.cells;clear f));have l:=ai (vW d.out.1 h.out (.int .i64 2) (.int .i64 0) (.string s) (.slice none 0 0));go_wp2_with fail;exact ao (v:=.agg #[.int .i64 2,.int .i64 0,.string s,.slice none 0 0]) (by simp[results,Tryz.results110,go_sem,z,A,B,C]) rfl ⟨rfl,l.out⟩
theorem Ce(g o j:Nat):(⟨g,o,none⟩:Addr).add j=⟨g,o+j,none⟩:=by
 unfold Addr.add;by_cases a:j=0<;>simp[a]
theorem Aj{w:World}{vs:List Wd}{g o:Nat}(d:eK w vs (some ⟨g,o,none⟩))(h:g<w.heap.size):ew w vs (some ⟨g,o,none⟩):=by
 rcases d with d|⟨ad,c,e⟩
 ·exact ae d
 ·injection c with c;subst c;refine af ⟨g,o,rfl,h,λa b f=>⟨?_,?_⟩⟩
  ·have:=e (a*2+0) (.int .i64 b.1) (by rw[ii vs a b f 0 (by omega)];rfl);rw[Ce]at this;exact this
  ·have:=e (a*2+1) (.int .i64 b.2) (by rw[ii vs a b f 1 (by omega)];rfl);rw[Ce]at this;exact this
theorem G1(n:Nat)(ih:LU n)(base:Nat)(a:bW)(room:Int)(ws:List Wd)(nm:List ByteArray)(M:Nat->Prop)(k len:Nat)(p:List (Tm n))(N:Hid (p.length=len))(w:World)(H:Hid (dy base a room ws nm M w))(ak:len<=8)(F:Hid (ws.length<=100000))(L:Hid (nm.length<=100000))(K:Hid (ws[k]?=some (0,(len:Int))))(E:Hid (k+1+len<=ws.length))(P:Hid (∀(i:Nat)(y:Tm n),p[i]?=some y->∃u,ws[k+1+i]?=some u/\dA ws nm n y u))(O:Hid (∀y∈p,aB ⟨n,y⟩)):Calls Tryz.prog 110 #[.pointer (some ⟨a.b,a.o,none⟩),.agg #[.int .i64 4,.int .i64 k]] w λe w'=>∃h j l,e=.returned (.agg #[.int .i64 4,.int .i64 0,.string .empty,.slice h len j])/\Hid (fV n p w w' h j l):=by
 go_enter Tryz.func110,Tryz.ntmps110;go_wp2_with fail;generalize z:(w.alloc (Obj.cells #[Value.int IntKind.i64 4,Value.int IntKind.i64 k] 125)).alloc (Obj.cells #[.int .i64 0,.int .i64 0,.string ⟨#[]⟩,.slice none 0 0] 30)=d;have q:Hid (Below w.heap.size w d.drew/\d.drew.heap.size=w.heap.size+2):=by
  subst z;exact⟨(((ah _ _).alloc (ag _) _).alloc (by simp) _).drew,by simp[World.drew]⟩
 have Y:d.cell? ⟨w.heap.size,1,none⟩=some (.int .i64 k):=by subst z;simp[go_sem]
 have W:Hid (pq (w.heap.size+1) d.drew):=by
  subst z;have:=ax (w.alloc (Obj.cells #[Value.int IntKind.i64 4,Value.int IntKind.i64 k] 125)) (Obj.cells #[.int .i64 0,.int .i64 0,.string ⟨#[]⟩,.slice none 0 0] 30);have es:∀o,(w.alloc o).heap.size=w.heap.size+1:=λo=>by simp
  rw[es]at this;exact this
 have B:=ai (H.out.later q.out.1);obtain⟨c,m,g,C,G⟩:∃c m g,d.cell? ⟨a.b,a.o+1,none⟩=some (.slice (some ⟨c,0,none⟩) m g)/\Hid (a.b<w.heap.size/\Calls Tryz.prog 139 #[.slice (some ⟨c,0,none⟩) m g,.int .i64 k] d.drew λe w'=>∃o pc,e=.returned (.slice (some ⟨c,o,none⟩) len pc)/\w'=d.drew/\Hid (ew d.drew ((ws.drop (k+1)).take len) (some ⟨c,o,none⟩))):=by
  obtain⟨aJ,aH,aI,Z,D,aC,aa,_⟩:=B.out;obtain⟨⟨aw,C,ay,az⟩,aE⟩:=Z.cells;have af:=E.out;obtain⟨c,g,rfl,_,_⟩:=D.form (by omega);refine⟨c,_,g,C,aa.2,?_⟩;refine(vq base c ws.length g k len ws d.drew F.out D K af).mono ?_;rintro e w' ⟨rfl,pa,pc,rfl,_,an,o,rfl⟩;exact⟨o,pc,rfl,rfl,Aj an (D.lt c rfl).2⟩
 have T:Hid (∀o pc,ew d.drew ((ws.drop (k+1)).take len) (some ⟨c,o,none⟩)->Calls Tryz.prog 138 #[.pointer (some ⟨a.b,a.o,none⟩),.slice (some ⟨c,o,none⟩) len pc] d.drew λe w'=>∃h j l,e=.returned (.agg #[.int .i64 4,.int .i64 0,.string .empty,.slice h len j])/\Hid (fV n p d.drew w' h j l)):=by
  intro o pc ae;refine xA n ih base a room ws nm _ (some ⟨c,o,none⟩) len pc p ((ws.drop (k+1)).take len) N ?_ d.drew B ak F L ae ?_ O
  ·have:=E.out;unfold Hid;rw[dn,eG];omega
  ·intro i y v R Q;obtain⟨u,am,al⟩:=P.out i y R;have ad:i<len:=by have:=(aK.1 R).1;have:=N.out;omega
   rw[qZ ad,jO,am]at Q;obtain rfl:=ap Q;exact al
 clear z ih P O H B K E F L;have aF:a.b<w.heap.size:=G.out.1;have aG:w.heap.size+1≠a.b:=by omega
 have V:Hid (∀(f:World)(r s t x:Value),(f.cell? ⟨w.heap.size,1,none⟩=some (.int .i64 k)/\f.cell? ⟨a.b,a.o+1,none⟩=some (.slice (some ⟨c,0,none⟩) m g))->((((f.setCell ⟨w.heap.size+1,0,none⟩ r).setCell ⟨w.heap.size+1,1,none⟩ s).setCell ⟨w.heap.size+1,2,none⟩ t).setCell ⟨w.heap.size+1,3,none⟩ x).cell? ⟨w.heap.size,1,none⟩=some (.int .i64 k)/\((((f.setCell ⟨w.heap.size+1,0,none⟩ r).setCell ⟨w.heap.size+1,1,none⟩ s).setCell ⟨w.heap.size+1,2,none⟩ t).setCell ⟨w.heap.size+1,3,none⟩ x).cell? ⟨a.b,a.o+1,none⟩=some (.slice (some ⟨c,0,none⟩) m g)):=by
  intro f r s t x J;exact⟨(bi (aO (o:=0) (w:=f) (show w.heap.size≠w.heap.size+1 by omega) r s t x) 1).trans J.1,(bi (aO (o:=0) (w:=f) (show a.b≠w.heap.size+1 by omega) r s t x) (a.o+1)).trans J.2⟩
 go_region_held3 (λw'=>w'.cell? ⟨w.heap.size,1,none⟩=some (.int .i64 k)/\w'.cell? ⟨a.b,a.o+1,none⟩=some (.slice (some ⟨c,0,none⟩) m g)) (first|(go_keep;done)|exact V.out _ _ _ _ _ ab) ((first
  | (go_at_call 139;refine G.out.2.mono ?_;rintro e f ⟨o,pc,rfl,rfl,X⟩)
  | (go_at_call 138;refine(T.out _ _ X.out).mono ?_;rintro e f ⟨h,j,l,rfl,A⟩;have I:=λb o (aD:b<w.heap.size+1)=>aj A.out.1 b o (by have:=q.out.2;omega);have ab:f.cell? ⟨w.heap.size,1,none⟩=some (.int .i64 k)/\f.cell? ⟨a.b,a.o+1,none⟩=some (.slice (some ⟨c,0,none⟩) m g):=⟨(I w.heap.size 1 (by omega)).trans Y,(I a.b (a.o+1) (by omega)).trans C⟩;have S:=ai (W.out.kept (A.out.1.block _ (by have:=q.out.2;omega)));obtain⟨⟨aq,ar,au,av⟩,aA⟩:=S.out.cells)))
 have U:=ai (A.out.box q.out.1 (by have:=q.out.2;omega) (.int .i64 4) (.int .i64 0) (.string .empty) (.slice h len j));go_wp2_with fail;exact ao (v:=.agg #[.int .i64 4,.int .i64 0,.string .empty,.slice h len j]) (by simp[results,Tryz.results110,go_sem,aq,ar,au,av]) rfl ⟨h,j,l,rfl,U.out⟩
theorem td(x:Nd)(b:bT x=true):dc x.1.1/\dc x.1.2.1:=by
 have c:=jD x b;unfold bT kK at b;unfold dc;rcases c with a|a|a|a|a|⟨a,d⟩
 all_goals (rw[a]at b ⊢;simp at b;refine⟨by omega,by omega⟩)
theorem G0(n:Nat):LU n:=by
 induction n with
 | zero=>intro a ai u q room B z t s _ _ _ x;exact x.elim
 | succ n ih=>
  intro a ai u q room B z t s C V F x H;have p:=H (bm n a) (by simp[aq,bm]);have S:a.2.2.length<=8:=lp (bm n a) p;have G:a.1.2.2.size<=2048:=by have:=qD (bm n a) p;simp only[bm]at this;omega
  obtain⟨ad,ah,ab⟩:=x;have g:=eh (bm n a) p;have I:∀(e:World)(k A:Int)(r:ByteArray),dc k->dc A->r.size<=2048->In e.heap.size e (n+1) ((k,A,r),(none,0),[]):=λe k A r M d aj=>⟨⟨M,d,by unfold maxLen;show r.size<=_;omega,ag _,aD _⟩,ae rfl⟩;by_cases d:a.1.1=2
  ·obtain⟨j,rfl,P⟩:=ad d;have y:a.2.2=[]:=bK (g.2.2.2.2 (by show a.1.1≠4;omega));refine(EA u q room B z t j a.1.2.2 s C F P G).mono ?_;rintro f e ⟨rfl,v⟩;refine⟨((2,0,a.1.2.2),(none,0),[]),rfl,v,I e 2 0 _ (by unfold dc;omega) (by unfold dc;omega) G,ae rfl,?_⟩;have N:a.1.2.1=0:=g.2.1 d;simp[aw,d,N,y,av]
  ·by_cases h:a.1.1=4
   ·obtain⟨k,rfl,Q,R,T⟩:=ah h;refine(G1 n ih u q room B z t k a.2.2.length a.2.2 rfl s C S V F Q R T (λm i=>aU n a m H i)).mono ?_;rintro f e ⟨K,L,l,rfl,J⟩;obtain⟨W,X,Y,Z,aa,c⟩:=J.out;have O:a.1.2.1=0:=g.2.2.1 h;have w:a.1.2.2.toList=[]:=g.1 d;refine⟨((4,0,.empty),(K,L),l),by rw[<-X];rfl,W,⟨⟨by unfold dc;show (-9223372036854775808:Int)<=4/\(4:Int)<=9223372036854775807;omega,by unfold dc;show (-9223372036854775808:Int)<=0/\(0:Int)<=9223372036854775807;omega,by unfold maxLen;show (0:Nat)<=_;omega,Y,Z⟩,?_⟩,?_,?_⟩
    ·rcases c with c|⟨b,o,f,D,E,c⟩
     ·exact ae c
     ·exact af ⟨b,o,f,E,λj m i=>⟨(c j m i).1,(c j m i).2.1⟩⟩
    ·rcases c with c|⟨b,o,f,D,E,c⟩
     ·exact ae c
     ·exact af ⟨b,o,f,D.1,λj m i=>(c j m i).2.2⟩
    ·simp only[aw];rw[h,O,w,aa];simp
   ·have U:=ab d h;subst U;have y:a.2.2=[]:=bK (g.2.2.2.2 h);have w:a.1.2.2.toList=[]:=g.1 d;refine(EB q a.1.1 a.1.2.1 s d h).mono ?_;rintro f e ⟨rfl,v⟩;refine⟨((a.1.1,a.1.2.1,.empty),(none,0),[]),rfl,v,I e _ _ _ ?_ ?_ (by show (0:Nat)<=_;omega),ae rfl,?_⟩
    ·exact(td _ p).1
    ·exact(td _ p).2
    ·simp only[aw];rw[w,y];simp[av]
def cq(ws:List Wd)(nm:List ByteArray)(v:Wd):Bool:=
 if v.1=1 then kK v.2 (-1099511627776) 1099511627776 else if v.1=3 then kK v.2 1 99 else if v.1=2 then tf nm.length v.2 else if v.1=4 then fA ws v.2 else false
def uw(k u:Int):Tm 1:=((k,u,.empty),(none,0),[])
theorem FZ(k u:Int)(a:k=1\/k=3):bA 1 (uw k u)=if bT (bm 0 (uw k u))then 0 else 5:=by
 rcases a with rfl|rfl<;>simp[bA,uw,aq,mK,xZ,sz,kT,bm]<;>rfl
theorem DH(ws:List Wd)(nm:List ByteArray)(k u:Int)(a:k=1\/k=3):bT (bm 0 (uw k u))=cq ws nm (k,u):=by
 rcases a with rfl|rfl<;>simp[bT,uw,bm,cq]
theorem ub(h:bW)(ws:List Wd)(nm:List ByteArray)(k u:Int)(w:World)(c:k=1\/k=3)(i:dc u):Calls Tryz.prog 109 #[.pointer (some ⟨h.b,h.o,none⟩),.agg #[.int .i64 k,.int .i64 u]] w λe w'=>e=.returned (.bool (cq ws nm (k,u)))/\Below w.heap.size w w':=by
 have d:Hid (∀a,Calls Tryz.prog 42 #[.agg #[.int .i64 k,.int .i64 u,.string .empty,.slice none 0 0]] a λe w'=>e=.returned (.int .i64 (if cq ws nm (k,u)then 0 else 5))/\Below a.heap.size a w'):=by
  intro a;have f:=dL 1 (uw k u) a.heap.size a ⟨⟨by rcases c with rfl|rfl<;>simp[uw,dc],i,by simp[uw,maxLen],ag _,aD _⟩,ae rfl⟩ (ag _) (by simp[aq,uw]);rw[FZ k u c,DH ws nm k u c]at f;exact f
 generalize cq ws nm (k,u)=j at*;cases j
 all_goals
  simp only[cI,lH,if_false]at d;rcases c with rfl|rfl
  all_goals
   go_enter Tryz.func109,Tryz.ntmps109;go_wp2_with fail;refine(d.out _).mono ?_;rintro e l ⟨rfl,g⟩;have HB:=ai g;clear g;go_wp2_with fail
   go_ret
   exact⟨rfl,((ah _ _).alloc (ag _) _).trans (HB.out.mono (by simp))⟩
theorem zX(base:Nat)(d:bW)(room:Int)(ws:List Wd)(nm:List ByteArray)(M:Nat->Prop)(u:Int)(w:World)(j:Hid (dy base d room ws nm M w)):Calls Tryz.prog 109 #[.pointer (some ⟨d.b,d.o,none⟩),.agg #[.int .i64 2,.int .i64 u]] w λe w'=>e=.returned (.bool (tf nm.length u))/\Below w.heap.size w w':=by
 have k:Hid (∀a,Below w.heap.size w a->Calls Tryz.prog 135 #[.pointer (some ⟨d.b,d.o+2,none⟩),.int .i64 u] a λe w'=>e=.returned (.bool (tf nm.length u))/\w'=a):=by
  intro a p;obtain⟨s,q,r,m,z,n,_⟩:=j.out.later p;obtain⟨g,h,rfl⟩:∃g h,q=.slice g nm.length h:=by
   rcases n.1.2 with⟨e,l⟩|⟨y,c,v,e,_⟩
   ·exact⟨none,0,by rw[e,l]⟩
   ·exact⟨_,c,e⟩
  exact IJ d room s g nm.length h r u a m
 clear j;generalize tf nm.length u=t at*;go_enter Tryz.func109,Tryz.ntmps109;go_wp2_with fail;generalize f:w.alloc (Obj.cells #[Value.int IntKind.i64 2,Value.int IntKind.i64 u] 125)=a;have i:Hid (Below w.heap.size w a.drew):=by subst f;exact((ah _ _).alloc (ag _) _).drew
 have x:a.cell? ⟨w.heap.size,1,none⟩=some (.int .i64 u):=by subst f;simp[go_sem]
 clear f;go_region_held3 (λw'=>w'.cell? ⟨w.heap.size,1,none⟩=some (.int .i64 u)) (go_keep) ((go_at_call 135;refine(k.out _ i.out).mono ?_;rintro e A ⟨rfl,rfl⟩));go_wp2_with fail
 go_ret
 exact⟨rfl,i.out⟩
theorem BO(base:Nat)(a:bW)(room:Int)(ws:List Wd)(nm:List ByteArray)(M:Nat->Prop)(u:Int)(w:World)(l:Hid (dy base a room ws nm M w))(t:ws.length<=100000):Calls Tryz.prog 109 #[.pointer (some ⟨a.b,a.o,none⟩),.agg #[.int .i64 4,.int .i64 u]] w λe w'=>e=.returned (.bool (fA ws u))/\Below w.heap.size w w':=by
 obtain⟨d,f,s,k,p⟩:∃d f,a.b<w.heap.size/\w.cell? ⟨a.b,a.o+1,none⟩=some (.slice d ws.length f)/\Hid (∀g,Below w.heap.size w g->Calls Tryz.prog 136 #[.slice d ws.length f,.int .i64 u] g λe w'=>e=.returned (.bool (fA ws u))/\w'=g):=by
  obtain⟨v,C,D,m,n,B,_⟩:=l.out;obtain⟨d,f,rfl⟩:∃d f,v=.slice d ws.length f:=by
   rcases n.2 with⟨e,q⟩|⟨A,c,y,e,_⟩
   ·exact⟨none,0,by rw[e,q]⟩
   ·exact⟨_,c,e⟩
  exact⟨d,f,m.lt,m.cells.1.2.1,λg r=>Ay base d ws.length f ws u g rfl t (dF n r)⟩
 clear l;generalize fA ws u=x at*;generalize ws.length=j at*;go_enter Tryz.func109,Tryz.ntmps109;go_wp2_with fail;generalize i:w.alloc (Obj.cells #[Value.int IntKind.i64 4,Value.int IntKind.i64 u] 125)=g;have h:Hid (Below w.heap.size w g.drew):=by subst i;exact((ah _ _).alloc (ag _) _).drew
 have z:g.cell? ⟨w.heap.size,1,none⟩=some (.int .i64 u):=by subst i;simp[go_sem]
 replace k:g.cell? ⟨a.b,a.o+1,none⟩=some (.slice d j f):=(aj h.out a.b (a.o+1) s).trans k;clear i;go_region_held3 (λw'=>w'.cell? ⟨w.heap.size,1,none⟩=some (.int .i64 u)/\w'.cell? ⟨a.b,a.o+1,none⟩=some (.slice d j f)) (go_keep) ((go_at_call 136;refine(p.out _ h.out).mono ?_;rintro e E ⟨rfl,rfl⟩));go_wp2_with fail
 go_ret
 exact⟨rfl,h.out⟩
theorem zY(a:bW)(k u:Int)(w:World)(c:¬k=1)(d:¬k=2)(f:¬k=3)(g:¬k=4):Calls Tryz.prog 109 #[.pointer (some ⟨a.b,a.o,none⟩),.agg #[.int .i64 k,.int .i64 u]] w λe w'=>e=.returned (.bool false)/\Below w.heap.size w w':=by
 have h:(k==1)=false:=by simpa using c
 have i:(k==2)=false:=by simpa using d
 have j:(k==3)=false:=by simpa using f
 have l:(k==4)=false:=by simpa using g
 go_enter Tryz.func109,Tryz.ntmps109;go_wp2_with fail
 go_ret
 exact⟨rfl,by go_grown⟩
theorem ua(base:Nat)(c:bW)(room:Int)(ws:List Wd)(nm:List ByteArray)(M:Nat->Prop)(v:Wd)(w:World)(i:dy base c room ws nm M w)(l:ws.length<=100000)(j:dc v.2):Calls Tryz.prog 109 #[.pointer (some ⟨c.b,c.o,none⟩),EU v] w λe w'=>e=.returned (.bool (cq ws nm v))/\Below w.heap.size w w':=by
 obtain⟨k,a⟩:=v;by_cases d:k=1
 ·exact ub c ws nm k a w (ae d) j
 ·by_cases g:k=3
  ·exact ub c ws nm k a w (af g) j
  ·by_cases f:k=2
   ·subst f;have e:cq ws nm (2,a)=tf nm.length a:=by simp[cq]
    rw[e];exact zX base c room ws nm M a w i
   ·by_cases h:k=4
    ·subst h;have e:cq ws nm (4,a)=fA ws a:=by simp[cq]
     rw[e];exact BO base c room ws nm M a w i l
    ·have e:cq ws nm (k,a)=false:=by simp[cq,d,f,g,h]
     rw[e];exact zY c k a w d f g h
theorem vV(base:Nat)(j:bW)(room:Int)(ws:List Wd)(nm:List ByteArray)(M:Nat->Prop)(vs:List Wd)(a:Option Addr)(len pc:Nat)(w:World)(r:Hid (dy base j room ws nm M w))(D:ws.length<=100000)(y:Hid (vs.length=len))(I:len<=100000)(x:Hid (ew w vs a))(u:Hid (∀v∈vs,dc v.2)):Calls Tryz.prog 162 #[.pointer (some ⟨j.b,j.o,none⟩),.slice a len pc] w λe w'=>e=.returned (.bool (vs.all (cq ws nm)))/\Below w.heap.size w w':=by
 go_enter Tryz.func162,Tryz.ntmps162;go_wp2_with fail;go_loopw [9] (λg wr=>∃k:Nat,k<=len/\g=.int .i64 k/\Hid (Below w.heap.size w wr/\(vs.take k).all (cq ws nm)=true)) (λg _=>len-(intOf g).toNat)
 case atStart=>exact⟨0,by omega,rfl,ah _ _,by simp⟩
 case round=>
  obtain⟨k,F,rfl,c⟩:=hrel;by_cases C:k<len
  ·obtain⟨v,f⟩:∃v,vs[k]?=some v:=⟨vs[k]'(by rw[y.out];exact C),aA _⟩;obtain⟨b,o,rfl,t,z⟩:∃b o,a=some ⟨b,o,none⟩/\b<w.heap.size/\∀(g:Nat)(v:Wd),vs[g]?=some v->w.cell? ⟨b,o+g*2,none⟩=some (.int .i64 v.1)/\w.cell? ⟨b,o+g*2+1,none⟩=some (.int .i64 v.2):=by
    rcases x.out with e|e
    ·rw[e]at f;simp at f
    ·exact e
   obtain⟨p,q⟩:=z k v f;replace p:=(aj c.out.1 b (o+k*2) t).trans p;replace q:=(aj c.out.1 b (o+k*2+1) t).trans q
   have h:Hid (∀(d:World),Below wr.heap.size wr d->Calls Tryz.prog 109 #[.pointer (some ⟨j.b,j.o,none⟩),.agg #[.int .i64 v.1,.int .i64 v.2]] d λe w'=>e=.returned (.bool (cq ws nm v))/\Below d.heap.size d w'):=
    λd B=>ua base j room ws nm _ v d (r.out.later (c.out.1.trans (B.mono c.out.1.size))) D (u.out v (ay f))
   have i:Hid ((cq ws nm v=true->(vs.take (k+1)).all (cq ws nm)=true)/\(cq ws nm v=false->vs.all (cq ws nm)=false)):=by
    refine⟨λe=>?_,λe=>?_⟩
    ·rw[dw,f,List.all_append,c.out.2];simp[e]
    ·cases ha:vs.all (cq ws nm)
     ·rfl
     ·rw[bS]at ha;rw[ha v (ay f)]at e;exact e
   have m:Hid (Below w.heap.size w wr):=c.out.1;clear f z x r u c;have G:(0:Int)<=(k:Int):=by omega
   have H:(k:Int)<(len:Int):=by omega
   have E:=m.out.size;have J:b<wr.heap.size:=by omega
   clear E;cases hsb:cq ws nm v
   ·rw[hsb]at h;replace i:=ai (i.out.2 hsb);clear hsb;go_wp2_with fail;refine(h.out _ ((ah _ _).alloc (ag _) _)).mono ?_;rintro e d ⟨rfl,n⟩;have l:Hid (Below w.heap.size w d):=m.out.trans ((((ah _ _).alloc (ag _) _).trans (n.mono (by simp))).mono m.out.size);clear n p q h;go_wp2_with fail
    go_ret
    exact⟨eA i.out.symm,l.out⟩
   ·rw[hsb]at h;replace i:=ai (i.out.1 hsb);clear hsb;go_wp2_with fail;refine(h.out _ ((ah _ _).alloc (ag _) _)).mono ?_;rintro e d ⟨rfl,n⟩;have l:Hid (Below w.heap.size w d):=m.out.trans ((((ah _ _).alloc (ag _) _).trans (n.mono (by simp))).mono m.out.size);clear n p q h;go_wp2_with fail;go_roundw
    case rel=>exact⟨k+1,by omega,by go_num,l.out,i.out⟩
    case measure=>simp[intOf];omega
  ·have A:Hid (vs.all (cq ws nm)=true):=by
     have s:=c.out.2;rw[bk (by have:=y.out;omega)]at s;exact s
   have l:Hid (Below w.heap.size w wr):=c.out.1;clear c;go_wp2_with fail
   go_ret
   exact⟨eA A.out.symm,l.out⟩
def kQ(q:Nat)(k u:Int)(s:ByteArray)(a:Option Addr)(l c:Nat)(w:World):Prop:=
 w.heap[q]?=some (.cells #[.int .i64 k,.int .i64 u,.string s,.slice a l c] 30)/\w.heap[q+1]?=some (.cells #[.int .i64 0,.int .i64 0] 125)
theorem sk(w:World)(k u:Int)(s:ByteArray)(a:Option Addr)(l c:Nat):kQ w.heap.size k u s a l c ((w.alloc (Obj.cells #[.int .i64 k,.int .i64 u,.string s,.slice a l c] 30)).alloc (Obj.cells #[.int .i64 0,.int .i64 0] 125)):=by
 refine⟨((dq (w.alloc (Obj.cells #[.int .i64 k,.int .i64 u,.string s,.slice a l c] 30)) (Obj.cells #[.int .i64 0,.int .i64 0] 125) none).block _ (by simp) (by simp)).trans (ax w _),?_⟩;have:=ax (w.alloc (Obj.cells #[.int .i64 k,.int .i64 u,.string s,.slice a l c] 30)) (Obj.cells #[.int .i64 0,.int .i64 0] 125);have es:∀o,(w.alloc o).heap.size=w.heap.size+1:=λo=>by simp
 rw[es]at this;exact this
theorem kQ.facts{q:Nat}{k u:Int}{s:ByteArray}{a:Option Addr}{l c:Nat}{w:World}(b:kQ q k u s a l c w):(w.cell? ⟨q,0,none⟩=some (.int .i64 k)/\w.cell? ⟨q,1,none⟩=some (.int .i64 u)/\w.cell? ⟨q,2,none⟩=some (.string s)/\w.cell? ⟨q,3,none⟩=some (.slice a l c))/\(w.cell? ⟨q+1,0,none⟩=some (.int .i64 0)/\w.cell? ⟨q+1,1,none⟩=some (.int .i64 0))/\w.frozen? ⟨q+1,0,none⟩=false/\w.frozen? ⟨q+1,1,none⟩=false:=by
 obtain⟨d,e⟩:=b;refine⟨⟨?_,?_,?_,?_⟩,⟨?_,?_⟩,?_,?_⟩
 all_goals simp[World.cell?,World.frozen?,d,e]
theorem fm{k u:Int}{s:ByteArray}{a:Option Addr}{l c:Nat}{w w1 w2:World}(f:Below w.heap.size w w1/\w.heap.size+2<=w1.heap.size/\kQ w.heap.size k u s a l c w1)(b:Below w1.heap.size w1 w2):Below w.heap.size w w2/\w.heap.size+2<=w2.heap.size/\kQ w.heap.size k u s a l c w2:=by
 obtain⟨d,g,e⟩:=f;have:=b.size;exact⟨d.trans (b.mono d.size),by omega,(b.block _ (by omega)).trans e.1,(b.block _ (by omega)).trans e.2⟩
theorem oL{k u:Int}{s:ByteArray}{a:Option Addr}{l c:Nat}{w w1:World}(d:Below w.heap.size w w1/\w.heap.size+2<=w1.heap.size/\kQ w.heap.size k u s a l c w1)(v0 v1:Value):Below w.heap.size w ((w1.setCell ⟨w.heap.size+1,0,none⟩ v0).setCell ⟨w.heap.size+1,1,none⟩ v1):=by
 obtain⟨f,j,m⟩:=d;have h:=aY w1 (w.heap.size+1) 0 v0;have i:=aY (w1.setCell ⟨w.heap.size+1,0,none⟩ v0) (w.heap.size+1) 1 v1;have e:=(aR f (λb=>b=w.heap.size+1)).trans (h.trans i (λb _ d=>d)) (λb _ d=>d);exact⟨e.os,e.tape,e.output,e.size,λb g=>e.block b g (by omega)⟩
theorem Kw(j:bW)(k u:Int)(s:ByteArray)(a:Option Addr)(l c:Nat)(w:World)(d:Int)(x:(d !=0)=true)(n:Hid (∀w1,Below w.heap.size w w1->Calls Tryz.prog 42 #[.agg #[.int .i64 k,.int .i64 u,.string s,.slice a l c]] w1 λe w'=>e=.returned (.int .i64 d)/\Below w1.heap.size w1 w')):Calls Tryz.prog 56 #[.pointer (some ⟨j.b,j.o,none⟩),.agg #[.int .i64 k,.int .i64 u,.string s,.slice a l c]] w λe w'=>e=.returned (.tuple #[.agg #[.int .i64 0,.int .i64 0],.int .i64 d])/\Below w.heap.size w w':=by
 go_enter Tryz.func56,Tryz.ntmps56;go_wp2_with fail;generalize m:(w.alloc (Obj.cells #[.int .i64 k,.int .i64 u,.string s,.slice a l c] 30)).alloc (Obj.cells #[.int .i64 0,.int .i64 0] 125)=g;have f:Hid (Below w.heap.size w g/\w.heap.size+2<=g.heap.size/\kQ w.heap.size k u s a l c g):=by
  subst m;exact⟨((ah _ _).alloc (ag _) _).alloc (by simp) _,by simp,sk _ _ _ _ _ _ _⟩
 clear m;refine(n.out _ f.out.1).mono ?_;rintro e w1 ⟨rfl,i⟩;have h:=ai (fm f.out i);obtain⟨⟨y,z,A,B⟩,⟨p,q⟩,r,t⟩:=h.out.2.2.facts;clear i f;go_wp2_with fail;exact ao (v:=.tuple #[.agg #[.int .i64 0,.int .i64 0],.int .i64 d]) (by simp[results,Tryz.results56,go_sem,p,q]) rfl ⟨rfl,oL h.out _ _⟩
theorem Kx(q:bW)(k u:Int)(s:ByteArray)(a:Option Addr)(l c:Nat)(w:World)(A:Hid (∀w1,Below w.heap.size w w1->Calls Tryz.prog 42 #[.agg #[.int .i64 k,.int .i64 u,.string s,.slice a l c]] w1 λe w'=>e=.returned (.int .i64 0)/\Below w1.heap.size w1 w'))(B:Hid (∀w1,Below w.heap.size w w1->Calls Tryz.prog 43 #[.agg #[.int .i64 k,.int .i64 u,.string s,.slice a l c]] w1 λe w'=>e=.returned (.bool false)/\Below w1.heap.size w1 w')):Calls Tryz.prog 56 #[.pointer (some ⟨q.b,q.o,none⟩),.agg #[.int .i64 k,.int .i64 u,.string s,.slice a l c]] w λe w'=>e=.returned (.tuple #[.agg #[.int .i64 0,.int .i64 0],.int .i64 5])/\Below w.heap.size w w':=by
 go_enter Tryz.func56,Tryz.ntmps56;go_wp2_with fail;generalize r:(w.alloc (Obj.cells #[.int .i64 k,.int .i64 u,.string s,.slice a l c] 30)).alloc (Obj.cells #[.int .i64 0,.int .i64 0] 125)=j;have g:Hid (Below w.heap.size w j/\w.heap.size+2<=j.heap.size/\kQ w.heap.size k u s a l c j):=by
  subst r;exact⟨((ah _ _).alloc (ag _) _).alloc (by simp) _,by simp,sk _ _ _ _ _ _ _⟩
 clear r;refine(A.out _ g.out.1).mono ?_;rintro e w1 ⟨rfl,d⟩;have f:=ai (fm g.out d);obtain⟨⟨t,x,y,z⟩,⟨h,i⟩,n,p⟩:=f.out.2.2.facts;clear d g;go_wp2_with fail;clear t x y z h i n p;refine(B.out _ f.out.1).mono ?_;rintro e C ⟨rfl,d⟩;have m:=ai (fm f.out d);obtain⟨⟨t,x,y,z⟩,⟨h,i⟩,n,p⟩:=m.out.2.2.facts;clear d f;go_wp2_with fail;exact ao (v:=.tuple #[.agg #[.int .i64 0,.int .i64 0],.int .i64 5]) (by simp[results,Tryz.results56,go_sem,h,i]) rfl ⟨rfl,oL m.out _ _⟩
theorem Ky(x:bW)(k u:Int)(s:ByteArray)(a:Option Addr)(l c:Nat)(w:World)(z:Int)(D:Hid (∀w1,Below w.heap.size w w1->Calls Tryz.prog 42 #[.agg #[.int .i64 k,.int .i64 u,.string s,.slice a l c]] w1 λe w'=>e=.returned (.int .i64 0)/\Below w1.heap.size w1 w'))(F:Hid (∀w1,Below w.heap.size w w1->Calls Tryz.prog 43 #[.agg #[.int .i64 k,.int .i64 u,.string s,.slice a l c]] w1 λe w'=>e=.returned (.bool true)/\Below w1.heap.size w1 w'))(G:Hid (∀w1,Below w.heap.size w w1->Calls Tryz.prog 70 #[.agg #[.int .i64 k,.int .i64 u,.string s,.slice a l c]] w1 λe w'=>e=.returned (.int .i64 z)/\Below w1.heap.size w1 w'))(E:Hid (∀w1,Below w.heap.size w w1->Calls Tryz.prog 85 #[.pointer (some ⟨x.b,x.o,none⟩),.int .i64 z] w1 λe w'=>e=.returned (.bool false)/\Below w1.heap.size w1 w')):Calls Tryz.prog 56 #[.pointer (some ⟨x.b,x.o,none⟩),.agg #[.int .i64 k,.int .i64 u,.string s,.slice a l c]] w λe w'=>e=.returned (.tuple #[.agg #[.int .i64 0,.int .i64 0],.int .i64 6])/\Below w.heap.size w w':=by
 go_enter Tryz.func56,Tryz.ntmps56;go_wp2_with fail;generalize C:(w.alloc (Obj.cells #[.int .i64 k,.int .i64 u,.string s,.slice a l c] 30)).alloc (Obj.cells #[.int .i64 0,.int .i64 0] 125)=A;have y:Hid (Below w.heap.size w A/\w.heap.size+2<=A.heap.size/\kQ w.heap.size k u s a l c A):=by
  subst C;exact⟨((ah _ _).alloc (ag _) _).alloc (by simp) _,by simp,sk _ _ _ _ _ _ _⟩
 clear C;refine(D.out _ y.out.1).mono ?_;rintro e w1 ⟨rfl,d⟩;have q:=ai (fm y.out d);obtain⟨⟨j,m,n,p⟩,⟨f,g⟩,h,i⟩:=q.out.2.2.facts;clear d y;go_wp2_with fail;clear j m n p f g h i;refine(F.out _ q.out.1).mono ?_;rintro e H ⟨rfl,d⟩;have r:=ai (fm q.out d);obtain⟨⟨j,m,n,p⟩,⟨f,g⟩,h,i⟩:=r.out.2.2.facts;clear d q;go_wp2_with fail;clear j m n p f g h i;refine(G.out _ r.out.1).mono ?_;rintro e I ⟨rfl,d⟩;have t:=ai (fm r.out d);obtain⟨⟨j,m,n,p⟩,⟨f,g⟩,h,i⟩:=t.out.2.2.facts;clear d r;go_wp2_with fail;clear j m n p f g h i;refine(E.out _ t.out.1).mono ?_;rintro e J ⟨rfl,d⟩;have B:=ai (fm t.out d);obtain⟨⟨j,m,n,p⟩,⟨f,g⟩,h,i⟩:=B.out.2.2.facts;clear d t;go_wp2_with fail;exact ao (v:=.tuple #[.agg #[.int .i64 0,.int .i64 0],.int .i64 6]) (by simp[results,Tryz.results56,go_sem,f,g]) rfl ⟨rfl,oL B.out _ _⟩
theorem Kz(j:bW)(k u:Int)(s:ByteArray)(a:Option Addr)(l c:Nat)(w:World)(z:Int)(g:Wd)(base:Nat)(room:Int)(ws:List Wd)(nm:List ByteArray)(M:Nat->Prop)(G:Hid (∀w1,Below w.heap.size w w1->Calls Tryz.prog 42 #[.agg #[.int .i64 k,.int .i64 u,.string s,.slice a l c]] w1 λe w'=>e=.returned (.int .i64 0)/\Below w1.heap.size w1 w'))(J:Hid (∀w1,Below w.heap.size w w1->Calls Tryz.prog 43 #[.agg #[.int .i64 k,.int .i64 u,.string s,.slice a l c]] w1 λe w'=>e=.returned (.bool true)/\Below w1.heap.size w1 w'))(K:Hid (∀w1,Below w.heap.size w w1->Calls Tryz.prog 70 #[.agg #[.int .i64 k,.int .i64 u,.string s,.slice a l c]] w1 λe w'=>e=.returned (.int .i64 z)/\Below w1.heap.size w1 w'))(I:Hid (∀w1,Below w.heap.size w w1->Calls Tryz.prog 85 #[.pointer (some ⟨j.b,j.o,none⟩),.int .i64 z] w1 λe w'=>e=.returned (.bool true)/\Below w1.heap.size w1 w'))(L:Hid (∀w1,Below w.heap.size w w1->Calls Tryz.prog 86 #[.pointer (some ⟨j.b,j.o,none⟩),.agg #[.int .i64 k,.int .i64 u,.string s,.slice a l c]] w1 λe w'=>e=.returned (.agg #[.int .i64 g.1,.int .i64 g.2])/\Hid (kZ base j room ws nm (λb=>M b/\b<w.heap.size) w1 w'))):Calls Tryz.prog 56 #[.pointer (some ⟨j.b,j.o,none⟩),.agg #[.int .i64 k,.int .i64 u,.string s,.slice a l c]] w λe w'=>e=.returned (.tuple #[.agg #[.int .i64 g.1,.int .i64 g.2],.int .i64 0])/\Hid (kZ base j room ws nm M w w'):=by
 go_enter Tryz.func56,Tryz.ntmps56;go_wp2_with fail;generalize F:(w.alloc (Obj.cells #[.int .i64 k,.int .i64 u,.string s,.slice a l c] 30)).alloc (Obj.cells #[.int .i64 0,.int .i64 0] 125)=E;have C:Hid (Below w.heap.size w E/\w.heap.size+2<=E.heap.size/\kQ w.heap.size k u s a l c E):=by
  subst F;exact⟨((ah _ _).alloc (ag _) _).alloc (by simp) _,by simp,sk _ _ _ _ _ _ _⟩
 clear F;refine(G.out _ C.out.1).mono ?_;rintro e w1 ⟨rfl,d⟩;have y:=ai (fm C.out d);obtain⟨⟨p,q,r,t⟩,⟨m,n⟩,h,i⟩:=y.out.2.2.facts;clear d C;go_wp2_with fail;clear p q r t m n h i;refine(J.out _ y.out.1).mono ?_;rintro e Q ⟨rfl,d⟩;have A:=ai (fm y.out d);obtain⟨⟨p,q,r,t⟩,⟨m,n⟩,h,i⟩:=A.out.2.2.facts;clear d y;go_wp2_with fail;clear p q r t m n h i;refine(K.out _ A.out.1).mono ?_;rintro e R ⟨rfl,d⟩;have B:=ai (fm A.out d);obtain⟨⟨p,q,r,t⟩,⟨m,n⟩,h,i⟩:=B.out.2.2.facts;clear d A;go_wp2_with fail;clear p q r t m n h i;refine(I.out _ B.out.1).mono ?_;rintro e S ⟨rfl,d⟩;have f:=ai (fm B.out d);obtain⟨⟨p,q,r,t⟩,⟨m,n⟩,h,i⟩:=f.out.2.2.facts;clear d B;go_wp2_with fail;refine(L.out _ f.out.1).mono ?_;rintro e T ⟨rfl,D⟩;have x:=tn D.out;have N:=(x (w.heap.size+1) (by omega) (by have:=f.out.2.1;omega) 0).1.trans m;have d1:=(x (w.heap.size+1) (by omega) (by have:=f.out.2.1;omega) 1).1.trans n;have O:=(x (w.heap.size+1) (by omega) (by have:=f.out.2.1;omega) 0).2.trans h;have P:=(x (w.heap.size+1) (by omega) (by have:=f.out.2.1;omega) 1).2.trans i;have H:=ai (yN D.out f.out.1 f.out.2.1 (.int .i64 g.1) (.int .i64 g.2));clear x p q r t m n h i D;go_wp2_with fail;exact ao (v:=.tuple #[.agg #[.int .i64 g.1,.int .i64 g.2],.int .i64 0]) (by simp[results,Tryz.results56,go_sem,N,d1]) rfl ⟨rfl,H.out⟩
theorem tF:(n:Nat)->(x:Tm n)->aB ⟨n,x⟩->((aq n x).length:Int)<=sz n x+1
 | 0,_,_=>by simp[aq,sz]
 | n+1,x,h=>by
  have c:=eh (bm n x) (h (bm n x) (by simp[aq,bm]));by_cases a:x.1.1=4
  ·have key:∀l:List (Tm n),(∀y∈l,aB ⟨n,y⟩)->((l.flatMap λy=>aq n y).length:Int)<=(l.map λy=>1+sz n y).sum:=by
     intro l
     induction l with
     | nil=>intro _;simp
     | cons y l ih=>
      intro b;have g:=tF n y (b y (by simp));have i:=ih (λf e=>b f (by simp[e]));simp only[bj,aX,aH,bt];omega
   have k:=key x.2.2 (λy d=>aU n x y h d);simp only[aq,aW,sz,if_pos a];omega
  ·have:x.2.2=[]:=bK (c.2.2.2.2 a);simp[aq,this,sz,a]
theorem Fk{n:Nat}{x:Tm n}(a:bA n x=0):bO n x=true:=by
 rw[<-iK]at a;unfold xu at a;cases hf:bO n x
 ·simp[hf]at a
 ·rfl
def iG(n:Nat)(x:Tm n)(room:Int)(ws:List Wd):Int:=if bA n x≠0 then bA n x else if aF n x=false then 5 else if decide (sz n x<=room-ws.length)=false then 6 else 0
def EX(n:Nat)(x:Tm n)(base:Nat)(a:bW)(room:Int)(ws:List Wd)(nm:List ByteArray)(M:Nat->Prop)(w:World)(e:Ending)(w':World):Prop:=
 (iG n x room ws≠0->e=.returned (.tuple #[EU (0,0),.int .i64 (iG n x room ws)])/\Below w.heap.size w w')/\
 (iG n x room ws=0->(bA n x=0/\aF n x=true/\sz n x<=room-ws.length)/\e=.returned (.tuple #[EU (aN n x ws nm).1,.int .i64 0])/\kZ base a room (aN n x ws nm).2.1 (aN n x ws nm).2.2 M w w')
theorem tg(n:Nat)(x:Tm n)(base:Nat)(e:bW)(room:Int)(ws:List Wd)(nm:List ByteArray)(M:Nat->Prop)(w:World)(A:dy base e room ws nm M w)(m:In w.heap.size w n x)(G:ch (λb=>¬M b) n x)(B:(aq n x).length<=2097152)(S:base<=w.heap.size)(I:0<=room)(H:room<=1000)(V:ws.length<=1000)(T:nm.length<=50000):Calls Tryz.prog 56 #[.pointer (some ⟨e.b,e.o,none⟩),dg n x] w (EX n x base e room ws nm M w):=by
 cases n with
 | zero=>exact m.elim
 | succ n=>
 have k:∀a,Below w.heap.size w a->Calls Tryz.prog 42 #[dg (n+1) x] a λd g=>d=.returned (.int .i64 (bA (n+1) x))/\Below a.heap.size a g:=λa f=>dL (n+1) x w.heap.size a (m.below f) f.size B;have l:∀a,Below w.heap.size w a->Calls Tryz.prog 43 #[dg (n+1) x] a λd g=>d=.returned (.bool (aF (n+1) x))/\Below a.heap.size a g:=λa f=>gX (n+1) x w.heap.size a (m.below f) f.size;have z:∀a,Below w.heap.size w a->Calls Tryz.prog 70 #[dg (n+1) x] a λd g=>d=.returned (.int .i64 (sz (n+1) x))/\Below a.heap.size a g:=λa f=>vJ (n+1) x w.heap.size a (m.below f) f.size B;have q:∀a,Below w.heap.size w a->Calls Tryz.prog 85 #[.pointer (some ⟨e.b,e.o,none⟩),.int .i64 (sz (n+1) x)] a λd g=>d=.returned (.bool (decide (sz (n+1) x<=room-ws.length)))/\Below a.heap.size a g:=by
  intro a f;obtain⟨P,N,O,K,L,W,_⟩:=A.later f;obtain⟨v,y,rfl⟩:∃v y,P=.slice v ws.length y:=by
   rcases L.2 with⟨d,E⟩|⟨R,c,Q,d,_⟩
   ·exact⟨none,0,by rw[d,E]⟩
   ·exact⟨_,c,d⟩
  exact yI e room (sz (n+1) x) v ws.length y N O a (by omega) I H K
 by_cases i:bA (n+1) x=0
 ·rw[i]at k;by_cases u:aF (n+1) x=false
  ·rw[u]at l;have d:iG (n+1) x room ws=5:=by simp[iG,i,u]
   refine(Kx e x.1.1 x.1.2.1 x.1.2.2 x.2.1.1 x.2.2.length x.2.1.2 w k l).mono ?_;rintro s g ⟨rfl,h⟩;exact⟨λ_=>⟨by rw[d];rfl,h⟩,λj=>absurd (d.symm.trans j) (by decide)⟩
  ·have r:aF (n+1) x=true:=by simpa using u
   rw[r]at l;by_cases p:sz (n+1) x<=room-ws.length
   ·have t:decide (sz (n+1) x<=room-ws.length)=true:=by simpa using p
    rw[t]at q;have d:iG (n+1) x room ws=0:=by simp[iG,i,r,p]
    have C:aB ⟨n+1,x⟩:=aJ.2 (Fk i);have U:=tF (n+1) x C;have D:∀a,Below w.heap.size w a->Calls Tryz.prog 86 #[.pointer (some ⟨e.b,e.o,none⟩),dg (n+1) x] a λd g=>d=.returned (EU (aN (n+1) x ws nm).1)/\Hid (kZ base e room (aN (n+1) x ws nm).2.1 (aN (n+1) x ws nm).2.2 (λb=>M b/\b<w.heap.size) a g):=by
     intro a f;have J:=f.size;exact IR (n+1) x base e room ws nm _ a (A.later f) ((m.below f).mono J) (G.mono λb h F=>h F.1) (by omega) C (by omega) (by omega)
    refine(Kz e x.1.1 x.1.2.1 x.1.2.2 x.2.1.1 x.2.2.length x.2.1.2 w (sz (n+1) x) (aN (n+1) x ws nm).1 base room (aN (n+1) x ws nm).2.1 (aN (n+1) x ws nm).2.2 M k l z q D).mono ?_;rintro s g ⟨rfl,h⟩;exact⟨λj=>absurd d j,λ_=>⟨⟨i,r,p⟩,rfl,h.out⟩⟩
   ·have t:decide (sz (n+1) x<=room-ws.length)=false:=by simpa using p
    rw[t]at q;have d:iG (n+1) x room ws=6:=by simp[iG,i,r,p]
    refine(Ky e x.1.1 x.1.2.1 x.1.2.2 x.2.1.1 x.2.2.length x.2.1.2 w (sz (n+1) x) k l z q).mono ?_;rintro s g ⟨rfl,h⟩;exact⟨λ_=>⟨by rw[d];rfl,h⟩,λj=>absurd (d.symm.trans j) (by decide)⟩
 ·have d:iG (n+1) x room ws=bA (n+1) x:=by simp[iG,i]
  refine(Kw e x.1.1 x.1.2.1 x.1.2.2 x.2.1.1 x.2.2.length x.2.1.2 w (bA (n+1) x) (by simpa using i) k).mono ?_;rintro s g ⟨rfl,h⟩;exact⟨λ_=>⟨by rw[d];rfl,h⟩,λj=>absurd (d.symm.trans j) i⟩
def oE(q:Nat)(k u:Int)(w:World):Prop:=w.heap[q]?=some (.cells #[.int .i64 k,.int .i64 u] 125)/\pq (q+1) w
theorem Ct(w:World)(k u:Int):oE w.heap.size k u ((w.alloc (Obj.cells #[.int .i64 k,.int .i64 u] 125)).alloc (Obj.cells #[.int .i64 0,.int .i64 0,.string ⟨#[]⟩,.slice none 0 0] 30)):=by
 refine⟨((dq (w.alloc (Obj.cells #[.int .i64 k,.int .i64 u] 125)) (Obj.cells #[.int .i64 0,.int .i64 0,.string ⟨#[]⟩,.slice none 0 0] 30) none).block _ (by simp) (by simp)).trans (ax w _),?_⟩;have:=ax (w.alloc (Obj.cells #[.int .i64 k,.int .i64 u] 125)) (Obj.cells #[.int .i64 0,.int .i64 0,.string ⟨#[]⟩,.slice none 0 0] 30);have es:∀o,(w.alloc o).heap.size=w.heap.size+1:=λo=>by simp
 rw[es]at this;exact this
theorem tb{k u:Int}{w w1 w2:World}(d:Below w.heap.size w w1/\w.heap.size+2<=w1.heap.size/\oE w.heap.size k u w1)(a:Below w1.heap.size w1 w2):Below w.heap.size w w2/\w.heap.size+2<=w2.heap.size/\oE w.heap.size k u w2:=by
 obtain⟨b,e,c⟩:=d;have:=a.size;exact⟨b.trans (a.mono b.size),by omega,(a.block _ (by omega)).trans c.1,(a.block _ (by omega)).trans c.2⟩
theorem oE.cells{q:Nat}{k u:Int}{w:World}(a:oE q k u w):w.cell? ⟨q,0,none⟩=some (.int .i64 k)/\w.cell? ⟨q,1,none⟩=some (.int .i64 u):=by
 obtain⟨b,_⟩:=a;refine⟨?_,?_⟩
 all_goals simp[World.cell?,b]
theorem LJ(c:bW)(k u:Int)(w:World)(i:Hid (∀w1,Below w.heap.size w w1->Calls Tryz.prog 109 #[.pointer (some ⟨c.b,c.o,none⟩),.agg #[.int .i64 k,.int .i64 u]] w1 λe w'=>e=.returned (.bool false)/\Below w1.heap.size w1 w')):Calls Tryz.prog 76 #[.pointer (some ⟨c.b,c.o,none⟩),.agg #[.int .i64 k,.int .i64 u]] w λe w'=>e=.returned (.tuple #[.agg #[.int .i64 0,.int .i64 0,.string .empty,.slice none 0 0],.int .i64 1])/\Below w.heap.size w w':=by
 go_enter Tryz.func76,Tryz.ntmps76;go_wp2_with fail;generalize g:(w.alloc (Obj.cells #[.int .i64 k,.int .i64 u] 125)).alloc (Obj.cells #[.int .i64 0,.int .i64 0,.string ⟨#[]⟩,.slice none 0 0] 30)=f;have a:Hid (Below w.heap.size w f/\w.heap.size+2<=f.heap.size/\oE w.heap.size k u f):=by
  subst g;exact⟨((ah _ _).alloc (ag _) _).alloc (by simp) _,by simp,Ct _ _ _⟩
 clear g;refine(i.out _ a.out.1).mono ?_;rintro e w1 ⟨rfl,d⟩;have h:=ai (tb a.out d);obtain⟨⟨l,m,n,p⟩,x⟩:=h.out.2.2.2.cells;have j:=ai (λq r s t=>vW a.out.1 d q r s t);clear d a;go_wp2_with fail;exact ao (v:=.tuple #[.agg #[.int .i64 0,.int .i64 0,.string .empty,.slice none 0 0],.int .i64 1]) (by simp[results,Tryz.results76,go_sem,l,m,n,p];rfl) rfl ⟨rfl,j.out _ _ _ _⟩
theorem Kp(n:Nat)(x:Tm (n+1))(c:bW)(k u:Int)(w:World)(A:Hid (∀w1,Below w.heap.size w w1->Calls Tryz.prog 109 #[.pointer (some ⟨c.b,c.o,none⟩),.agg #[.int .i64 k,.int .i64 u]] w1 λe w'=>e=.returned (.bool true)/\Below w1.heap.size w1 w'))(C:Hid (∀w1,Below w.heap.size w w1->Calls Tryz.prog 110 #[.pointer (some ⟨c.b,c.o,none⟩),.agg #[.int .i64 k,.int .i64 u]] w1 λe w'=>∃y:Tm (n+1),e=.returned (dg (n+1) y)/\Hid (Below w1.heap.size w1 w'/\In w'.heap.size w' (n+1) y/\ch (λq=>w1.heap.size<=q) (n+1) y/\aw (n+1) y (n+1) x=true))):Calls Tryz.prog 76 #[.pointer (some ⟨c.b,c.o,none⟩),.agg #[.int .i64 k,.int .i64 u]] w λe w'=>∃y:Tm (n+1),e=.returned (.tuple #[dg (n+1) y,.int .i64 0])/\Hid (Below w.heap.size w w'/\In w'.heap.size w' (n+1) y/\ch (λq=>w.heap.size<=q) (n+1) y/\aw (n+1) y (n+1) x=true):=by
 go_enter Tryz.func76,Tryz.ntmps76;go_wp2_with fail;generalize s:(w.alloc (Obj.cells #[.int .i64 k,.int .i64 u] 125)).alloc (Obj.cells #[.int .i64 0,.int .i64 0,.string ⟨#[]⟩,.slice none 0 0] 30)=l;have i:Hid (Below w.heap.size w l/\w.heap.size+2<=l.heap.size/\oE w.heap.size k u l):=by
  subst s;exact⟨((ah _ _).alloc (ag _) _).alloc (by simp) _,by simp,Ct _ _ _⟩
 clear s;refine(A.out _ i.out.1).mono ?_;rintro e w1 ⟨rfl,r⟩;have a:=ai (tb i.out r);obtain⟨L,M⟩:=a.out.2.2.cells;clear r i;go_wp2_with fail;refine(C.out _ a.out.1).mono ?_;rintro e m ⟨y,rfl,j⟩;have z:=ai (tb a.out j.out.1);obtain⟨⟨H,I,J,K⟩,N⟩:=z.out.2.2.2.cells;have B:Hid (∀d f g h,Below w.heap.size w (cP m (w.heap.size+1) 0 d f g h)/\In (cP m (w.heap.size+1) 0 d f g h).heap.size (cP m (w.heap.size+1) 0 d f g h) (n+1) y/\ch (λq=>w.heap.size<=q) (n+1) y/\aw (n+1) y (n+1) x=true):=by
  intro d f g h;obtain⟨E,F,t,G⟩:=j.out;have O:=a.out.2.1;refine⟨vW a.out.1 E d f g h,?_,t.mono λq D=>by omega,G⟩;rw[aZ];exact In.off (λq D=>aO (by omega) _ _ _ _) t F
 have p:dg (n+1) y=.agg #[.int .i64 y.1.1,.int .i64 y.1.2.1,.string y.1.2.2,.slice y.2.1.1 y.2.2.length y.2.1.2]:=rfl;rw[p];clear L M j a p;go_wp2_with fail;exact ao (v:=.tuple #[dg (n+1) y,.int .i64 0]) (by simp[results,Tryz.results76,go_sem,H,I,J,K,dg]) rfl ⟨y,rfl,B.out _ _ _ _⟩
end Go.Proofs.YtnidfceinoiboaaGreat

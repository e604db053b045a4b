/- What is proved here: plain facts and contracts that the claimed theorem stands on. No condition but those that each names. -/
import Derived.Test.YtnidfceinoiboaaGreatG14
import Derived.Maps.OwnSet
import Derived.StringKeys
import Derived.Maps.AppendAt
namespace Go.Proofs.YtnidfceinoiboaaGreat
open Go.RowKit
open Go.RowKit Go.Maps
set_option maxRecDepth 100000
set_option maxHeartbeats 2000000
theorem Gj(k h i:Int)(j:ByteArray)(xa:Option Addr)(l xc:Nat)(y0 y1:Int)(y2:ByteArray)(ya:Option Addr)(yl yc:Nat)(nm:ByteArray)(g:Int)(c:Nat)(w:World)(R:Bool->World->Prop)(D:c<w.heap.size)(B:Hid (∃u,w.cell? ⟨c,6,none⟩=some (.bool u)/\w.frozen? ⟨c,6,none⟩=false))(m:Hid (k=1->∀W,Below w.heap.size w W->Calls Tryz.prog 147 #[.pointer (some ⟨c,0,none⟩),.agg #[.int .i64 k,.int .i64 h,.int .i64 i,.string j,.slice xa l xc,.int .i64 y0,.int .i64 y1,.string y2,.slice ya yl yc,.string nm,.int .i64 g]] W λe w'=>∃t,e=.returned (.bool t)/\Hid (R t w')))(n:Hid (k=2->∀W,Below w.heap.size w W->Calls Tryz.prog 148 #[.pointer (some ⟨c,0,none⟩),.agg #[.int .i64 k,.int .i64 h,.int .i64 i,.string j,.slice xa l xc,.int .i64 y0,.int .i64 y1,.string y2,.slice ya yl yc,.string nm,.int .i64 g]] W λe w'=>∃t,e=.returned (.bool t)/\Hid (R t w')))(o:Hid (k=3->∀W,Below w.heap.size w W->Calls Tryz.prog 149 #[.pointer (some ⟨c,0,none⟩),.agg #[.int .i64 k,.int .i64 h,.int .i64 i,.string j,.slice xa l xc,.int .i64 y0,.int .i64 y1,.string y2,.slice ya yl yc,.string nm,.int .i64 g]] W λe w'=>∃t,e=.returned (.bool t)/\Hid (R t w')))(q:Hid (k≠1->k≠2->k≠3->∀W,Below w.heap.size w W->R true (W.setCell ⟨c,6,none⟩ (.bool true)))):Calls Tryz.prog 119 #[.pointer (some ⟨c,0,none⟩),.agg #[.int .i64 k,.int .i64 h,.int .i64 i,.string j,.slice xa l xc,.int .i64 y0,.int .i64 y1,.string y2,.slice ya yl yc,.string nm,.int .i64 g]] w λe w'=>∃t,e=.returned (.bool t)/\Hid (R t w'):=by
 have C:Hid (∃a b,(a=w.alloc (.cells #[.int .i64 k,.int .i64 h,.int .i64 i,.string j,.slice xa l xc,.int .i64 y0,.int .i64 y1,.string y2,.slice ya yl yc,.string nm,.int .i64 g] 83)/\b=w.heap.size)/\Below w.heap.size w a/\(a.cell? ⟨b,0,none⟩=some (.int .i64 k)/\a.cell? ⟨b,1,none⟩=some (.int .i64 h)/\a.cell? ⟨b,2,none⟩=some (.int .i64 i)/\a.cell? ⟨b,3,none⟩=some (.string j)/\a.cell? ⟨b,4,none⟩=some (.slice xa l xc)/\a.cell? ⟨b,5,none⟩=some (.int .i64 y0)/\a.cell? ⟨b,6,none⟩=some (.int .i64 y1)/\a.cell? ⟨b,7,none⟩=some (.string y2)/\a.cell? ⟨b,8,none⟩=some (.slice ya yl yc)/\a.cell? ⟨b,9,none⟩=some (.string nm)/\a.cell? ⟨b,10,none⟩=some (.int .i64 g))):=by
  have d:=ax w (.cells #[.int .i64 k,.int .i64 h,.int .i64 i,.string j,.slice xa l xc,.int .i64 y0,.int .i64 y1,.string y2,.slice ya yl yc,.string nm,.int .i64 g] 83);exact⟨_,_,⟨rfl,rfl⟩,(ah _ _).alloc (ag _) _,ab d 0,ab d 1,ab d 2,ab d 3,ab d 4,ab d 5,ab d 6,ab d 7,ab d 8,ab d 9,ab d 10⟩
 go_enter Tryz.func119,Tryz.ntmps119;obtain⟨u,F,A⟩:=B.out;go_upto_region 1 with fail;obtain⟨a,b,⟨G,E⟩,z,M,N,P,Q,S,T,U,V,X,Y,O⟩:=C.out;rw[<-G,<-E];have s:=ai z;have I:Hid (a.cell? ⟨c,6,none⟩=some (.bool u)/\a.frozen? ⟨c,6,none⟩=false):=by
  refine⟨(z.cell (p:=⟨c,6,none⟩) D).trans F,?_⟩;unfold World.frozen? at A ⊢;rw[z.block c D];exact A
 clear G E z C F A B;by_cases v:k=1
 ·have r:=ai (m.out v a s.out);clear m n o q;subst v;go_wp2_with fail;refine r.out.mono ?_;rintro e H ⟨t,rfl,f⟩;go_wp2_with fail
  go_ret
  exact⟨t,rfl,f.out⟩
 ·by_cases x:k=2
  ·have r:=ai (n.out x a s.out);clear m n o q;subst x;go_wp2_with fail;refine r.out.mono ?_;rintro e H ⟨t,rfl,f⟩;go_wp2_with fail
   go_ret
   exact⟨t,rfl,f.out⟩
  ·by_cases y:k=3
   ·have r:=ai (o.out y a s.out);clear m n o q;subst y;go_wp2_with fail;refine r.out.mono ?_;rintro e H ⟨t,rfl,f⟩;go_wp2_with fail
    go_ret
    exact⟨t,rfl,f.out⟩
   ·have f:=ai (q.out v x y a s.out);obtain⟨Z,aa⟩:=I.out;have J:¬(1:Int)=k:=λe=>v e.symm;have K:¬(2:Int)=k:=λe=>x e.symm;have L:¬(3:Int)=k:=λe=>y e.symm;clear m n o q;go_wp2_with fail
    go_ret
    exact⟨true,rfl,f.out⟩
def KX{n:Nat}(a:Ac (n+1)):Value:=.agg #[.int .i64 a.1,.int .i64 a.2.1.1.1.1,.int .i64 a.2.1.1.1.2.1,.string a.2.1.1.1.2.2,.slice a.2.1.1.2.1.1 a.2.1.1.2.2.length a.2.1.1.2.1.2,.int .i64 a.2.1.2.1.1,.int .i64 a.2.1.2.1.2.1,.string a.2.1.2.1.2.2,.slice a.2.1.2.2.1.1 a.2.1.2.2.2.length a.2.1.2.2.1.2,.string a.2.2.1,.int .i64 a.2.2.2]
theorem Fa{n:Nat}(l:List (Ac (n+1)))(s:Option Addr)(L C r:Nat)(w:World)(S:Nat->World->Prop)(k:World->Prop)(D:L<=1000000)(z:Hid (l.length=L))(x:Hid (∀(i:Nat)(a:Ac (n+1)) W,l[i]?=some a->S i W->∃b o,s=some ⟨b,o,none⟩/\∀(j:Nat)(u:Value),(fy (n+1) a)[j]?=some u->W.cell? ⟨b,o+i*11+j,none⟩=some u))(HB:Hid (∀i W q,S i W->Below W.heap.size W q->S i q))(A:Hid (∀(i:Nat)(a:Ac (n+1)) W,l[i]?=some a->S i W->Calls Tryz.prog 119 #[.pointer (some ⟨r,0,none⟩),KX a] W λe w'=>∃t,e=.returned (.bool t)/\Hid ((t=true->S (i+1) w')/\(t=false->k w'))))(v:Hid (S 0 w)):Calls Tryz.prog 88 #[.pointer (some ⟨r,0,none⟩),.slice s L C] w λe w'=>∃t,e=.returned (.bool t)/\Hid ((t=true->S L w')/\(t=false->k w')):=by
 go_enter Tryz.func88,Tryz.ntmps88;go_wp2_with fail;go_loopw [9] (λi wr=>∃j:Nat,j<=L/\i=.int .i64 j/\Hid (S j wr)) (λi _=>L-(intOf i).toNat)
 case atStart=>exact⟨0,aD _,rfl,v.out⟩
 case round=>
  obtain⟨j,E,rfl,g⟩:=hrel;by_cases B:j<L
  ·obtain⟨a,h⟩:∃a,l[j]?=some a:=⟨l[j]'(by rw[z.out];exact B),aA _⟩;obtain⟨b,o,rfl,c⟩:=x.out j a wr h g.out;have I:wr.cell? ⟨b,o+j*11,none⟩=some (.int .i64 a.1):=c 0 _ rfl;have J:=c 1 _ rfl;have M:=c 2 _ rfl;have N:=c 3 _ rfl;have O:=c 4 _ rfl;have P:=c 5 _ rfl;have Q:=c 6 _ rfl;have R:=c 7 _ rfl;have T:=c 8 _ rfl;have U:=c 9 _ rfl;have K:=c 10 _ rfl;have F:(0:Int)<=(j:Int):=by omega
   have G:(j:Int)<(L:Int):=by omega
   have m:=ai λW (d:Below wr.heap.size wr W)=>A.out j a W h (HB.out _ _ _ g.out d);unfold KX at m;have y:Hid (∀o:Obj,Below wr.heap.size wr (wr.alloc o)):=λo=>(ah _ _).alloc (ag _) o;clear c h;go_wp2_with fail;refine(m.out _ (y.out _)).mono ?_;rintro e H ⟨t,rfl,p⟩;cases t
   ·have f:=ai (p.out.2 rfl);go_wp2_with fail
    go_ret
    exact⟨false,rfl,λd=>(by cases d),λ_=>f.out⟩
   ·have f:=ai (p.out.1 rfl);go_wp2_with fail;go_roundw
    case rel=>exact⟨j+1,by omega,by go_num,f.out⟩
    case measure=>simp[intOf];omega
  ·obtain rfl:j=L:=by omega
   go_wp2_with fail
   go_ret
   exact⟨true,rfl,λ_=>g.out,λd=>(by cases d)⟩
theorem yE(N:Nat)(s0 s1:Int)(Y:ByteArray)(sa:Option Addr)(sl sc:Nat)(Q R:Int)(T:ByteArray)(ma:Option Addr)(V U:Nat)(l:Option Addr)(m ac:Nat)(o p:Int)(r:ByteArray)(s:Option Addr)(v u:Nat)(X n:Nat)(w:World)(S:World->Prop)(B:Bool->Tm (N+1)->World->Prop)(d:Int->World->Prop)(F:Hid (∀W,Below w.heap.size w W->Calls Tryz.prog 88 #[.pointer (some ⟨n,0,none⟩),.slice l m ac] W λe w'=>∃t,e=.returned (.bool t)/\Hid ((∀q a,w.heap.size<=q->W.heap[q]?=some a->w'.heap[q]?=some a)/\(t=true->S w')/\(t=false->d 2 w'))))(H:Hid (∀W,S W->Calls Tryz.prog 89 #[.pointer (some ⟨n,0,none⟩),.agg #[.int .i64 o,.int .i64 p,.string r,.slice s v u]] W λe w'=>∃(y:Tm (N+1))(t:Bool),e=.returned (.tuple #[.agg #[.int .i64 y.1.1,.int .i64 y.1.2.1,.string y.1.2.2,.slice y.2.1.1 y.2.2.length y.2.1.2],.bool t])/\Hid (B t y w')))(G:Hid (∀y c g,B false y c->Below c.heap.size c g->d 2 g))(HB:Hid (∀y c g,B true y c->Below c.heap.size c g->Calls Tryz.prog 90 #[.pointer (some ⟨X,0,none⟩),.agg #[.int .i64 y.1.1,.int .i64 y.1.2.1,.string y.1.2.2,.slice y.2.1.1 y.2.2.length y.2.1.2]] g λe w'=>∃t,e=.returned (.bool t)/\Hid ((t=false->d 3 w')/\(t=true->∃i,w'.cell? ⟨n,6,none⟩=some (.bool i)/\(i=true->d 1 w')/\(i=false->d 0 w'))))):Calls Tryz.prog 61 #[.pointer (some ⟨X,0,none⟩),.agg #[.int .i64 s0,.int .i64 s1,.string Y,.slice sa sl sc,.int .i64 Q,.int .i64 R,.string T,.slice ma V U,.slice l m ac,.int .i64 o,.int .i64 p,.string r,.slice s v u],.pointer (some ⟨n,0,none⟩)] w λe w'=>∃f,e=.returned (.int .i64 f)/\d f w':=by
 have I:Hid (∃x q a,(x=w.alloc a/\q=w.heap.size/\a=.cells #[.int .i64 s0,.int .i64 s1,.string Y,.slice sa sl sc,.int .i64 Q,.int .i64 R,.string T,.slice ma V U,.slice l m ac,.int .i64 o,.int .i64 p,.string r,.slice s v u] 86)/\Below w.heap.size w x/\x.heap[q]?=some a/\w.heap.size<=q/\∀W:World,W.heap[q]?=some a->W.cell? ⟨q,8,none⟩=some (.slice l m ac)/\W.cell? ⟨q,9,none⟩=some (.int .i64 o)/\W.cell? ⟨q,10,none⟩=some (.int .i64 p)/\W.cell? ⟨q,11,none⟩=some (.string r)/\W.cell? ⟨q,12,none⟩=some (.slice s v u)):=
  ⟨_,_,_,⟨rfl,rfl,rfl⟩,(ah _ _).alloc (ag _) _,ax _ _,ag _,λW h=>⟨ab h 8,ab h 9,ab h 10,ab h 11,ab h 12⟩⟩
 go_enter Tryz.func61,Tryz.ntmps61;go_wp2_with fail;obtain⟨x,q,a,⟨E,M,L⟩,J,O,P,K⟩:=I.out;rw[L]at E;rw[<-E];have Z:=ai J;have ad:=ai K;have ae:=ai O;have af:=ai P;rw[<-M];clear E M L J K O P I;refine(F.out _ Z.out).mono ?_;rintro e ak ⟨t,rfl,j⟩;obtain⟨ao,ap,al,am,an⟩:=ad.out ak (j.out.1 q a af.out ae.out);cases t
 ·have b:=ai (j.out.2.2 rfl);go_wp2_with fail
  go_ret
  exact⟨2,rfl,b.out⟩
 ·have aj:=ai (j.out.2.1 rfl);clear j F;go_wp2_with fail;refine(H.out _ aj.out).mono ?_;rintro e z ⟨y,t,rfl,A⟩;cases t
  ·have b:=ai λa=>G.out y z (z.alloc a) A.out ((ah _ _).alloc (ag _) a);go_wp2_with fail
   go_ret
   exact⟨2,rfl,b.out _⟩
  ·have aa:=ai λa=>HB.out y z (z.alloc a) A.out ((ah _ _).alloc (ag _) a);clear A H G HB;go_wp2_with fail;refine(aa.out _).mono ?_;rintro e ar ⟨t,rfl,k⟩;cases t
   ·have b:=ai (k.out.1 rfl);go_wp2_with fail
    go_ret
    exact⟨3,rfl,b.out⟩
   ·obtain⟨i,aq,D,C⟩:=k.out.2 rfl;cases i
    ·have b:=ai (C rfl);clear D C k;go_wp2_with fail
     go_ret
     exact⟨0,rfl,b.out⟩
    ·have b:=ai (D rfl);clear D C k;go_wp2_with fail
     go_ret
     exact⟨1,rfl,b.out⟩
structure bW where
 b:Nat
 o:Nat
 pre:List Value
 post:List Value
 t:TypeId
def bW.own(b:Nat):bW:=⟨b,0,[],[],123⟩
def HB(a:bW)(room:Int)(tv lv mv:Value)(w:World):Prop:=(a.pre.length=a.o/\(a.t=123\/a.t=127))/\w.heap[a.b]?=some (.cells (a.pre++ .int .i64 room::tv::lv::mv::a.post).toArray a.t)
theorem HB.lt{a:bW}{room:Int}{tv lv mv:Value}{w:World}(c:HB a room tv lv mv w):a.b<w.heap.size:=(aE.1 c.2).1
theorem HB.cells{a:bW}{room:Int}{tv lv mv:Value}{w:World}(c:HB a room tv lv mv w):(w.cell? ⟨a.b,a.o,none⟩=some (.int .i64 room)/\w.cell? ⟨a.b,a.o+1,none⟩=some tv/\w.cell? ⟨a.b,a.o+2,none⟩=some lv/\w.cell? ⟨a.b,a.o+3,none⟩=some mv)/\∀j,w.frozen? ⟨a.b,j,none⟩=false:=by
 obtain⟨⟨d,_⟩,e⟩:=c;refine⟨⟨?_,?_,?_,?_⟩,λj=>?_⟩
 all_goals simp[World.cell?,World.frozen?,e,<-d]
theorem HB.ty{a:bW}{room:Int}{tv lv mv:Value}{w:World}(c:HB a room tv lv mv w):a.t≠9/\a.t≠125:=by
 rcases c.1.2 with b|b<;>rw[b]<;>decide
theorem AV{l:List Value}{a:bW}{k:Nat}{room:Int}{tv lv mv v:Value}(b:a.pre.length=a.o)(c:l=(.int .i64 room::tv::lv::mv::a.post).set k v):(a.pre++ .int .i64 room::tv::lv::mv::a.post).set (a.o+k) v=a.pre++l:=by
 subst c;rw[<-b,List.set_append,if_neg (by omega),show a.pre.length+k-a.pre.length=k by omega]
theorem HB.set1{a:bW}{room:Int}{tv lv mv:Value}{w:World}(c:HB a room tv lv mv w)(v:Value):HB a room v lv mv (w.setCell ⟨a.b,a.o+1,none⟩ v):=by
 refine⟨c.1,?_⟩;have d:=AV (k:=1) (room:=room) (tv:=tv) (lv:=lv) (mv:=mv) (v:=v) c.1.1 rfl;simp only[cZ,da]at d;simp[World.setCell,bJ,c.2,d]
theorem HB.set2{a:bW}{room:Int}{tv lv mv:Value}{w:World}(c:HB a room tv lv mv w)(v:Value):HB a room tv v mv (w.setCell ⟨a.b,a.o+2,none⟩ v):=by
 refine⟨c.1,?_⟩;have d:=AV (k:=2) (room:=room) (tv:=tv) (lv:=lv) (mv:=mv) (v:=v) c.1.1 rfl;simp only[cZ,da]at d;simp[World.setCell,bJ,c.2,d]
theorem HB.set3{a:bW}{room:Int}{tv lv mv:Value}{w:World}(c:HB a room tv lv mv w)(v:Value):HB a room tv lv v (w.setCell ⟨a.b,a.o+3,none⟩ v):=by
 refine⟨c.1,?_⟩;have d:=AV (k:=3) (room:=room) (tv:=tv) (lv:=lv) (mv:=mv) (v:=v) c.1.1 rfl;simp only[cZ,da]at d;simp[World.setCell,bJ,c.2,d]
theorem HB.kept{a:bW}{room:Int}{tv lv mv:Value}{w w':World}(c:HB a room tv lv mv w)(k:w'.heap[a.b]?=w.heap[a.b]?):HB a room tv lv mv w':=⟨c.1,k.trans c.2⟩
structure bD (S:Nat->Prop) (w w':World):Prop where
 os:w'.os=w.os
 tape:w'.tape=w.tape
 output:w'.output=w.output
 size:w.heap.size<=w'.heap.size
 block:∀b,b<w.heap.size->¬S b->w'.heap[b]?=w.heap[b]?
theorem bD.refl(S:Nat->Prop)(w:World):bD S w w:=⟨rfl,rfl,rfl,ag _,λ_ _ _=>rfl⟩
theorem bD.trans{S T:Nat->Prop}{w w1 w2:World}(a:bD S w w1)(k:bD T w1 w2)(e:∀b,b<w.heap.size->T b->S b):bD S w w2:=
 ⟨k.os.trans a.os,k.tape.trans a.tape,k.output.trans a.output,au a.size k.size,λb c d=>(k.block b (aL c a.size) (λf=>d (e b c f))).trans (a.block b c d)⟩
theorem bD.mono{S T:Nat->Prop}{w w1:World}(a:bD S w w1)(c:∀b,S b->T b):bD T w w1:=⟨a.os,a.tape,a.output,a.size,λb d e=>a.block b d λk=>e (c b k)⟩
theorem aR{w w':World}(a:Below w.heap.size w w')(S:Nat->Prop):bD S w w':=⟨a.os,a.tape,a.output,a.size,λb c _=>a.block b c⟩
theorem A3{w w':World}{row:Option Nat}(a:w.grownBy w' row):bD (λb=>row=some b) w w':=⟨a.os,a.tape,a.output,a.size,λb c d=>a.block b c λe=>d e.symm⟩
theorem aY(w:World)(q o:Nat)(v:Value):bD (λb=>b=q) w (w.setCell ⟨q,o,none⟩ v):=
 ⟨rfl,rfl,rfl,by simp[World.setCell],λb _ c=>by
  have:¬q=b:=λa=>c a.symm
  simp[World.setCell,bJ,this]⟩
def mapBlock:Value->Option Nat
 | .map (some b)=>some b
 | _=>none
theorem ud:Keyed Tryz.prog 9:=string_keyed Tryz.underlying9
theorem qh(w:World):(zeroValue 3).run Tryz.prog w=.ok (.int .i64 0) w:=by kernel_rfl
def fo(l:List ByteArray):List Value:=l.map .string
def qp(D:DataW Unit)(nm:List ByteArray):Prop:=∀s:ByteArray,(Maps.has D (.string s.data.toList)=true ↔ s∈nm)/\∀i:Nat,nm[i]?=some s->D.atKey (.string s.data.toList) (.lit (.int .i64 0))=.lit (.int .i64 i)
def jp(base:Nat)(nm:List ByteArray)(lv mv:Value)(w:World):Prop:=
 w.ownsRow base 9 1 lv nm.length (fo nm)/\nm.Nodup/\
 ((mv=.map none/\nm=[]/\lv=.slice none 0 0)\/∃a b,mv=.map (some a)/\base<=a/\w.ownsMap Tryz.prog 9 (plainElem Tryz.prog 3) a nm.length b/\qp b nm/\lv.ownBlock≠some a)
theorem jp.kept{base:Nat}{nm:List ByteArray}{lv mv:Value}{w w':World}{S:Nat->Prop}(n:jp base nm lv mv w)(k:bD S w w')(o:∀b,lv.ownBlock=some b->¬S b)(p:∀b,mapBlock mv=some b->¬S b):jp base nm lv mv w':=by
 obtain⟨h,x,f⟩:=n;have v:w'.ownsRow base 9 1 lv nm.length (fo nm):=by
  refine⟨h.1,?_⟩;rcases h.2 with⟨c,m⟩|⟨d,cap,l,c,r,a,e⟩
  ·exact ae ⟨c,m⟩
  ·exact af ⟨d,cap,l,c,r,(k.block d (aE.1 a).1 (o d (by rw[c];rfl))).trans a,e⟩
 refine⟨v,x,?_⟩;rcases f with f|⟨g,i,rfl,q,s,t,u⟩
 ·exact ae f
 ·refine af ⟨g,i,rfl,q,?_,t,u⟩;obtain⟨es,j,a,e⟩:=s;exact⟨es,j,(k.block g (aE.1 a).1 (p g rfl)).trans a,e⟩
theorem Bi{D:DataW Unit}{nm:List ByteArray}(d:qp D nm){s:ByteArray}{c:Int}(e:s∈nm)(a:D.atKey (.string s.data.toList) (.lit (.int .i64 0))=.lit (.int .i64 c)):∃i:Nat,nm[i]?=some s/\c=i:=by
 obtain⟨i,b⟩:=cB e;have:=(d s).2 i b;rw[this]at a;simp at a;exact⟨i,b,a.symm⟩
theorem Bf(a:bW)(room:Int)(tv lv:Value)(d:Nat)(D:DataW Unit)(nm:List ByteArray)(s:ByteArray)(w:World)(j:Hid (HB a room tv lv (.map (some d)) w))(l:Hid (w.ownsMap Tryz.prog 9 (plainElem Tryz.prog 3) d nm.length D))(f:Hid (qp D nm))(h:Hid (s∈nm))(x:s.size<=2048):Calls Tryz.prog 115 #[.pointer (some ⟨a.b,a.o+2,none⟩),.string s] w λe w'=>∃i:Nat,e=.returned (.int .i64 i)/\Hid (nm[i]?=some s)/\w'=w:=by
 have m:Maps.has D (.string s.data.toList)=true:=((f.out s).1).2 h.out;obtain⟨⟨q,r,t,u⟩,v⟩:=j.out.cells;go_enter Tryz.func115,Tryz.ntmps115;go_wp2_with (at_lookup;refine wpList_lookup_own_ok_int _ rfl _ _ 119 rfl 9 3 .i64 ud Tryz.underlying119 Tryz.underlying3 (qh _) d nm.length D rfl l.out _ _ rfl (lI Tryz.underlying9 (by unfold maxLen;omega)) ?_;intro c g p;have k:=ai (Bi f.out h.out g);clear g p;rw[m]);obtain⟨i,n,rfl⟩:=k.out
 go_ret
 exact⟨i,rfl,n,rfl⟩
def pt(base:Nat)(d:bW)(room:Int)(tv lv mv:Value)(nm:List ByteArray)(s:ByteArray)(w w':World)(a c:Value):Prop:=
 HB d room tv a c w'/\jp base (nm++ [s]) a c w'/\bD (λb=>b=d.b\/lv.ownBlock=some b\/mapBlock mv=some b) w w'/\
 (∀b,a.ownBlock=some b->lv.ownBlock=some b\/w.heap.size<=b)/\∀b,mapBlock c=some b->mapBlock mv=some b\/w.heap.size<=b
theorem ti:(Tryz.prog.info? 9).map (λi=>(i.zero,i.size,i.bytes))=some (some (.string .empty),1,16):=by kernel_rfl
theorem CE(l:List UInt8):WideAt.IsKeyLit (.string l):=by first|trivial|simp[WideAt.IsKeyLit]|decide
theorem yZ{base:Nat}{d:bW}{room:Int}{tv lv:Value}{e:Nat}{D:DataW Unit}{nm:List ByteArray}{s:ByteArray}{w w1 w2 w4:World}{o:Obj}{g c:Nat}(m:HB d room tv lv (.map (some e)) w)(Q:base<=e)(R:nm.Nodup)(A:qp D nm)(E:s∉nm)(ad:s.size<=maxLen)(O:lv.ownBlock≠some e)(C:w.ownsRow base 9 1 lv nm.length (fo nm))(r:w.ownsMap Tryz.prog 9 (plainElem Tryz.prog 3) e nm.length D)(n:Below w.heap.size w w1)(S:w2.ownsRow base 9 1 (.slice (some ⟨g,0,none⟩) (nm.length+1) c) (nm.length+1) (fo nm++ [.string s]))(p:(w1.alloc o).grownBy w2 lv.ownBlock)(v:lv.ownBlock=some g\/g=w1.heap.size+1)(P:w4.ownsMap Tryz.prog 9 (plainElem Tryz.prog 3) e (nm.length+1) (D.put (.string s.data.toList) (.lit (.int .i64 nm.length))))(k:(w2.setCell ⟨d.b,d.o+2,none⟩ (.slice (some ⟨g,0,none⟩) (nm.length+1) c)).grownBy w4 (some e)):pt base d room tv lv (.map (some e)) nm s w w4 (.slice (some ⟨g,0,none⟩) (nm.length+1) c) (.map (some e)):=by
 have M:=m.lt;have aa:=r.lt;have ab:=n.size;have es:(w1.alloc o).heap.size=w1.heap.size+1:=by simp
 have Z:=p.size;have T:d.b≠e:=by
  rintro rfl;obtain⟨es,W,x,_⟩:=r;have f:w.heap[d.b]?=_:=m.2;rw[x]at f;cases f
 have B:lv.ownBlock≠some d.b:=λa=>by
  rcases C.2 with⟨rfl,_⟩|⟨Y,cap,X,rfl,_,x,_⟩
  ·simp[Value.ownBlock]at a
  ·simp[Value.ownBlock]at a;subst a;have f:w.heap[d.b]?=_:=m.2;rw[x]at f;injection f with f;injection f with f G;exact m.ty.1 G.symm
 have q:∀b,lv.ownBlock=some b->b<w.heap.size:=λb a=>(C.lt b a).2;have L:g≠d.b:=by
  rintro rfl;rcases v with a|a
  ·exact B a
  ·omega
 have z:g≠e:=by
  rintro rfl;rcases v with a|a
  ·exact O a
  ·omega
 have f:∀b,b<w.heap.size->lv.ownBlock≠some b->w2.heap[b]?=w.heap[b]? :=λb j h=>((p.block b (by omega) (λa=>h a.symm)).trans ((dq w1 o none).block b (by omega) (by simp))).trans (n.block b j);have y:=aY w2 d.b (d.o+2) (.slice (some ⟨g,0,none⟩) (nm.length+1) c);have U:=y.size;have ag:=k.size;have H:HB d room tv lv (.map (some e)) w2:=m.kept (f d.b M B);have I:=H.set2 (.slice (some ⟨g,0,none⟩) (nm.length+1) c);have J:HB d room tv (.slice (some ⟨g,0,none⟩) (nm.length+1) c) (.map (some e)) w4:=I.kept (k.block d.b (by omega) (λa=>T (ap a)));refine⟨J,⟨?_,?_,af ⟨e,_,rfl,Q,by simpa using P,?_,?_⟩⟩,⟨?_,?_,?_,?_,?_⟩,?_,?_⟩
 ·have a:fo (nm++ [s])=fo nm++ [.string s]:=by simp[fo]
  rw[a,aX];have N:w2.grownBy (w2.setCell ⟨d.b,d.o+2,none⟩ (.slice (some ⟨g,0,none⟩) (nm.length+1) c)) (some d.b):=⟨rfl,rfl,rfl,U,λb j h=>y.block b j (λa=>h (by rw[a]))⟩;refine od (od S N (af ?_)) k (af ?_)
  ·simp only[Value.ownBlock];exact λa=>L (ap a)
  ·simp only[Value.ownBlock];exact λa=>z (ap a)
 ·rw[eH];refine⟨R,by simp,λV K b j=>?_⟩;simp at j;subst j;exact λa=>E (a▸K)
 ·intro t;by_cases u:t=s
  ·subst u;refine⟨?_,λl i=>?_⟩
   ·rw[has_put_same r.isMap (CE _)];simp
   ·rw[atKey_put_same r.isMap (CE _)];have:l=nm.length:=by
     by_cases q:l<nm.length
     ·rw[cY q]at i;exact absurd (ay i) E
     ·have:=(aK.1 i).1;simp at this;omega
    rw[this]
  ·have h:(Lit.string t.data.toList)≠(Lit.string s.data.toList):=λa=>u (by
     injection a with a;cases t;cases s;simp only at a
     rw[Array.toList_inj.1 a])
   refine⟨?_,λl i=>?_⟩
   ·rw[has_put_other h,(A t).1];simp[u]
   ·rw[atKey_put_other h];refine(A t).2 l ?_;by_cases q:l<nm.length
    ·rw[cY q]at i;exact i
    ·have F:=(aK.1 i).1;simp at F;have:l=nm.length:=by omega
     subst this;simp at i;exact absurd i.symm u
 ·simp only[Value.ownBlock];exact λa=>z (ap a)
 ·exact(k.os.trans p.os).trans n.os
 ·exact(k.tape.trans p.tape).trans n.tape
 ·exact(k.output.trans p.output).trans n.output
 ·omega
 ·intro b j h;simp only[mapBlock,not_or]at h;exact(k.block b (by omega) (λa=>h.2.2 a.symm)).trans ((y.block b (by omega) h.1).trans (f b j h.2.1))
 ·intro b a;simp only[Value.ownBlock]at a;obtain rfl:=ap a;rcases v with a|a
  ·exact ae a
  ·exact af (by omega)
 ·exact λb a=>ae a
theorem tJ(w:World)(s:ByteArray):∀j u,[Value.string s][j]?=some u->(w.alloc (.cells #[.string s] 9)).cell? ((⟨w.heap.size,0,none⟩:Addr).add j)=some u:=by
 intro j u a;rw[fi];cases j with
 | zero=>simp at a;subst a;simp[go_sem]
 | succ j=>simp at a
theorem yY{base:Nat}{c:bW}{room:Int}{tv lv i mv:Value}{nm:List Value}{n:Nat}{w:World}(h:w.ownsRow base 9 1 lv n nm)(d:HB c room tv i mv w):lv.ownBlock≠some c.b:=λe=>by
 rcases h.2 with⟨rfl,_⟩|⟨k,cap,j,rfl,_,g,_⟩
 ·simp[Value.ownBlock]at e
 ·simp[Value.ownBlock]at e;subst e;have a:w.heap[c.b]?=_:=d.2;rw[g]at a;injection a with a;injection a with a f;exact d.ty.1 f.symm
theorem rv{c:bW}{lv v:Value}{w1 w2:World}{o:Obj}(i:c.b<w1.heap.size)(k:lv.ownBlock≠some c.b)(h:(w1.alloc o).grownBy w2 lv.ownBlock)(g:∀j,w1.frozen? ⟨c.b,j,none⟩=false)(f:w1.cell? ⟨c.b,c.o+2,none⟩=some v):w2.cell? ⟨c.b,c.o+2,none⟩=some v/\w2.frozen? ⟨c.b,c.o+2,none⟩=false:=by
 have d:w2.heap[c.b]?=w1.heap[c.b]? :=(h.block c.b (by simp;omega) (λe=>k e.symm)).trans ((dq w1 o none).block c.b i (by simp));exact⟨(bi d _).trans f,(iq (a:=⟨c.b,c.o+2,none⟩) d).trans (g _)⟩
theorem ru{a:bW}{lv v:Value}{w1 w2:World}{o:Obj}(g:a.b<w1.heap.size)(h:lv.ownBlock≠some a.b)(f:(w1.alloc o).grownBy w2 lv.ownBlock)(e:w1.cell? ⟨a.b,a.o+3,none⟩=some v):w2.cell? ⟨a.b,a.o+3,none⟩=some v:=by
 have d:w2.heap[a.b]?=w1.heap[a.b]? :=(f.block a.b (by simp;omega) (λc=>h c.symm)).trans ((dq w1 o none).block a.b g (by simp));exact(bi d _).trans e
theorem vi{c:bW}{d L:Nat}{lv:Value}{D:DataW Unit}{w1 w2:World}{o:Obj}(h:w1.ownsMap Tryz.prog 9 (plainElem Tryz.prog 3) d L D)(i:c.b≠d)(g:lv.ownBlock≠some d)(f:(w1.alloc o).grownBy w2 lv.ownBlock)(v:Value):(w2.setCell ⟨c.b,c.o+2,none⟩ v).ownsMap Tryz.prog 9 (plainElem Tryz.prog 3) d L D:=
 (((h.alloc o).kept f (λe=>g e.symm))).setCell (a:=⟨c.b,c.o+2,none⟩) (λe=>i e.symm) v
theorem Be(base:Nat)(a:bW)(room:Int)(tv lv:Value)(O:Option Addr)(P L:Nat)(d:Nat)(D:DataW Unit)(nm:List ByteArray)(s:ByteArray)(w:World)(ah:lv=.slice O L P)(Q:Hid (nm.length=L))(ax:L<=100000)(f:Hid (HB a room tv lv (.map (some d)) w))(aj:Hid (base<=d))(ay:base<=w.heap.size)(ak:Hid (nm.Nodup))(k:Hid (w.ownsMap Tryz.prog 9 (plainElem Tryz.prog 3) d L D))(u:Hid (qp D nm))(I:Hid (s∉nm))(al:s.size<=2048)(E:Hid (lv.ownBlock≠some d))(q:Hid (w.ownsRow base 9 1 lv L (fo nm))):Calls Tryz.prog 115 #[.pointer (some ⟨a.b,a.o+2,none⟩),.string s] w λe w'=>e=.returned (.int .i64 L)/\∃ao ap,Hid (pt base a room tv lv (.map (some d)) nm s w w' ao ap):=by
 subst ah;have af:Maps.has D (.string s.data.toList)=false:=by
  cases h:Maps.has D (.string s.data.toList)
  ·rfl
  ·exact absurd (((u.out s).1).1 h) I.out
 obtain⟨an,C,J,K,M⟩:=bM ti;have l:=ai (⟨C,J,K,M⟩:_/\_/\_/\_);clear C J K M;obtain⟨⟨U,V,r,W⟩,ab⟩:=f.out.cells;have az:∀(w:World)(m:Option Nat),(binOp .eql 119 (.map m) (.map none)).run Tryz.prog w=.ok (.bool m.isNone) w:=λw m=>run_eql_map_nil w _ _ _ m Tryz.underlying119;go_enter Tryz.func115,Tryz.ntmps115;go_wp2_with (at_lookup;refine wpList_lookup_own_ok_int _ rfl _ _ 119 rfl 9 3 .i64 ud Tryz.underlying119 Tryz.underlying3 (qh _) d L D rfl k.out _ _ rfl (lI Tryz.underlying9 (by unfold maxLen;omega)) ?_;intro c aa am;clear aa am;rw[af]);refine(dD s _ al).mono ?_;rintro e j ⟨rfl,g⟩;have A:a.b<w.heap.size:=f.out.lt;have p:=ai g;obtain⟨⟨ar,d1,X,Y⟩,ad⟩:=(f.out.kept (g.block a.b A)).cells;have B:a.b<j.heap.size:=aL A g.size;have T:Hid (a.b≠d):=by
  rintro rfl;obtain⟨es,aq,ae,_⟩:=k.out;have x:w.heap[a.b]?=_:=f.out.2;rw[ae]at x;cases x
 have v:Hid ((Value.slice O L P).ownBlock≠some a.b):=yY q.out f.out;have R:Hid (j.ownsMap Tryz.prog 9 (plainElem Tryz.prog 3) d L D):=k.out.kept (cu g none) (by simp);clear g U V r W ab
 go_wp2_with (first
  | (at_builtin;refine wpList_append_lies _ rfl _ _ 118 rfl base 9 an _ 1 16 Tryz.underlying118 l.out.1 l.out.2.1 l.out.2.2.1 l.out.2.2.2 rfl (by decide) _ L _ rfl ((dF q.out p.out).alloc _) ⟨j.heap.size,0,none⟩ 1 1 [.string s] rfl rfl (tJ j s) (by intro aA N;simp at N;subst N;rfl) (by decide) (by unfold maxLen;omega) (by omega) (by have:=p.out.size;simp;omega) (j.heap.size+1) (by simp) ?_;intro Z r aB G i y F;have n:=ai (⟨G,i,y,F⟩:_/\_/\_/\_);obtain⟨au,aw⟩:=rv B v.out i ad X;have av:=ru B v.out i Y;have S:=ai (vi R.out T.out E.out i (.slice (some ⟨Z,0,none⟩) (L+1) r));clear G i y F)
  | (at_mapUpdate;refine wpList_mapUpdate_own _ rfl _ _ _ 119 rfl 9 3 ud Tryz.underlying119 (plainElem Tryz.prog 3) d L D rfl S.out (by unfold maxLen;omega) _ _ _ rfl rfl (lI Tryz.underlying9 (by unfold maxLen;omega)) (.lit (.int .i64 L)) [] (plainElem_int Tryz.underlying3 (gO (by omega))) ?_;intro aC H z;have t:=ai (⟨H,z⟩:_/\_);clear H z))
 go_ret
 have ag:=Q.out;subst ag;exact⟨rfl,_,_,yZ f.out aj.out ak.out u.out I.out (by unfold maxLen;omega) E.out q.out k.out p.out n.out.1 n.out.2.1 n.out.2.2.1 t.out.1 t.out.2⟩
theorem AN{base:Nat}{c:bW}{room:Int}{tv lv f g:Value}{s:ByteArray}{w d w4:World}(h:pt base c room tv lv (.map (some w.heap.size)) [] s d w4 f g)(k:bD (λb=>b=c.b) w d)(p:d.heap.size=w.heap.size+1):pt base c room tv lv (.map none) [] s w w4 f g:=by
 obtain⟨i,j,l,m,n⟩:=h;refine⟨i,j,?_,?_,?_⟩
 ·refine(k.mono λb e=>ae e).trans l λb e o=>?_;rcases o with a|a|a
  ·exact ae a
  ·exact af (ae a)
  ·simp only[mapBlock]at a;have:=ap a;omega
 ·intro b a;rcases m b a with a|a
  ·exact ae a
  ·exact af (by omega)
 ·intro b a;rcases n b a with a|a
  ·simp only[mapBlock]at a;have:=ap a;exact af (by omega)
  ·exact af (by omega)
theorem Gg:qp (.map []) []:=λs=>⟨by simp[Maps.has],λi a=>by simp at a⟩
theorem wR(base:Nat)(a:bW)(room:Int)(tv lv:Value)(s:ByteArray)(w:World)(Y:lv=.slice none 0 0)(l:Hid (HB a room tv lv (.map none) w))(T:base<=w.heap.size)(ad:s.size<=2048):Calls Tryz.prog 115 #[.pointer (some ⟨a.b,a.o+2,none⟩),.string s] w λe w'=>e=.returned (.int .i64 0)/\∃af ag,Hid (pt base a room tv lv (.map none) [] s w w' af ag):=by
 subst Y;obtain⟨ae,x,C,D,E⟩:=bM ti;have i:=ai (⟨x,C,D,E⟩:_/\_/\_/\_);clear x C D E;obtain⟨⟨N,O,m,P⟩,U⟩:=l.out.cells;have W:a.b<w.heap.size:=l.out.lt;have ao:∀(w:World)(j:Option Nat),(binOp .eql 119 (.map j) (.map none)).run Tryz.prog w=.ok (.bool j.isNone) w:=λw j=>run_eql_map_nil w _ _ _ j Tryz.underlying119;have X:(Instr.lookup 119 (.map none) (.string s) true).run Tryz.prog w=.ok (.tuple #[.int .i64 0,.bool false]) w:=by
  simpa using Maps.look_nil (w:=w) true ud Tryz.underlying119 (qh _) (lI Tryz.underlying9 (show s.size<=maxLen by unfold maxLen;omega))
 have Z:= @jY Tryz.prog;go_enter Tryz.func115,Tryz.ntmps115;go_wp2_with fail;generalize G:(w.setCell ⟨a.b,a.o+3,none⟩ (.map (some w.heap.size))).alloc (.map #[] 0)=h;have c:Hid (HB a room tv (.slice none 0 0) (.map (some w.heap.size)) h/\h.ownsMap Tryz.prog 9 (plainElem (H:=Unit) Tryz.prog 3) w.heap.size 0 (.map [])/\bD (λb=>b=a.b) w h/\h.heap.size=w.heap.size+1):=by
  subst G;have es:(w.setCell ⟨a.b,a.o+3,none⟩ (.map (some w.heap.size))).heap.size=w.heap.size:=by simp[World.setCell]
  have z:=oc (w.setCell ⟨a.b,a.o+3,none⟩ (.map (some w.heap.size))) Tryz.prog 9 (plainElem (H:=Unit) Tryz.prog 3);rw[es]at z;refine⟨(l.out.set3 (.map (some w.heap.size))).kept ((dq _ _ none).block a.b (by rw[es];exact W) (by simp)),z,⟨rfl,rfl,rfl,by simp[World.setCell],λb r aa=>?_⟩,by simp[World.setCell]⟩;exact((dq _ _ none).block b (by rw[es];exact r) (by simp)).trans ((aY w a.b (a.o+3) (.map (some w.heap.size))).block b r aa)
 clear G N O m P U X Z;refine(dD s _ ad).mono ?_;rintro e f ⟨rfl,d⟩;have v:a.b<h.heap.size:=c.out.1.lt;have I:=ai d;obtain⟨⟨ah,d1,Q,R⟩,V⟩:=(c.out.1.kept (d.block a.b v)).cells;have u:a.b<f.heap.size:=aL v d.size;have M:Hid (a.b≠w.heap.size):=by unfold Hid;omega
 have p:Hid ((Value.slice none 0 0).ownBlock≠some a.b):=by simp[Hid,Value.ownBlock]
 have K:Hid (f.ownsMap Tryz.prog 9 (plainElem (H:=Unit) Tryz.prog 3) w.heap.size 0 (.map [])):=c.out.2.1.kept (cu d none) (by simp);have J:Hid (base<=f.heap.size):=by have am:=c.out.2.2.2;have an:=d.size;unfold Hid;omega
 clear d
 go_wp2_with (first
  | (at_builtin;refine wpList_append_lies _ rfl _ _ 118 rfl base 9 ae _ 1 16 Tryz.underlying118 i.out.1 i.out.2.1 i.out.2.2.1 i.out.2.2.2 rfl (by decide) _ 0 [] rfl (eg _ _ _ _) ⟨f.heap.size,0,none⟩ 1 1 [.string s] rfl rfl (tJ f s) (by intro ap F;simp at F;subst F;rfl) (by decide) (by unfold maxLen;omega) (by omega) (by have:=J.out;simp;omega) (f.heap.size+1) (by simp) ?_;intro S m aq A g q y;have k:=ai (⟨A,g,q,y⟩:_/\_/\_/\_);obtain⟨aj,al⟩:=rv u p.out g V Q;have ak:=ru u p.out g R;have L:=ai (vi (lv:=.slice none 0 0) K.out M.out (by simp[Value.ownBlock]) g (.slice (some ⟨S,0,none⟩) (0+1) m));clear A g q y)
  | (at_mapUpdate;refine wpList_mapUpdate_own _ rfl _ _ _ 119 rfl 9 3 ud Tryz.underlying119 (plainElem Tryz.prog 3) w.heap.size 0 (.map []) rfl L.out (by unfold maxLen;omega) _ _ _ rfl rfl (lI Tryz.underlying9 (by unfold maxLen;omega)) (.lit (.int .i64 0)) [] (plainElem_int Tryz.underlying3 (gO (by omega))) ?_;intro ar B t;have n:=ai (⟨B,t⟩:_/\_);clear B t))
 go_ret
 have ab:=yZ (nm:=[]) c.out.1 T (by simp) Gg (by simp) (show s.size<=maxLen by unfold maxLen;omega) (by simp[Value.ownBlock]) (eg _ _ _ _) c.out.2.1 I.out k.out.1 k.out.2.1 k.out.2.2.1 n.out.1 n.out.2;exact⟨rfl,_,_,AN ab c.out.2.2.1 c.out.2.2.2⟩
theorem Bc(base:Nat)(a:bW)(room:Int)(tv lv mv:Value)(nm:List ByteArray)(s:ByteArray)(w:World)(g:HB a room tv lv mv w)(J:jp base nm lv mv w)(C:base<=w.heap.size)(I:nm.length<=100000)(r:s.size<=2048):Calls Tryz.prog 115 #[.pointer (some ⟨a.b,a.o+2,none⟩),.string s] w λe w'=>∃i:Nat,e=.returned (.int .i64 i)/\∃j d f,Hid (j[i]?=some s/\(j=nm\/j=nm++ [s])/\HB a room tv d f w'/\jp base j d f w'/\bD (λb=>b=a.b\/lv.ownBlock=some b\/mapBlock mv=some b) w w'/\ (∀b,d.ownBlock=some b->lv.ownBlock=some b\/w.heap.size<=b)/\∀b,mapBlock f=some b->mapBlock mv=some b\/w.heap.size<=b):=by
 obtain⟨m,B,H⟩:=J;rcases H with⟨rfl,rfl,n⟩|⟨h,k,rfl,E,p,q,D⟩
 ·refine(wR base a room tv lv s w n g C r).mono ?_;rintro e w' ⟨rfl,d,f,l⟩;obtain⟨t,u,v,x,y⟩:=l.out;exact⟨0,rfl,[s],d,f,rfl,af rfl,t,u,v,x,y⟩
 ·by_cases F:s∈nm
  ·refine(Bf a room tv lv h k nm s w g p q F r).mono ?_;rintro e w' ⟨i,rfl,K,rfl⟩;exact⟨i,rfl,nm,lv,.map (some h),K.out,ae rfl,g,⟨m,B,af ⟨h,k,rfl,E,p,q,D⟩⟩,bD.refl _ _,λb e=>ae e,λb e=>ae e⟩
  ·obtain⟨z,A,n⟩:∃z A,lv=.slice z nm.length A:=by
     rcases m.2 with⟨e,G⟩|⟨M,c,L,e,_⟩
     ·exact⟨none,0,by rw[e,G]⟩
     ·exact⟨_,c,e⟩
   refine(Be base a room tv lv z A nm.length h k nm s w n rfl I g E C B p q F r D m).mono ?_;rintro e w' ⟨rfl,d,f,l⟩;obtain⟨t,u,v,x,y⟩:=l.out;exact⟨nm.length,rfl,nm++ [s],d,f,by simp,af rfl,t,u,v,x,y⟩
abbrev Wd:=Int×Int
def oC(x:Wd):List Value:=[.int .i64 x.1,.int .i64 x.2]
def aP(l:List Wd):List Value:=l.flatMap oC
theorem bY(l:List Wd):(aP l).length=l.length*2:=by
 induction l with
 | nil=>rfl
 | cons a l ih=>
  have:aP (a::l)=oC a++aP l:=rfl;rw[this,aX,ih,aW];have:(oC a).length=2:=rfl;omega
theorem oB(l r:List Wd):aP (l++r)=aP l++aP r:=by simp[aP]
theorem ph(l:List Wd):∀u∈aP l,u.oneCell'=true:=by
 intro u a;simp only[aP,iU]at a;obtain⟨b,_,a⟩:=a;simp[oC]at a;rcases a with rfl|rfl<;>rfl
theorem ii(l:List Wd)(k:Nat)(x:Wd)(a:l[k]?=some x)(j:Nat)(e:j<2):(aP l)[k*2+j]?=(oC x)[j]? :=by
 induction l generalizing k with
 | nil=>simp at a
 | cons b l ih=>
  have c:aP (b::l)=oC b++aP l:=rfl;have d:(oC b).length=2:=rfl;rw[c];cases k with
  | zero=>
   simp at a;subst a;rw[cY (by omega)];simp
  | succ k=>
   rw[dN (by omega),d,show (k+1)*2+j-2=k*2+j by omega];exact ih k (by simpa using a)
theorem kj:(Tryz.prog.info? 125).map (λi=>(i.zero,i.size,i.bytes))=some (some (.agg #[.int .i64 0,.int .i64 0]),2,16):=by kernel_rfl
theorem Ha(w:World)(x:Wd):∀j u,(oC x)[j]?=some u->(w.alloc (.cells #[.int .i64 x.1,.int .i64 x.2] 125)).cell? ((⟨w.heap.size,0,none⟩:Addr).add j)=some u:=by
 intro j u a;rw[fi];have:j<2:=(aK.1 a).1;have b:j=0\/j=1:=by omega
 rcases b with rfl|rfl<;>simp[oC]at a<;>subst a<;>simp[go_sem]
theorem Jx(x:Wd):∀u∈oC x,u.oneCell'=true:=by
 intro u a;simp[oC]at a;rcases a with rfl|rfl<;>rfl
theorem qM{P:Program}(w:World)(t u ty e a:TypeId)(f:P.underlying t=some (.slice e))(g:P.underlying u=some (.slice a))(i:TypeInfo)(d:P.info? e=some i)(b xa:Option Addr)(n c m xc:Nat):(Builtin.append_ #[t,u] ty #[.slice b n c,.slice xa m xc]).run P w=(Builtin.append_ #[t,t] ty #[.slice b n c,.slice xa m xc]).run P w:=by
 simp[Builtin.append_,bV f,bV g,sizeOf,typeInfo,d,Builtin.lenOf]
theorem mx{P:Program}(w:World)(t u ty e c:TypeId)(i:TypeInfo)(j:P.underlying t=some (.slice e))(k:P.underlying u=some (.slice c))(f:P.info? e=some i)(b xa:Option Addr)(n cap xc:Nat)(h:n<=cap):(Builtin.append_ #[t,u] ty #[.slice b n cap,.slice xa 0 xc]).run P w=.ok (.slice b n cap) w:=by
 have g:∀a:Addr,(loadCells a 0).run P w=.ok #[] w:=λa=>run_loadCells_list (P:=P) w a [] (λl m d=>by simp at d);cases b<;>cases xa<;>simp[Builtin.append_,bV j,bV k,sizeOf,typeInfo,f,Builtin.lenOf,Builtin.firstCells,h,storeCells,g]
def eK(w:World)(ps:List Wd)(xa:Option Addr):Prop:=ps=[]\/∃ad,xa=some ad/\∀j u,(aP ps)[j]?=some u->w.cell? (ad.add j)=some u
theorem qN{base:Nat}{v:Value}{n m xc:Nat}{xs:List Value}{ps:List Wd}{xa:Option Addr}{w:World}(ty:TypeId)(c:w.ownsRow base 125 2 v n xs)(t:eK w ps xa)(g:ps.length=m)(z:n+m<=200000)(q:base<=w.heap.size):∃a w',(Builtin.append_ #[117,116] ty #[v,.slice xa m xc]).run Tryz.prog w=.ok a w'/\w'.ownsRow base 125 2 a (n+m) (xs++aP ps)/\w.grownBy w' v.ownBlock/\(a.ownBlock=v.ownBlock\/a.ownBlock=some w.heap.size):=by
 obtain⟨f,d,u,x,y⟩:=bM kj;rcases t with rfl|⟨ad,rfl,r⟩
 ·obtain rfl:m=0:=g.symm;obtain⟨b,cap,e,s⟩:∃b cap,v=.slice b n cap/\n<=cap:=by
   rcases c.2 with⟨rfl,rfl⟩|⟨i,cap,h,rfl,_,_,j,_⟩
   ·exact⟨none,0,rfl,ag _⟩
   ·exact⟨_,cap,rfl,j⟩
  subst e;refine⟨_,w,mx w _ _ ty _ _ f Tryz.underlying117 Tryz.underlying116 d b xa n cap xc s,by simpa [aP]using c,ir _ _,ae rfl⟩
 ·obtain⟨b,cap,e⟩:∃b cap,v=.slice b n cap:=by
    rcases c.2 with⟨rfl,rfl⟩|⟨i,cap,h,rfl,_⟩
    ·exact⟨none,0,rfl⟩
    ·exact⟨_,cap,rfl⟩
  subst e;rw[qM w _ _ ty _ _ Tryz.underlying117 Tryz.underlying116 f d];obtain⟨a,w',k,l,o,_,p⟩:=run_append_own_at (P:=Tryz.prog) w base 117 ty 125 f _ 2 16 Tryz.underlying117 d u x y rfl (by decide) _ n xs c ad m xc (aP ps) (by rw[bY,g]) r (ph _) (by unfold maxLen;omega) (by omega) q;exact⟨a,w',k,l,o,p⟩
theorem oq{w:World}{c:Array Oper}{d:List Oper}{o:Oper}{a:Act}{Q:Exit->Act->World->Prop}(l:o.guard=none)(s x:Operand)(q:o.op=.call {callee:=.builtin .append,args:= #[s,x],argTypes:= #[117,116]}){base:Nat}{v:Value}{n m xc:Nat}{xs:List Value}{ps:List Wd}{xa:Option Addr}(u:a.eval s=v)(z:a.eval x=.slice xa m xc)(r:w.ownsRow base 125 2 v n xs)(y:eK w ps xa)(p:ps.length=m)(h:n+m<=200000)(k:base<=w.heap.size)(i:∀b w',w'.ownsRow base 125 2 b (n+m) (xs++aP ps)->w.grownBy w' v.ownBlock->(b.ownBlock=v.ownBlock\/b.ownBlock=some w.heap.size)->wpList Tryz.prog c Q d (a.put o.dst b) w'):wpList Tryz.prog c Q (o::d) a w:=
 wpList_plain l λA j=>by
  obtain⟨b,w',t,e,f,g⟩:=qN (xc:=xc) o.type r y p h k;unfold Oper.wp execOp;simp only[q,resolve,invoke,builtin,Sem.run_bind,Sem.run_pure,lP,lK,aH,bQ,u,z,t];exact j _ _ (i b w' e f g)
def JD(base a po:Nat)(tv:Value)(ws ps:List Wd)(w w':World)(c:Value):Prop:=
 w'.ownsRow base 125 2 c (ws.length+1+ps.length) (aP (ws++(0,(ps.length:Int))::ps))/\w'.heap[a]?=(w.setCell ⟨a,po,none⟩ c).heap[a]? /\
 bD (λb=>b=a\/tv.ownBlock=some b) w w'/\∀b,c.ownBlock=some b->(tv.ownBlock=some b\/w.heap.size<=b)
theorem CZ{b po:Nat}{v:Value}{w w2:World}{o c:Obj}{row:Option Nat}(i:b<w.heap.size)(j:row≠some b)(f:((w.alloc o).alloc c).grownBy w2 row)(g:w.cell? ⟨b,po,none⟩=some v)(h:w.frozen? ⟨b,po,none⟩=false):w2.cell? ⟨b,po,none⟩=some v/\w2.frozen? ⟨b,po,none⟩=false/\b<w2.heap.size:=by
 have d:((w.alloc o).alloc c).heap.size=w.heap.size+2:=by simp
 have e:w2.heap[b]?=w.heap[b]? :=((f.block b (by omega) (λd=>j d.symm)).trans ((dq (w.alloc o) c none).block b (by simp;omega) (by simp))).trans ((dq w o none).block b i (by simp));have:=f.size;exact⟨(bi e po).trans g,(iq (a:=⟨b,po,none⟩) e).trans h,by omega⟩
theorem Ih{base a:Nat}{tv:Value}{L g2 d:Nat}{ys:List Value}{ps:List Wd}{pa:Option Addr}{w w2:World}{o i:Obj}(t:a<w.heap.size)(r:base<=w.heap.size)(h:tv.ownBlock≠some a)(p:w2.ownsRow base 125 2 (.slice (some ⟨g2,0,none⟩) (L+1) d) (L+1) ys)(e:((w.alloc o).alloc i).grownBy w2 tv.ownBlock)(j:tv.ownBlock=some g2\/g2=w.heap.size+2)(po:Nat)(q:∀w1,bD (λb=>b=a\/tv.ownBlock=some b) w w1->eK w1 ps pa):(w2.setCell ⟨a,po,none⟩ (.slice (some ⟨g2,0,none⟩) (L+1) d)).ownsRow base 125 2 (.slice (some ⟨g2,0,none⟩) (L+1) d) (L+1) ys/\eK (w2.setCell ⟨a,po,none⟩ (.slice (some ⟨g2,0,none⟩) (L+1) d)) ps pa/\base<=(w2.setCell ⟨a,po,none⟩ (.slice (some ⟨g2,0,none⟩) (L+1) d)).heap.size:=by
 have m:g2≠a:=by
  rintro rfl;rcases j with c|c
  ·exact h c
  ·omega
 have c:((w.alloc o).alloc i).heap.size=w.heap.size+2:=by simp
 have s:=e.size;have f:=aY w2 a po (.slice (some ⟨g2,0,none⟩) (L+1) d);have n:bD (λb=>b=a\/tv.ownBlock=some b) w (w2.setCell ⟨a,po,none⟩ (.slice (some ⟨g2,0,none⟩) (L+1) d)):=by
  refine⟨?_,?_,?_,?_,?_⟩
  ·exact e.os
  ·exact e.tape
  ·exact e.output
  ·have:=f.size;omega
  ·intro b k g;simp only[not_or]at g;exact(f.block b (by omega) g.1).trans (((e.block b (by omega) (λc=>g.2 c.symm)).trans ((dq (w.alloc o) i none).block b (by simp;omega) (by simp))).trans ((dq w o none).block b k (by simp)))
 refine⟨od p (row:=some a) ⟨rfl,rfl,rfl,f.size,λb l h=>f.block b l (λc=>h (by rw[c]))⟩ (af ?_),q _ n,by have:=f.size;omega⟩;simp only[Value.ownBlock];exact λc=>m (ap c)
theorem E8{base d po:Nat}{tv:Value}{L g2 e:Nat}{xs:List Value}{w w2 w4:World}{h:Obj}{v0 v1 u:Value}{f:Nat}(A:d<w.heap.size)(x:w.ownsRow base 125 2 tv L xs)(v:tv.ownBlock≠some d)(k:((w.alloc (.cells #[v0,v1] 125)).alloc h).grownBy w2 tv.ownBlock)(j:tv.ownBlock=some g2\/g2=w.heap.size+2)(q:(w2.setCell ⟨d,po,none⟩ (.slice (some ⟨g2,0,none⟩) f e)).grownBy w4 (Value.slice (some ⟨g2,0,none⟩) f e).ownBlock)(o:w2.cell? ⟨d,po,none⟩=some u)(p:w2.frozen? ⟨d,po,none⟩=false):(w4.cell? ⟨w.heap.size,0,none⟩=some v0/\w4.cell? ⟨w.heap.size,1,none⟩=some v1)/\(w4.frozen? ⟨w.heap.size,0,none⟩=false/\w4.frozen? ⟨w.heap.size,1,none⟩=false)/\w4.cell? ⟨d,po,none⟩=some (.slice (some ⟨g2,0,none⟩) f e)/\w4.frozen? ⟨d,po,none⟩=false:=by
 have l:∀b,tv.ownBlock=some b->b<w.heap.size:=λb c=>(x.lt b c).2;have c:((w.alloc (.cells #[v0,v1] 125)).alloc h).heap.size=w.heap.size+2:=by simp
 have z:=k.size;have n:=aY w2 d po (.slice (some ⟨g2,0,none⟩) f e);have B:=n.size;have s:g2≠w.heap.size:=by
  rintro rfl;rcases j with c|c
  ·have:=l _ c;omega
  ·omega
 have r:g2≠d:=by
  rintro rfl;rcases j with c|c
  ·exact v c
  ·omega
 have i:∀b,b<w2.heap.size->b≠g2->w4.heap[b]?=(w2.setCell ⟨d,po,none⟩ (.slice (some ⟨g2,0,none⟩) f e)).heap[b]? :=λb y t=>q.block b (by omega) (λc=>t (ap c));have g:w4.heap[w.heap.size]?=some (.cells #[v0,v1] 125):=by
  refine(i _ (by omega) (λc=>s c.symm)).trans ((n.block _ (by omega) (by omega)).trans ((k.block _ (by omega) (λc=>by have:=l _ c.symm;omega)).trans (((dq (w.alloc (.cells #[v0,v1] 125)) h none).block _ (by simp) (by simp)).trans (ax w _))))
 have m:=i d (by omega) (λc=>r c.symm);refine⟨⟨by simp[World.cell?,g],by simp[World.cell?,g]⟩,⟨by simp[World.frozen?,g],by simp[World.frozen?,g]⟩,?_,?_⟩
 ·rw[bi m po];simp[go_sem,o]
 ·rw[iq (a:=⟨d,po,none⟩) m];simp[go_sem,p]
theorem GI(w:World)(q o:Nat)(u v:Value):((w.setCell ⟨q,o,none⟩ u).setCell ⟨q,o,none⟩ v).heap[q]?=(w.setCell ⟨q,o,none⟩ v).heap[q]? :=by
 simp only[World.setCell,bJ,cI];cases w.heap[q]? with
 | none=>rfl
 | some a=>cases a<;>simp
theorem vD{w w':World}{q:Nat}(a:w'.heap[q]?=w.heap[q]?)(o:Nat)(v:Value):(w'.setCell ⟨q,o,none⟩ v).heap[q]?=(w.setCell ⟨q,o,none⟩ v).heap[q]? :=by
 simp only[World.setCell,bJ,cI,a]
theorem Ig{base c po:Nat}{tv:Value}{g2 f g4 e:Nat}{ws ps:List Wd}{w w2 w4:World}{m q:Obj}{n r:Value}(P:c<w.heap.size)(Q:w.ownsRow base 125 2 tv ws.length (aP ws))(A:tv.ownBlock≠some c)(i:((w.alloc m).alloc q).grownBy w2 tv.ownBlock)(l:tv.ownBlock=some g2\/g2=w.heap.size+2)(O:w4.ownsRow base 125 2 (.slice (some ⟨g4,0,none⟩) (ws.length+1+ps.length) e) (ws.length+1+ps.length) (aP ws++oC (0,(ps.length:Int))++aP ps))(j:(w2.setCell ⟨c,po,none⟩ (.slice (some ⟨g2,0,none⟩) (ws.length+1) f)).grownBy w4 (Value.slice (some ⟨g2,0,none⟩) (ws.length+1) f).ownBlock)(K:(Value.slice (some ⟨g4,0,none⟩) (ws.length+1+ps.length) e).ownBlock=(Value.slice (some ⟨g2,0,none⟩) (ws.length+1) f).ownBlock\/(Value.slice (some ⟨g4,0,none⟩) (ws.length+1+ps.length) e).ownBlock=some (w2.setCell ⟨c,po,none⟩ (.slice (some ⟨g2,0,none⟩) (ws.length+1) f)).heap.size):JD base c po tv ws ps w (((w4.setCell ⟨c,po,none⟩ (.slice (some ⟨g4,0,none⟩) (ws.length+1+ps.length) e)).setCell ⟨w.heap.size,0,none⟩ n).setCell ⟨w.heap.size,1,none⟩ r) (.slice (some ⟨g4,0,none⟩) (ws.length+1+ps.length) e):=by
 have N:∀b,tv.ownBlock=some b->b<w.heap.size:=λb a=>(Q.lt b a).2;have a:((w.alloc m).alloc q).heap.size=w.heap.size+2:=by simp
 have Y:=i.size;have B:=aY w2 c po (.slice (some ⟨g2,0,none⟩) (ws.length+1) f);have aa:=B.size;have X:=j.size;have Z:g2≠w.heap.size:=by
  rintro rfl;rcases l with a|a
  ·have:=N _ a;omega
  ·omega
 have M:g2≠c:=by
  rintro rfl;rcases l with a|a
  ·exact A a
  ·omega
 have H:g4=g2\/w.heap.size+2<=g4:=by
  rcases K with k|k
  ·exact ae (by simpa [Value.ownBlock]using k)
  ·have V:g4=(w2.setCell ⟨c,po,none⟩ (.slice (some ⟨g2,0,none⟩) (ws.length+1) f)).heap.size:=by
     simp only[Value.ownBlock]at k;exact ap k
   exact af (by omega)
 have J:g4≠w.heap.size:=by omega
 have I:g4≠c:=by omega
 have v:∀b,b<w.heap.size->tv.ownBlock≠some b->w2.heap[b]?=w.heap[b]? :=λb g d=>((i.block b (by omega) (λa=>d a.symm)).trans ((dq (w.alloc m) q none).block b (by simp;omega) (by simp))).trans ((dq w m none).block b g (by simp));have x:∀b,b<w2.heap.size->b≠g2->w4.heap[b]?=(w2.setCell ⟨c,po,none⟩ (.slice (some ⟨g2,0,none⟩) (ws.length+1) f)).heap[b]? :=λb g d=>j.block b (by omega) (λa=>d (ap a));have p:=aY w4 c po (.slice (some ⟨g4,0,none⟩) (ws.length+1+ps.length) e);have C:=aY (w4.setCell ⟨c,po,none⟩ (.slice (some ⟨g4,0,none⟩) (ws.length+1+ps.length) e)) w.heap.size 0 n;have D:=aY ((w4.setCell ⟨c,po,none⟩ (.slice (some ⟨g4,0,none⟩) (ws.length+1+ps.length) e)).setCell ⟨w.heap.size,0,none⟩ n) w.heap.size 1 r;have ab:=p.size;have ad:=C.size;have ag:=D.size;have o:∀b,b<w4.heap.size->b≠w.heap.size->(((w4.setCell ⟨c,po,none⟩ (.slice (some ⟨g4,0,none⟩) (ws.length+1+ps.length) e)).setCell ⟨w.heap.size,0,none⟩ n).setCell ⟨w.heap.size,1,none⟩ r).heap[b]?=(w4.setCell ⟨c,po,none⟩ (.slice (some ⟨g4,0,none⟩) (ws.length+1+ps.length) e)).heap[b]? :=λb g d=>(D.block b (by omega) d).trans (C.block b (by omega) d);refine⟨?_,?_,⟨?_,?_,?_,?_,?_⟩,?_⟩
 ·have G:aP (ws++(0,(ps.length:Int))::ps)=aP ws++oC (0,(ps.length:Int))++aP ps:=by simp[aP]
  rw[G];obtain⟨T,s⟩:=O;refine⟨T,?_⟩;rcases s with⟨s,_⟩|⟨W,cap,E,S,g,y,R⟩
  ·simp at s
  ·injection S with h U F;injection h with h;injection h with h _;subst h F;have z:=(aE.1 y).1;exact af ⟨g4,e,E,rfl,g,(o g4 z J).trans ((p.block g4 z I).trans y),R⟩
 ·refine(o c (by omega) (by omega)).trans ((vD (x c (by omega) (λa=>M a.symm)) po _).trans ((GI w2 c po _ _).trans (vD (v c P A) po _)))
 ·exact j.os.trans i.os
 ·exact j.tape.trans i.tape
 ·exact j.output.trans i.output
 ·omega
 ·intro b g d;simp only[not_or]at d;have L:b≠g2:=by
   rintro rfl;rcases l with a|a
   ·exact d.2 a
   ·omega
  exact(o b (by omega) (by omega)).trans ((p.block b (by omega) d.1).trans ((x b (by omega) L).trans ((B.block b (by omega) d.1).trans (v b g d.2))))
 ·intro b u;simp only[Value.ownBlock]at u;obtain rfl:=ap u;rcases H with a|a
  ·rw[a];rcases l with t|t
   ·exact ae t
   ·exact af (by omega)
  ·exact af (by omega)
theorem xN(base a po:Nat)(tv:Value)(N:Option Addr)(O L:Nat)(ws ps:List Wd)(m pc:Nat)(pa:Option Addr)(w:World)(I:tv=.slice N L O)(A:Hid (ws.length=L))(r:Hid (ps.length=m))(W:L<=100000)(X:m<=1000)(F:base<=w.heap.size)(c0:w.cell? ⟨a,po,none⟩=some tv)(D:w.frozen? ⟨a,po,none⟩=false)(h:a<w.heap.size)(g:Hid (tv.ownBlock≠some a))(k:Hid (w.ownsRow base 125 2 tv L (aP ws)))(B:Hid (∀w1,bD (λb=>b=a\/tv.ownBlock=some b) w w1->eK w1 ps pa)):Calls Tryz.prog 116 #[.pointer (some ⟨a,po,none⟩),.slice pa m pc] w λe w'=>e=.returned (.agg #[.int .i64 4,.int .i64 L])/\∃P,Hid (JD base a po tv ws ps w w' P):=by
 subst I;obtain⟨J,t,x,y,z⟩:=bM kj;have d:=ai (⟨t,x,y,z⟩:_/\_/\_/\_);clear t x y z;go_enter Tryz.func116,Tryz.ntmps116
 go_wp2_with (first
  | (at_builtin;refine wpList_append_lies _ rfl _ _ 117 rfl base 125 J _ 2 16 Tryz.underlying117 d.out.1 d.out.2.1 d.out.2.2.1 d.out.2.2.2 rfl (by decide) _ L _ rfl ((k.out.alloc _).alloc _) ⟨w.heap.size+1,0,none⟩ 1 1 (oC (0,(m:Int))) rfl rfl (by have:=Ha (w.alloc (.cells #[.int .i64 0,.int .i64 0] 125)) (0,(m:Int));simpa using this) (Jx _) (by decide) (by unfold maxLen;omega) (by omega) (by simp;omega) (w.heap.size+2) (by simp) ?_;intro U Q ab p f l u;have c:=ai (⟨p,f,l,u⟩:_/\_/\_/\_);obtain⟨C,E,Y⟩:=CZ h g.out f c0 D;have i:=ai (Ih h F g.out p f l po B.out);clear p f l u)
  | (at_builtin;refine oq rfl _ _ rfl (base:=base) (n:=L+1) rfl rfl i.out.1 i.out.2.1 r.out (by omega) i.out.2.2 ?_;intro aa ad q o s;obtain⟨V,R,rfl,_,_⟩:=q.form (by omega);have j:=ai (⟨q,o,s⟩:_/\_/\_);obtain⟨⟨K,M⟩,Z,S,T⟩:=E8 h k.out g.out c.out.2.1 c.out.2.2.1 o C E;clear q o s))
 have G:=A.out;have H:=r.out;subst G H;exact ao (v:=.agg #[.int .i64 4,.int .i64 ws.length]) (by simp[results,Tryz.results116,go_sem,K,M]) rfl ⟨rfl,_,Ig h k.out g.out c.out.2.1 c.out.2.2.1 j.out.1 j.out.2.1 j.out.2.2⟩
end Go.Proofs.YtnidfceinoiboaaGreat

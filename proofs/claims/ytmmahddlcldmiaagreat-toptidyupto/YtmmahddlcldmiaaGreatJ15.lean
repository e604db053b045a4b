/- Proved here: plain facts and contracts. No condition but what each names. -/
import Derived.Test.YtmmahddlcldmiaaGreatJ14
import Derived.Maps.OwnSet
import Derived.StringKeys
import Derived.Maps.AppendAt
import Derived.Deep.QuietTactic
import Derived.BigQuiet
namespace Go.Proofs.YtmmahddlcldmiaaGreat
open Go.RowKit Tryz
open Go.RowKit Go.Maps
set_option maxRecDepth 100000
set_option maxHeartbeats 2000000
theorem Ko(k h i:Int)(j:ap)(xa:aw)(l xc:Nat)(y0 y1:Int)(y2:ap)(ya:aw)(yl yc:Nat)(nm:ap)(g:Int)(c:Nat)(w:ag)(R:Bool->ag->Prop)(D:c<w.heap.size)(B:Hid (∃u,w.cell? ⟨c,6,none⟩=some (.bool u)/\w.frozen? ⟨c,6,none⟩=false))(m:Hid (k=1->∀W,ak w W->am 186 #[aH c,.agg #[ab k,ab h,ab i,af j,ae xa l xc,ab y0,ab y1,af y2,ae ya yl yc,af nm,ab g]] W λe w'=>∃t,e=.returned (.bool t)/\Hid (R t w')))(n:Hid (k=2->∀W,ak w W->am 187 #[aH c,.agg #[ab k,ab h,ab i,af j,ae xa l xc,ab y0,ab y1,af y2,ae ya yl yc,af nm,ab g]] W λe w'=>∃t,e=.returned (.bool t)/\Hid (R t w')))(o:Hid (k=3->∀W,ak w W->am 188 #[aH c,.agg #[ab k,ab h,ab i,af j,ae xa l xc,ab y0,ab y1,af y2,ae ya yl yc,af nm,ab g]] W λe w'=>∃t,e=.returned (.bool t)/\Hid (R t w')))(q:Hid (k≠1->k≠2->k≠3->∀W,ak w W->R true (W.setCell ⟨c,6,none⟩ (.bool true)))):am 154 #[aH c,.agg #[ab k,ab h,ab i,af j,ae xa l xc,ab y0,ab y1,af y2,ae ya yl yc,af nm,ab g]] w λe w'=>∃t,e=.returned (.bool t)/\Hid (R t w'):=by
 have C:Hid (∃a b,(a=w.alloc (.cells #[ab k,ab h,ab i,af j,ae xa l xc,ab y0,ab y1,af y2,ae ya yl yc,af nm,ab g] 248)/\b=w.heap.size)/\ak w a/\(a.cell? ⟨b,0,none⟩=some (ab k)/\a.cell? ⟨b,1,none⟩=some (ab h)/\a.cell? ⟨b,2,none⟩=some (ab i)/\a.cell? ⟨b,3,none⟩=some (af j)/\a.cell? ⟨b,4,none⟩=some (ae xa l xc)/\a.cell? ⟨b,5,none⟩=some (ab y0)/\a.cell? ⟨b,6,none⟩=some (ab y1)/\a.cell? ⟨b,7,none⟩=some (af y2)/\a.cell? ⟨b,8,none⟩=some (ae ya yl yc)/\a.cell? ⟨b,9,none⟩=some (af nm)/\a.cell? ⟨b,10,none⟩=some (ab g))):=by
  have d:=aF w (.cells #[ab k,ab h,ab i,af j,ae xa l xc,ab y0,ab y1,af y2,ae ya yl yc,af nm,ab g] 248);exact⟨_,_,⟨rfl,rfl⟩,(aq _ _).alloc (ao _) _,ah d 0,ah d 1,ah d 2,ah d 3,ah d 4,ah d 5,ah d 6,ah d 7,ah d 8,ah d 9,ah d 10⟩
 go_enter func154,ntmps154;obtain⟨u,F,A⟩:=B.out;go_upto_region 1 with fail;obtain⟨a,b,⟨G,E⟩,z,M,N,P,Q,S,T,U,V,X,Y,O⟩:=C.out;rw[<-G,<-E];have s:=au z;have I:Hid (a.cell? ⟨c,6,none⟩=some (.bool u)/\a.frozen? ⟨c,6,none⟩=false):=by
  refine⟨(z.cell (p:=⟨c,6,none⟩) D).trans F,?_⟩;unfold World.frozen? at A ⊢;rw[z.block c D];exact A
 clear G E z C F A B;by_cases v:k=1
 ·have r:=au (m v a s);clear m n o q;subst v;go_wp2_with fail;refine r.mono ?_;rintro e H ⟨t,rfl,f⟩;go_wp2_with fail
  go_ret
  exact⟨t,rfl,f⟩
 ·by_cases x:k=2
  ·have r:=au (n x a s);clear m n o q;subst x;go_wp2_with fail;refine r.mono ?_;rintro e H ⟨t,rfl,f⟩;go_wp2_with fail
   go_ret
   exact⟨t,rfl,f⟩
  ·by_cases y:k=3
   ·have r:=au (o y a s);clear m n o q;subst y;go_wp2_with fail;refine r.mono ?_;rintro e H ⟨t,rfl,f⟩;go_wp2_with fail
    go_ret
    exact⟨t,rfl,f⟩
   ·have f:=au (q v x y a s);obtain⟨Z,aa⟩:=I;have J:¬(1:Int)=k:=λe=>v e.symm;have K:¬(2:Int)=k:=λe=>x e.symm;have L:¬(3:Int)=k:=λe=>y e.symm;clear m n o q;go_wp2_with fail
    go_ret
    exact⟨true,rfl,f⟩
def OS{n:Nat}(a:Ac (n+1)):av:=.agg #[ab a.1,ab a.2.1.1.1.1,ab a.2.1.1.1.2.1,af a.2.1.1.1.2.2,ae a.2.1.1.2.1.1 a.2.1.1.2.2.length a.2.1.1.2.1.2,ab a.2.1.2.1.1,ab a.2.1.2.1.2.1,af a.2.1.2.1.2.2,ae a.2.1.2.2.1.1 a.2.1.2.2.2.length a.2.1.2.2.1.2,af a.2.2.1,ab a.2.2.2]
variable{s:ByteArray}{D:DataW Unit}{room:Int}{nm:List ap}{xs ys:List av}{f h j l L base c g i m n po sz xc:Nat}{k o:Obj}{row:Option Nat}{P:Program}{b:Type}{e:TypeId}{p lv mv tv v:Value}{w w' w1 w2 w4:World}{a q:av}{xa:aw}
theorem I5(l:List (Ac (n+1)))(s:aw)(L C r:Nat)(w:ag)(S:Nat->ag->Prop)(k:ag->Prop)(D:L<=1000000)(z:Hid (l.length=L))(x:Hid (∀(i:Nat)(a:Ac (n+1)) W,l[i]?=some a->S i W->∃b o,s=some ⟨b,o,none⟩/\∀(j:Nat)(u:av),(gi (n+1) a)[j]?=some u->W.cell? ⟨b,o+i*11+j,none⟩=some u))(HB:Hid (∀i W q,S i W->ak W q->S i q))(A:Hid (∀(i:Nat)(a:Ac (n+1)) W,l[i]?=some a->S i W->am 154 #[aH r,OS a] W λe w'=>∃t,e=.returned (.bool t)/\Hid ((t=true->S (i+1) w')/\(t=false->k w'))))(v:Hid (S 0 w)):am 116 #[aH r,ae s L C] w λe w'=>∃t,e=.returned (.bool t)/\Hid ((t=true->S L w')/\(t=false->k w')):=by
 go_enter func116,ntmps116;go_wp2_with fail;go_loopw [9] (λi wr=>∃j:Nat,j<=L/\i=ab j/\Hid (S j wr)) (λi _=>L-(intOf i).toNat)
 case atStart=>exact⟨0,aL _,rfl,v⟩
 case round=>
  obtain⟨j,E,rfl,g⟩:=hrel;by_cases B:j<L
  ·obtain⟨a,h⟩:∃a,l[j]?=some a:=⟨l[j]'(by rw[z.out];exact B),aM _⟩;obtain⟨b,o,rfl,c⟩:=x j a wr h g;have I:wr.cell? ⟨b,o+j*11,none⟩=some (ab a.1):=c 0 _ rfl;have J:=c 1 _ rfl;have M:=c 2 _ rfl;have N:=c 3 _ rfl;have O:=c 4 _ rfl;have P:=c 5 _ rfl;have Q:=c 6 _ rfl;have R:=c 7 _ rfl;have T:=c 8 _ rfl;have U:=c 9 _ rfl;have K:=c 10 _ rfl;have F:(0:Int)<=(j:Int):=by omega
   have G:(j:Int)<(L:Int):=by omega
   have m:=au λW (d:ak wr W)=>A j a W h (HB _ _ _ g d);unfold OS at m;have y:Hid (∀o:Obj,ak wr (wr.alloc o)):=λo=>(aq _ _).alloc (ao _) o;clear c h;go_wp2_with fail;refine(m _ (y _)).mono ?_;rintro e H ⟨t,rfl,p⟩;cases t
   ·have f:=au (p.2 rfl);go_wp2_with fail
    go_ret
    exact⟨false,rfl,λd=>(by cases d),λ_=>f.out⟩
   ·have f:=au (p.1 rfl);go_wp2_with fail;go_roundw
    case rel=>exact⟨j+1,by omega,by go_num,f⟩
    case measure=>simp[intOf];omega
  ·obtain rfl:j=L:=by omega
   go_wp2_with fail
   go_ret
   exact⟨true,rfl,λ_=>g,λd=>(by cases d)⟩
theorem A8(N:Nat)(s0 s1:Int)(Y:ap)(sa:aw)(sl sc:Nat)(P Q:Int)(R:ap)(ma:aw)(U T:Nat)(l:aw)(m ac:Nat)(o p:Int)(r:ap)(s:aw)(v u:Nat)(X n:Nat)(w:ag)(S:ag->Prop)(V:Bool->Tm (N+1)->ag->Prop)(c:Int->ag->Prop)(E:Hid (∀W,ak w W->am 116 #[aH n,ae l m ac] W λe w'=>∃t,e=.returned (.bool t)/\Hid ((∀q a,w.heap.size<=q->W.heap[q]?=some a->w'.heap[q]?=some a)/\(t=true->S w')/\(t=false->c 2 w'))))(G:Hid (∀W,S W->am 117 #[aH n,.agg #[ab o,ab p,af r,ae s v u]] W λe w'=>∃(y:Tm (N+1))(t:Bool),e=.returned (.tuple #[.agg #[ab y.1.1,ab y.1.2.1,af y.1.2.2,ae y.2.1.1 y.2.2.length y.2.1.2],.bool t])/\Hid (V t y w')))(F:Hid (∀y d g,V false y d->ak d g->c 2 g))(HB:Hid (∀y d g,V true y d->ak d g->am 118 #[aH X,.agg #[ab y.1.1,ab y.1.2.1,af y.1.2.2,ae y.2.1.1 y.2.2.length y.2.1.2]] g λe w'=>∃t,e=.returned (.bool t)/\Hid ((t=false->c 3 w')/\(t=true->∃i,w'.cell? ⟨n,6,none⟩=some (.bool i)/\(i=true->c 1 w')/\(i=false->c 0 w'))))):am 79 #[aH X,.agg #[ab s0,ab s1,af Y,ae sa sl sc,ab P,ab Q,af R,ae ma U T,ae l m ac,ab o,ab p,af r,ae s v u],aH n] w λe w'=>∃f,e=.returned (ab f)/\c f w':=by
 have H:Hid (∃x q a,(x=w.alloc a/\q=w.heap.size/\a=.cells #[ab s0,ab s1,af Y,ae sa sl sc,ab P,ab Q,af R,ae ma U T,ae l m ac,ab o,ab p,af r,ae s v u] 162)/\ak w x/\x.heap[q]?=some a/\w.heap.size<=q/\∀W:ag,W.heap[q]?=some a->W.cell? ⟨q,8,none⟩=some (ae l m ac)/\W.cell? ⟨q,9,none⟩=some (ab o)/\W.cell? ⟨q,10,none⟩=some (ab p)/\W.cell? ⟨q,11,none⟩=some (af r)/\W.cell? ⟨q,12,none⟩=some (ae s v u)):=
  ⟨_,_,_,⟨rfl,rfl,rfl⟩,(aq _ _).alloc (ao _) _,aF _ _,ao _,λW h=>⟨ah h 8,ah h 9,ah h 10,ah h 11,ah h 12⟩⟩
 go_enter func79,ntmps79;go_wp2_with fail;obtain⟨x,q,a,⟨D,L,K⟩,I,M,O,J⟩:=H.out;rw[K]at D;rw[<-D];have Z:=au I;have ad:=au J;have ai:=au M;have aj:=au O;rw[<-L];clear D L K I J M O H;refine(E _ Z).mono ?_;rintro e an ⟨t,rfl,j⟩;obtain⟨ay,az,ar,av,ax⟩:=ad an (j.1 q a aj ai);cases t
 ·have b:=au (j.2.2 rfl);go_wp2_with fail
  go_ret
  exact⟨2,rfl,b⟩
 ·have al:=au (j.2.1 rfl);clear j E;go_wp2_with fail;refine(G _ al).mono ?_;rintro e z ⟨y,t,rfl,A⟩;cases t
  ·have b:=au λa=>F y z (z.alloc a) A ((aq _ _).alloc (ao _) a);go_wp2_with fail
   go_ret
   exact⟨2,rfl,b _⟩
  ·have aa:=au λa=>HB y z (z.alloc a) A ((aq _ _).alloc (ao _) a);clear A G F HB;go_wp2_with fail;refine(aa _).mono ?_;rintro e aB ⟨t,rfl,k⟩;cases t
   ·have b:=au (k.1 rfl);go_wp2_with fail
    go_ret
    exact⟨3,rfl,b⟩
   ·obtain⟨i,aA,C,B⟩:=k.out.2 rfl;cases i
    ·have b:=au (B rfl);clear C B k;go_wp2_with fail
     go_ret
     exact⟨0,rfl,b⟩
    ·have b:=au (C rfl);clear C B k;go_wp2_with fail
     go_ret
     exact⟨1,rfl,b⟩
structure cG where
 b:Nat
 o:Nat
 pre:List Value
 post:List Value
 t:TypeId
def cG.own(b:Nat):cG:=⟨b,0,[],[],107⟩
def HB(a:cG)(room:Int)(tv lv mv:Value)(w:World):Prop:=(a.pre.length=a.o/\(a.t=107\/a.t=111))/\w.heap[a.b]?=some (.cells (a.pre++ .int .i64 room::tv::lv::mv::a.post).toArray a.t)
variable{d:cG}
theorem HB.lt(a:HB d room tv lv mv w):d.b<w.heap.size:=(aJ.1 a.2).1
theorem HB.cells{a:cG}{room:Int}{tv lv mv:Value}{w:World}(c:HB a room tv lv mv w):(w.cell? ⟨a.b,a.o,none⟩=some (.int .i64 room)/\w.cell? ⟨a.b,a.o+1,none⟩=some tv/\w.cell? ⟨a.b,a.o+2,none⟩=some lv/\w.cell? ⟨a.b,a.o+3,none⟩=some mv)/\∀j,w.frozen? ⟨a.b,j,none⟩=false:=by
 obtain⟨⟨d,_⟩,e⟩:=c;refine⟨⟨?_,?_,?_,?_⟩,λj=>?_⟩
 all_goals simp[World.cell?,World.frozen?,e,<-d]
theorem HB.ty(b:HB d room tv lv mv w):d.t≠9/\d.t≠109:=by
 rcases b.1.2 with a|a<;>rw[a]<;>decide
theorem Dr{l:List Value}{k:Nat}(a:d.pre.length=d.o)(b:l=(.int .i64 room::tv::lv::mv::d.post).set k v):(d.pre++ .int .i64 room::tv::lv::mv::d.post).set (d.o+k) v=d.pre++l:=by
 subst b;rw[<-a,List.set_append,if_neg (by omega),show d.pre.length+k-d.pre.length=k by omega]
theorem HB.set1(a:HB d room tv lv mv w)(v:Value):HB d room v lv mv (w.setCell ⟨d.b,d.o+1,none⟩ v):=by
 refine⟨a.1,?_⟩;have c:=Dr (k:=1) (room:=room) (tv:=tv) (lv:=lv) (mv:=mv) (v:=v) a.1.1 rfl;simp only[dt,du]at c;simp[World.setCell,bO,a.2,c]
theorem HB.set2(a:HB d room tv lv mv w)(v:Value):HB d room tv v mv (w.setCell ⟨d.b,d.o+2,none⟩ v):=by
 refine⟨a.1,?_⟩;have c:=Dr (k:=2) (room:=room) (tv:=tv) (lv:=lv) (mv:=mv) (v:=v) a.1.1 rfl;simp only[dt,du]at c;simp[World.setCell,bO,a.2,c]
theorem HB.set3(a:HB d room tv lv mv w)(v:Value):HB d room tv lv v (w.setCell ⟨d.b,d.o+3,none⟩ v):=by
 refine⟨a.1,?_⟩;have c:=Dr (k:=3) (room:=room) (tv:=tv) (lv:=lv) (mv:=mv) (v:=v) a.1.1 rfl;simp only[dt,du]at c;simp[World.setCell,bO,a.2,c]
theorem HB.kept{a:cG}{room:Int}{tv lv mv:Value}{w w':World}(c:HB a room tv lv mv w)(k:w'.heap[a.b]?=w.heap[a.b]?):HB a room tv lv mv w':=⟨c.1,k.trans c.2⟩
structure bZ (S:Nat->Prop) (w w':World):Prop where
 os:w'.os=w.os
 tape:w'.tape=w.tape
 output:w'.output=w.output
 size:w.heap.size<=w'.heap.size
 block:∀b,b<w.heap.size->¬S b->w'.heap[b]?=w.heap[b]?
theorem bZ.refl(S:Nat->Prop)(w:World):bZ S w w:=⟨rfl,rfl,rfl,ao _,λ_ _ _=>rfl⟩
theorem bZ.trans{S T:Nat->Prop}{w w1 w2:World}(a:bZ S w w1)(k:bZ T w1 w2)(e:∀b,b<w.heap.size->T b->S b):bZ S w w2:=
 ⟨k.os.trans a.os,k.tape.trans a.tape,k.output.trans a.output,aD a.size k.size,λb c d=>(k.block b (aW c a.size) (λf=>d (e b c f))).trans (a.block b c d)⟩
theorem bZ.mono{S T:Nat->Prop}(a:bZ S w w1)(c:∀b,S b->T b):bZ T w w1:=⟨a.os,a.tape,a.output,a.size,λb d e=>a.block b d λk=>e (c b k)⟩
theorem bm(a:Below w.heap.size w w')(S:Nat->Prop):bZ S w w':=⟨a.os,a.tape,a.output,a.size,λb c _=>a.block b c⟩
theorem Dz(a:w.grownBy w' row):bZ (λb=>row=some b) w w':=⟨a.os,a.tape,a.output,a.size,λb c d=>a.block b c λe=>d e.symm⟩
theorem bz(w:World)(q o:Nat)(v:Value):bZ (λb=>b=q) w (w.setCell ⟨q,o,none⟩ v):=
 ⟨rfl,rfl,rfl,by simp[World.setCell],λb _ c=>by
  have:¬q=b:=λa=>c a.symm
  simp[World.setCell,bO,this]⟩
def mapBlock:Value->Option Nat
 | .map (some b)=>some b
 | _=>none
theorem wb:Keyed Tryz.prog 9:=string_keyed underlying9
theorem sf(w:World):(zeroValue 3).run Tryz.prog w=.ok (.int .i64 0) w:=by kernel_rfl
def strCells(l:List ByteArray):List Value:=l.map .string
def si(D:DataW Unit)(nm:List ByteArray):Prop:=∀s:ByteArray,(Maps.has D (.string s.data.toList)=true ↔ s∈nm)/\∀i:Nat,nm[i]?=some s->D.atKey (.string s.data.toList) (.lit (.int .i64 0))=.lit (.int .i64 i)
def j8(base:Nat)(nm:List ByteArray)(lv mv:Value)(w:World):Prop:=
 w.ownsRow base 9 1 lv nm.length (strCells nm)/\nm.Nodup/\
 ((mv=.map none/\nm=[]/\lv=.slice none 0 0)\/∃a b,mv=.map (some a)/\base<=a/\w.ownsMap Tryz.prog 9 (plainElem Tryz.prog 3) a nm.length b/\si b nm/\lv.ownBlock≠some a)
theorem j8.kept{base:Nat}{nm:List ByteArray}{lv mv:Value}{w w':World}{S:Nat->Prop}(n:j8 base nm lv mv w)(k:bZ S w w')(o:∀b,lv.ownBlock=some b->¬S b)(p:∀b,mapBlock mv=some b->¬S b):j8 base nm lv mv w':=by
 obtain⟨h,x,f⟩:=n;have v:w'.ownsRow base 9 1 lv nm.length (strCells nm):=by
  refine⟨h.1,?_⟩;rcases h.2 with⟨c,m⟩|⟨d,cap,l,c,r,a,e⟩
  ·exact ai ⟨c,m⟩
  ·exact aj ⟨d,cap,l,c,r,(k.block d (aJ.1 a).1 (o d (by rw[c];rfl))).trans a,e⟩
 refine⟨v,x,?_⟩;rcases f with f|⟨g,i,rfl,q,s,t,u⟩
 ·exact ai f
 ·refine aj ⟨g,i,rfl,q,?_,t,u⟩;obtain⟨es,j,a,e⟩:=s;exact⟨es,j,(k.block g (aJ.1 a).1 (p g rfl)).trans a,e⟩
theorem DP{nm:List ByteArray}(d:si D nm){c:Int}(e:s∈nm)(a:D.atKey (.string s.data.toList) (.lit (.int .i64 0))=.lit (.int .i64 c)):∃i:Nat,nm[i]?=some s/\c=i:=by
 obtain⟨i,b⟩:=dd e;have:=(d s).2 i b;rw[this]at a;simp at a;exact⟨i,b,a.symm⟩
theorem DN(a:cG)(room:Int)(tv lv:Value)(d:Nat)(D:DataW Unit)(nm:List ByteArray)(s:ByteArray)(w:World)(j:Hid (HB a room tv lv (.map (some d)) w))(l:Hid (w.ownsMap Tryz.prog 9 (plainElem Tryz.prog 3) d nm.length D))(f:Hid (si D nm))(h:Hid (s∈nm))(x:s.size<=2048):Calls Tryz.prog 147 #[.pointer (some ⟨a.b,a.o+2,none⟩),.string s] w λe w'=>∃i:Nat,e=.returned (.int .i64 i)/\Hid (nm[i]?=some s)/\w'=w:=by
 have m:Maps.has D (.string s.data.toList)=true:=((f s).1).2 h;obtain⟨⟨q,r,t,u⟩,v⟩:=j.cells;go_enter func147,ntmps147;go_wp2_with (at_lookup;refine wpList_lookup_own_ok_int _ rfl _ _ 103 rfl 9 3 .i64 wb underlying103 underlying3 (sf _) d nm.length D rfl l _ _ rfl (mU underlying9 (by unfold maxLen;omega)) ?_;intro c g p;have k:=au (DP f h g);clear g p;rw[m]);obtain⟨i,n,rfl⟩:=k
 go_ret
 exact⟨i,rfl,n,rfl⟩
def qV(base:Nat)(d:cG)(room:Int)(tv lv mv:Value)(nm:List ByteArray)(s:ByteArray)(w w':World)(a c:Value):Prop:=
 HB d room tv a c w'/\j8 base (nm++ [s]) a c w'/\bZ (λb=>b=d.b\/lv.ownBlock=some b\/mapBlock mv=some b) w w'/\
 (∀b,a.ownBlock=some b->lv.ownBlock=some b\/w.heap.size<=b)/\∀b,mapBlock c=some b->mapBlock mv=some b\/w.heap.size<=b
theorem vd:(Tryz.prog.info? 9).map (λi=>(i.zero,i.size,i.bytes))=some (some (.string .empty),1,16):=by kernel_rfl
theorem Fr(l:List UInt8):WideAt.IsKeyLit (.string l):=by first|trivial|simp[WideAt.IsKeyLit]|decide
theorem BD{nm:List ByteArray}(m:HB d room tv lv (.map (some f)) w)(Q:base<=f)(R:nm.Nodup)(A:si D nm)(E:s∉nm)(ad:s.size<=maxLen)(O:lv.ownBlock≠some f)(C:w.ownsRow base 9 1 lv nm.length (strCells nm))(r:w.ownsMap Tryz.prog 9 (plainElem Tryz.prog 3) f nm.length D)(n:Below w.heap.size w w1)(S:w2.ownsRow base 9 1 (.slice (some ⟨g,0,none⟩) (nm.length+1) c) (nm.length+1) (strCells nm++ [.string s]))(p:(w1.alloc o).grownBy w2 lv.ownBlock)(v:lv.ownBlock=some g\/g=w1.heap.size+1)(P:w4.ownsMap Tryz.prog 9 (plainElem Tryz.prog 3) f (nm.length+1) (D.put (.string s.data.toList) (.lit (.int .i64 nm.length))))(k:(w2.setCell ⟨d.b,d.o+2,none⟩ (.slice (some ⟨g,0,none⟩) (nm.length+1) c)).grownBy w4 (some f)):qV base d room tv lv (.map (some f)) nm s w w4 (.slice (some ⟨g,0,none⟩) (nm.length+1) c) (.map (some f)):=by
 have M:=m.lt;have aa:=r.lt;have ab:=n.size;have es:(w1.alloc o).heap.size=w1.heap.size+1:=by simp
 have Z:=p.size;have T:d.b≠f:=by
  rintro rfl;obtain⟨es,W,x,_⟩:=r;have e:w.heap[d.b]?=_:=m.2;rw[x]at e;cases e
 have B:lv.ownBlock≠some d.b:=λa=>by
  rcases C.2 with⟨rfl,_⟩|⟨Y,cap,X,rfl,_,x,_⟩
  ·simp[Value.ownBlock]at a
  ·simp[Value.ownBlock]at a;subst a;have e:w.heap[d.b]?=_:=m.2;rw[x]at e;injection e with e;injection e with e G;exact m.ty.1 G.symm
 have q:∀b,lv.ownBlock=some b->b<w.heap.size:=λb a=>(C.lt b a).2;have L:g≠d.b:=by
  rintro rfl;rcases v with a|a
  ·exact B a
  ·omega
 have z:g≠f:=by
  rintro rfl;rcases v with a|a
  ·exact O a
  ·omega
 have e:∀b,b<w.heap.size->lv.ownBlock≠some b->w2.heap[b]?=w.heap[b]? :=λb j h=>((p.block b (by omega) (λa=>h a.symm)).trans ((cX w1 o none).block b (by omega) (by simp))).trans (n.block b j);have y:=bz w2 d.b (d.o+2) (.slice (some ⟨g,0,none⟩) (nm.length+1) c);have U:=y.size;have ae:=k.size;have H:HB d room tv lv (.map (some f)) w2:=m.kept (e d.b M B);have I:=H.set2 (.slice (some ⟨g,0,none⟩) (nm.length+1) c);have J:HB d room tv (.slice (some ⟨g,0,none⟩) (nm.length+1) c) (.map (some f)) w4:=I.kept (k.block d.b (by omega) (λa=>T (aA a)));refine⟨J,⟨?_,?_,aj ⟨f,_,rfl,Q,by simpa using P,?_,?_⟩⟩,⟨?_,?_,?_,?_,?_⟩,?_,?_⟩
 ·have a:strCells (nm++ [s])=strCells nm++ [.string s]:=by simp[strCells]
  rw[a,bw];have N:w2.grownBy (w2.setCell ⟨d.b,d.o+2,none⟩ (.slice (some ⟨g,0,none⟩) (nm.length+1) c)) (some d.b):=⟨rfl,rfl,rfl,U,λb j h=>y.block b j (λa=>h (by rw[a]))⟩;refine pH (pH S N (aj ?_)) k (aj ?_)
  ·simp only[Value.ownBlock];exact λa=>L (aA a)
  ·simp only[Value.ownBlock];exact λa=>z (aA a)
 ·rw[fz];refine⟨R,by simp,λV K b j=>?_⟩;simp at j;subst j;exact λa=>E (a▸K)
 ·intro t;by_cases u:t=s
  ·subst u;refine⟨?_,λl i=>?_⟩
   ·rw[has_put_same r.isMap (Fr _)];simp
   ·rw[atKey_put_same r.isMap (Fr _)];have:l=nm.length:=by
     by_cases q:l<nm.length
     ·rw[dx q]at i;exact absurd (aN i) E
     ·have:=(aX.1 i).1;simp at this;omega
    rw[this]
  ·have h:(Lit.string t.data.toList)≠(Lit.string s.data.toList):=λa=>u (by
     injection a with a;cases t;cases s;simp only at a
     rw[Array.toList_inj.1 a])
   refine⟨?_,λl i=>?_⟩
   ·rw[has_put_other h,(A t).1];simp[u]
   ·rw[atKey_put_other h];refine(A t).2 l ?_;by_cases q:l<nm.length
    ·rw[dx q]at i;exact i
    ·have F:=(aX.1 i).1;simp at F;have:l=nm.length:=by omega
     subst this;simp at i;exact absurd i.symm u
 ·simp only[Value.ownBlock];exact λa=>z (aA a)
 ·exact(k.os.trans p.os).trans n.os
 ·exact(k.tape.trans p.tape).trans n.tape
 ·exact(k.output.trans p.output).trans n.output
 ·omega
 ·intro b j h;simp only[mapBlock,not_or]at h;exact(k.block b (by omega) (λa=>h.2.2 a.symm)).trans ((y.block b (by omega) h.1).trans (e b j h.2.1))
 ·intro b a;simp only[Value.ownBlock]at a;obtain rfl:=aA a;rcases v with a|a
  ·exact ai a
  ·exact aj (by omega)
 ·exact λb a=>ai a
theorem vG(w:World)(s:ByteArray):∀j u,[Value.string s][j]?=some u->(w.alloc (.cells #[.string s] 9)).cell? ((⟨w.heap.size,0,none⟩:Addr).add j)=some u:=by
 intro j u a;rw[fu];cases j with
 | zero=>simp at a;subst a;simp[go_sem]
 | succ j=>simp at a
theorem BC{nm:List Value}(h:w.ownsRow base 9 1 lv n nm)(c:HB d room tv p mv w):lv.ownBlock≠some d.b:=λe=>by
 rcases h.2 with⟨rfl,_⟩|⟨j,cap,i,rfl,_,g,_⟩
 ·simp[Value.ownBlock]at e
 ·simp[Value.ownBlock]at e;subst e;have a:w.heap[d.b]?=_:=c.2;rw[g]at a;injection a with a;injection a with a f;exact c.ty.1 f.symm
theorem tj(i:d.b<w1.heap.size)(k:lv.ownBlock≠some d.b)(h:(w1.alloc o).grownBy w2 lv.ownBlock)(g:∀j,w1.frozen? ⟨d.b,j,none⟩=false)(f:w1.cell? ⟨d.b,d.o+2,none⟩=some v):w2.cell? ⟨d.b,d.o+2,none⟩=some v/\w2.frozen? ⟨d.b,d.o+2,none⟩=false:=by
 have c:w2.heap[d.b]?=w1.heap[d.b]? :=(h.block d.b (by simp;omega) (λe=>k e.symm)).trans ((cX w1 o none).block d.b i (by simp));exact⟨(bD c _).trans f,(js (a:=⟨d.b,d.o+2,none⟩) c).trans (g _)⟩
theorem ti(g:d.b<w1.heap.size)(h:lv.ownBlock≠some d.b)(f:(w1.alloc o).grownBy w2 lv.ownBlock)(e:w1.cell? ⟨d.b,d.o+3,none⟩=some v):w2.cell? ⟨d.b,d.o+3,none⟩=some v:=by
 have c:w2.heap[d.b]?=w1.heap[d.b]? :=(f.block d.b (by simp;omega) (λa=>h a.symm)).trans ((cX w1 o none).block d.b g (by simp));exact(bD c _).trans e
theorem xE(h:w1.ownsMap Tryz.prog 9 (plainElem Tryz.prog 3) f L D)(i:d.b≠f)(g:lv.ownBlock≠some f)(e:(w1.alloc o).grownBy w2 lv.ownBlock)(v:Value):(w2.setCell ⟨d.b,d.o+2,none⟩ v).ownsMap Tryz.prog 9 (plainElem Tryz.prog 3) f L D:=
 (((h.alloc o).kept e (λc=>g c.symm))).setCell (a:=⟨d.b,d.o+2,none⟩) (λc=>i c.symm) v
theorem DM(base:Nat)(a:cG)(room:Int)(tv lv:Value)(O:Option Addr)(P L:Nat)(d:Nat)(D:DataW Unit)(nm:List ByteArray)(s:ByteArray)(w:World)(ah:lv=.slice O L P)(Q:Hid (nm.length=L))(ax:L<=100000)(f:Hid (HB a room tv lv (.map (some d)) w))(ai:Hid (base<=d))(ay:base<=w.heap.size)(aj:Hid (nm.Nodup))(k:Hid (w.ownsMap Tryz.prog 9 (plainElem Tryz.prog 3) d L D))(u:Hid (si D nm))(I:Hid (s∉nm))(ak:s.size<=2048)(E:Hid (lv.ownBlock≠some d))(q:Hid (w.ownsRow base 9 1 lv L (strCells nm))):Calls Tryz.prog 147 #[.pointer (some ⟨a.b,a.o+2,none⟩),.string s] w λe w'=>e=.returned (.int .i64 L)/\∃an ao,Hid (qV base a room tv lv (.map (some d)) nm s w w' an ao):=by
 subst ah;have af:Maps.has D (.string s.data.toList)=false:=by
  cases h:Maps.has D (.string s.data.toList)
  ·rfl
  ·exact absurd (((u s).1).1 h) I
 obtain⟨am,C,J,K,M⟩:=bW vd;have l:=au (⟨C,J,K,M⟩:_/\_/\_/\_);clear C J K M;obtain⟨⟨U,V,r,W⟩,ab⟩:=f.out.cells;have az:∀(w:World)(m:Option Nat),(binOp .eql 103 (.map m) (.map none)).run Tryz.prog w=.ok (.bool m.isNone) w:=λw m=>run_eql_map_nil w _ _ _ m underlying103;go_enter func147,ntmps147;go_wp2_with (at_lookup;refine wpList_lookup_own_ok_int _ rfl _ _ 103 rfl 9 3 .i64 wb underlying103 underlying3 (sf _) d L D rfl k _ _ rfl (mU underlying9 (by unfold maxLen;omega)) ?_;intro c aa al;clear aa al;rw[af]);refine(dW s _ ak).mono ?_;rintro e j ⟨rfl,g⟩;have A:a.b<w.heap.size:=f.lt;have p:=au g;obtain⟨⟨aq,d1,X,Y⟩,ad⟩:=(f.kept (g.block a.b A)).cells;have B:a.b<j.heap.size:=aW A g.size;have T:Hid (a.b≠d):=by
  rintro rfl;obtain⟨es,ap,ae,_⟩:=k.out;have x:w.heap[a.b]?=_:=f.2;rw[ae]at x;cases x
 have v:Hid ((Value.slice O L P).ownBlock≠some a.b):=BC q f;have R:Hid (j.ownsMap Tryz.prog 9 (plainElem Tryz.prog 3) d L D):=k.kept (cV g none) (by simp);clear g U V r W ab
 go_wp2_with (first
  | (at_builtin;refine wpList_append_lies _ rfl _ _ 102 rfl base 9 am _ 1 16 underlying102 l.1 l.2.1 l.2.2.1 l.2.2.2 rfl (by decide) _ L _ rfl ((dY q p).alloc _) ⟨j.heap.size,0,none⟩ 1 1 [.string s] rfl rfl (vG j s) (by intro aA N;simp at N;subst N;rfl) (by decide) (by unfold maxLen;omega) (by omega) (by have:=p.size;simp;omega) (j.heap.size+1) (by simp) ?_;intro Z r aB G i y F;have n:=au (⟨G,i,y,F⟩:_/\_/\_/\_);obtain⟨ar,aw⟩:=tj B v i ad X;have av:=ti B v i Y;have S:=au (xE R T E i (.slice (some ⟨Z,0,none⟩) (L+1) r));clear G i y F)
  | (at_mapUpdate;refine wpList_mapUpdate_own _ rfl _ _ _ 103 rfl 9 3 wb underlying103 (plainElem Tryz.prog 3) d L D rfl S (by unfold maxLen;omega) _ _ _ rfl rfl (mU underlying9 (by unfold maxLen;omega)) (.lit (.int .i64 L)) [] (plainElem_int underlying3 (iF (by omega))) ?_;intro aC H z;have t:=au (⟨H,z⟩:_/\_);clear H z))
 go_ret
 have ag:=Q.out;subst ag;exact⟨rfl,_,_,BD f ai aj u I (by unfold maxLen;omega) E q k p n.1 n.2.1 n.2.2.1 t.1 t.2⟩
theorem Dh{e:Value}{wA:World}(f:qV base d room tv lv (.map (some w.heap.size)) [] s wA w4 p e)(k:bZ (λb=>b=d.b) w wA)(n:wA.heap.size=w.heap.size+1):qV base d room tv lv (.map none) [] s w w4 p e:=by
 obtain⟨g,h,i,j,l⟩:=f;refine⟨g,h,?_,?_,?_⟩
 ·refine(k.mono λb c=>ai c).trans i λb c m=>?_;rcases m with a|a|a
  ·exact ai a
  ·exact aj (ai a)
  ·simp only[mapBlock]at a;have:=aA a;omega
 ·intro b a;rcases j b a with a|a
  ·exact ai a
  ·exact aj (by omega)
 ·intro b a;rcases l b a with a|a
  ·simp only[mapBlock]at a;have:=aA a;exact aj (by omega)
  ·exact aj (by omega)
theorem Kl:si (.map []) []:=λs=>⟨by simp[Maps.has],λi a=>by simp at a⟩
theorem zC(base:Nat)(a:cG)(room:Int)(tv lv:Value)(s:ByteArray)(w:World)(X:lv=.slice none 0 0)(k:Hid (HB a room tv lv (.map none) w))(S:base<=w.heap.size)(ab:s.size<=2048):Calls Tryz.prog 147 #[.pointer (some ⟨a.b,a.o+2,none⟩),.string s] w λe w'=>e=.returned (.int .i64 0)/\∃ae af,Hid (qV base a room tv lv (.map none) [] s w w' ae af):=by
 subst X;obtain⟨ad,v,B,C,D⟩:=bW vd;have h:=au (⟨v,B,C,D⟩:_/\_/\_/\_);clear v B C D;obtain⟨⟨M,N,l,O⟩,T⟩:=k.out.cells;have V:a.b<w.heap.size:=k.lt;have am:∀(w:World)(i:Option Nat),(binOp .eql 103 (.map i) (.map none)).run Tryz.prog w=.ok (.bool i.isNone) w:=λw i=>run_eql_map_nil w _ _ _ i underlying103;have W:(Instr.lookup 103 (.map none) (.string s) true).run Tryz.prog w=.ok (.tuple #[.int .i64 0,.bool false]) w:=by
  simpa using Maps.look_nil (w:=w) true wb underlying103 (sf _) (mU underlying9 (show s.size<=maxLen by unfold maxLen;omega))
 have Y:= @run_makeMap Tryz.prog;go_enter func147,ntmps147;go_wp2_with fail;generalize F:(w.setCell ⟨a.b,a.o+3,none⟩ (.map (some w.heap.size))).alloc (.map #[] 0)=wA;have c:Hid (HB a room tv (.slice none 0 0) (.map (some w.heap.size)) wA/\wA.ownsMap Tryz.prog 9 (plainElem (H:=Unit) Tryz.prog 3) w.heap.size 0 (.map [])/\bZ (λb=>b=a.b) w wA/\wA.heap.size=w.heap.size+1):=by
  subst F;have es:(w.setCell ⟨a.b,a.o+3,none⟩ (.map (some w.heap.size))).heap.size=w.heap.size:=by simp[World.setCell]
  have y:=pG (w.setCell ⟨a.b,a.o+3,none⟩ (.map (some w.heap.size))) Tryz.prog 9 (plainElem (H:=Unit) Tryz.prog 3);rw[es]at y;refine⟨(k.set3 (.map (some w.heap.size))).kept ((cX _ _ none).block a.b (by rw[es];exact V) (by simp)),y,⟨rfl,rfl,rfl,by simp[World.setCell],λb q Z=>?_⟩,by simp[World.setCell]⟩;exact((cX _ _ none).block b (by rw[es];exact q) (by simp)).trans ((bz w a.b (a.o+3) (.map (some w.heap.size))).block b q Z)
 clear F M N l O T W Y;refine(dW s _ ab).mono ?_;rintro e f ⟨rfl,d⟩;have u:a.b<wA.heap.size:=c.1.lt;have G:=au d;obtain⟨⟨ag,d1,P,Q⟩,U⟩:=(c.1.kept (d.block a.b u)).cells;have t:a.b<f.heap.size:=aW u d.size;have L:Hid (a.b≠w.heap.size):=by unfold Hid;omega
 have n:Hid ((Value.slice none 0 0).ownBlock≠some a.b):=by simp[Hid,Value.ownBlock]
 have J:Hid (f.ownsMap Tryz.prog 9 (plainElem (H:=Unit) Tryz.prog 3) w.heap.size 0 (.map [])):=c.2.1.kept (cV d none) (by simp);have I:Hid (base<=f.heap.size):=by have ak:=c.2.2.2;have al:=d.size;unfold Hid;omega
 clear d
 go_wp2_with (first
  | (at_builtin;refine wpList_append_lies _ rfl _ _ 102 rfl base 9 ad _ 1 16 underlying102 h.1 h.2.1 h.2.2.1 h.2.2.2 rfl (by decide) _ 0 [] rfl (eP _ _ _ _) ⟨f.heap.size,0,none⟩ 1 1 [.string s] rfl rfl (vG f s) (by intro an E;simp at E;subst E;rfl) (by decide) (by unfold maxLen;omega) (by omega) (by have:=I.out;simp;omega) (f.heap.size+1) (by simp) ?_;intro R l ao z g p x;have j:=au (⟨z,g,p,x⟩:_/\_/\_/\_);obtain⟨ah,aj⟩:=tj t n g U P;have ai:=ti t n g Q;have K:=au (xE (lv:=.slice none 0 0) J L (by simp[Value.ownBlock]) g (.slice (some ⟨R,0,none⟩) (0+1) l));clear z g p x)
  | (at_mapUpdate;refine wpList_mapUpdate_own _ rfl _ _ _ 103 rfl 9 3 wb underlying103 (plainElem Tryz.prog 3) w.heap.size 0 (.map []) rfl K (by unfold maxLen;omega) _ _ _ rfl rfl (mU underlying9 (by unfold maxLen;omega)) (.lit (.int .i64 0)) [] (plainElem_int underlying3 (iF (by omega))) ?_;intro ap A r;have m:=au (⟨A,r⟩:_/\_);clear A r))
 go_ret
 have aa:=BD (nm:=[]) c.1 S (by simp) Kl (by simp) (show s.size<=maxLen by unfold maxLen;omega) (by simp[Value.ownBlock]) (eP _ _ _ _) c.2.1 G j.1 j.2.1 j.2.2.1 m.1 m.2;exact⟨rfl,_,_,Dh aa c.2.2.1 c.2.2.2⟩
theorem DL(base:Nat)(a:cG)(room:Int)(tv lv mv:Value)(nm:List ByteArray)(s:ByteArray)(w:World)(g:HB a room tv lv mv w)(J:j8 base nm lv mv w)(C:base<=w.heap.size)(I:nm.length<=100000)(r:s.size<=2048):Calls Tryz.prog 147 #[.pointer (some ⟨a.b,a.o+2,none⟩),.string s] w λe w'=>∃i:Nat,e=.returned (.int .i64 i)/\∃j d f,Hid (j[i]?=some s/\(j=nm\/j=nm++ [s])/\HB a room tv d f w'/\j8 base j d f w'/\bZ (λb=>b=a.b\/lv.ownBlock=some b\/mapBlock mv=some b) w w'/\ (∀b,d.ownBlock=some b->lv.ownBlock=some b\/w.heap.size<=b)/\∀b,mapBlock f=some b->mapBlock mv=some b\/w.heap.size<=b):=by
 obtain⟨m,B,H⟩:=J;rcases H with⟨rfl,rfl,n⟩|⟨h,k,rfl,E,p,q,D⟩
 ·refine(zC base a room tv lv s w n g C r).mono ?_;rintro e w' ⟨rfl,d,f,l⟩;obtain⟨t,u,v,x,y⟩:=l.out;exact⟨0,rfl,[s],d,f,rfl,aj rfl,t,u,v,x,y⟩
 ·by_cases F:s∈nm
  ·refine(DN a room tv lv h k nm s w g p q F r).mono ?_;rintro e w' ⟨i,rfl,K,rfl⟩;exact⟨i,rfl,nm,lv,.map (some h),K,ai rfl,g,⟨m,B,aj ⟨h,k,rfl,E,p,q,D⟩⟩,bZ.refl _ _,λb e=>ai e,λb e=>ai e⟩
  ·obtain⟨z,A,n⟩:∃z A,lv=.slice z nm.length A:=by
     rcases m.2 with⟨e,G⟩|⟨M,c,L,e,_⟩
     ·exact⟨none,0,by rw[e,G]⟩
     ·exact⟨_,c,e⟩
   refine(DM base a room tv lv z A nm.length h k nm s w n rfl I g E C B p q F r D m).mono ?_;rintro e w' ⟨rfl,d,f,l⟩;obtain⟨t,u,v,x,y⟩:=l;exact⟨nm.length,rfl,nm++ [s],d,f,by simp,aj rfl,t,u,v,x,y⟩
abbrev Wd:=Int×Int
def p9(x:Wd):List av:=[ab x.1,ab x.2]
def bk(l:List Wd):List av:=l.flatMap p9
theorem cI(l:List Wd):(bk l).length=l.length*2:=by
 induction l with
 | nil=>rfl
 | cons a l ih=>
  have:bk (a::l)=p9 a++bk l:=rfl;rw[this,bw,ih,br];have:(p9 a).length=2:=rfl;omega
theorem p7(l r:List Wd):bk (l++r)=bk l++bk r:=by simp[bk]
theorem qM(l:List Wd):∀u∈bk l,u.oneCell'=true:=by
 intro u a;simp only[bk,jN]at a;obtain⟨b,_,a⟩:=a;simp[p9]at a;rcases a with rfl|rfl<;>rfl
theorem ji(l:List Wd)(k:Nat)(x:Wd)(a:l[k]?=some x)(j:Nat)(e:j<2):(bk l)[k*2+j]?=(p9 x)[j]? :=by
 induction l generalizing k with
 | nil=>simp at a
 | cons b l ih=>
  have c:bk (b::l)=p9 b++bk l:=rfl;have d:(p9 b).length=2:=rfl;rw[c];cases k with
  | zero=>
   simp at a;subst a;rw[dx (by omega)];simp
  | succ k=>
   rw[eq (by omega),d,show (k+1)*2+j-2=k*2+j by omega];exact ih k (by simpa using a)
theorem lp:(Tryz.prog.info? 109).map (λi=>(i.zero,i.size,i.bytes))=some (some (.agg #[ab 0,ab 0]),2,16):=by kernel_rfl
theorem Lc(w:ag)(x:Wd):∀j u,(p9 x)[j]?=some u->(w.alloc (.cells #[ab x.1,ab x.2] 109)).cell? ((⟨w.heap.size,0,none⟩:Addr).add j)=some u:=by
 intro j u a;rw[fu];have:j<2:=(aX.1 a).1;have b:j=0\/j=1:=by omega
 rcases b with rfl|rfl<;>simp[p9]at a<;>subst a<;>simp[go_sem]
theorem Ng(x:Wd):∀u∈p9 x,u.oneCell'=true:=by
 intro u a;simp[p9]at a;rcases a with rfl|rfl<;>rfl
theorem sM(w:ag)(t u ty e a:TypeId)(f:P.underlying t=some (.slice e))(g:P.underlying u=some (.slice a))(i:TypeInfo)(d:P.info? e=some i)(b xa:aw)(n c m xc:Nat):(Builtin.append_ #[t,u] ty #[ae b n c,ae xa m xc]).run P w=(Builtin.append_ #[t,t] ty #[ae b n c,ae xa m xc]).run P w:=by
 simp[Builtin.append_,cC f,cC g,sizeOf,typeInfo,d,Builtin.lenOf]
theorem nS(w:ag)(t u ty e c:TypeId)(i:TypeInfo)(j:P.underlying t=some (.slice e))(k:P.underlying u=some (.slice c))(f:P.info? e=some i)(b xa:aw)(n cap xc:Nat)(h:n<=cap):(Builtin.append_ #[t,u] ty #[ae b n cap,ae xa 0 xc]).run P w=.ok (ae b n cap) w:=by
 have g:∀a:Addr,(loadCells a 0).run P w=.ok #[] w:=λa=>run_loadCells_list (P:=P) w a [] (λl m d=>by simp at d);cases b<;>cases xa<;>simp[Builtin.append_,cC j,cC k,sizeOf,typeInfo,f,Builtin.lenOf,Builtin.firstCells,h,storeCells,g]
def fm(w:ag)(ps:List Wd)(xa:aw):Prop:=ps=[]\/∃ad,xa=some ad/\∀j u,(bk ps)[j]?=some u->w.cell? (ad.add j)=some u
variable{ps:List Wd}
theorem sN{v:av}{w:ag}(ty:TypeId)(c:w.ownsRow base 109 2 v n xs)(t:fm w ps xa)(g:ps.length=m)(z:n+m<=200000)(q:base<=w.heap.size):∃a w',(Builtin.append_ #[101,100] ty #[v,ae xa m xc]).run Tryz.prog w=.ok a w'/\w'.ownsRow base 109 2 a (n+m) (xs++bk ps)/\w.grownBy w' v.ownBlock/\(a.ownBlock=v.ownBlock\/a.ownBlock=some w.heap.size):=by
 obtain⟨f,d,u,x,y⟩:=bW lp;rcases t with rfl|⟨ad,rfl,r⟩
 ·obtain rfl:m=0:=g.symm;obtain⟨b,cap,e,s⟩:∃b cap,v=ae b n cap/\n<=cap:=by
   rcases c.2 with⟨rfl,rfl⟩|⟨i,cap,h,rfl,_,_,j,_⟩
   ·exact⟨none,0,rfl,ao _⟩
   ·exact⟨_,cap,rfl,j⟩
  subst e;refine⟨_,w,nS w _ _ ty _ _ f underlying101 underlying100 d b xa n cap xc s,by simpa [bk]using c,gI _ _,ai rfl⟩
 ·obtain⟨b,cap,e⟩:∃b cap,v=ae b n cap:=by
    rcases c.2 with⟨rfl,rfl⟩|⟨i,cap,h,rfl,_⟩
    ·exact⟨none,0,rfl⟩
    ·exact⟨_,cap,rfl⟩
  subst e;rw[sM w _ _ ty _ _ underlying101 underlying100 f d];obtain⟨a,w',k,l,o,_,p⟩:=run_append_own_at (P:=Tryz.prog) w base 101 ty 109 f _ 2 16 underlying101 d u x y rfl (by decide) _ n xs c ad m xc (bk ps) (by rw[cI,g]) r (qM _) (by unfold maxLen;omega) (by omega) q;exact⟨a,w',k,l,o,p⟩
theorem pR{w:ag}{c:Array Oper}{d:List Oper}{o:Oper}{a:Act}{Q:Exit->Act->ag->Prop}(l:o.guard=none)(s x:Operand)(q:o.op=.call {callee:=.builtin .append,args:= #[s,x],argTypes:= #[101,100]}){v:av}(u:a.eval s=v)(z:a.eval x=ae xa m xc)(r:w.ownsRow base 109 2 v n xs)(y:fm w ps xa)(p:ps.length=m)(h:n+m<=200000)(k:base<=w.heap.size)(i:∀b w',w'.ownsRow base 109 2 b (n+m) (xs++bk ps)->w.grownBy w' v.ownBlock->(b.ownBlock=v.ownBlock\/b.ownBlock=some w.heap.size)->wpList Tryz.prog c Q d (a.put o.dst b) w'):wpList Tryz.prog c Q (o::d) a w:=
 wpList_plain l λA j=>by
  obtain⟨b,w',t,e,f,g⟩:=sN (xc:=xc) o.type r y p h k;unfold Oper.wp execOp;simp only[q,resolve,invoke,builtin,kV,Sem.run_pure,kU,mX,aU,ci,u,z,t];exact j _ _ (i b w' e f g)
def Nm(base a po:Nat)(tv:av)(ws ps:List Wd)(w w':ag)(c:av):Prop:=
 w'.ownsRow base 109 2 c (ws.length+1+ps.length) (bk (ws++(0,(ps.length:Int))::ps))/\w'.heap[a]?=(w.setCell ⟨a,po,none⟩ c).heap[a]? /\
 bZ (λb=>b=a\/tv.ownBlock=some b) w w'/\∀b,c.ownBlock=some b->(tv.ownBlock=some b\/w.heap.size<=b)
theorem FS{v:av}{w w2:ag}(h:f<w.heap.size)(i:row≠some f)(d:((w.alloc o).alloc k).grownBy w2 row)(e:w.cell? ⟨f,po,none⟩=some v)(g:w.frozen? ⟨f,po,none⟩=false):w2.cell? ⟨f,po,none⟩=some v/\w2.frozen? ⟨f,po,none⟩=false/\f<w2.heap.size:=by
 have b:((w.alloc o).alloc k).heap.size=w.heap.size+2:=by simp
 have c:w2.heap[f]?=w.heap[f]? :=((d.block f (by omega) (λb=>i b.symm)).trans ((cX (w.alloc o) k none).block f (by simp;omega) (by simp))).trans ((cX w o none).block f h (by simp));have:=d.size;exact⟨(bD c po).trans e,(js (a:=⟨f,po,none⟩) c).trans g,by omega⟩
theorem LM{tv:av}{pa:aw}{w w2:ag}(u:f<w.heap.size)(s:base<=w.heap.size)(g:tv.ownBlock≠some f)(q:w2.ownsRow base 109 2 (ae (some ⟨h,0,none⟩) (L+1) j) (L+1) ys)(c:((w.alloc o).alloc k).grownBy w2 tv.ownBlock)(i:tv.ownBlock=some h\/h=w.heap.size+2)(po:Nat)(r:∀w1,bZ (λb=>b=f\/tv.ownBlock=some b) w w1->fm w1 ps pa):(w2.setCell ⟨f,po,none⟩ (ae (some ⟨h,0,none⟩) (L+1) j)).ownsRow base 109 2 (ae (some ⟨h,0,none⟩) (L+1) j) (L+1) ys/\fm (w2.setCell ⟨f,po,none⟩ (ae (some ⟨h,0,none⟩) (L+1) j)) ps pa/\base<=(w2.setCell ⟨f,po,none⟩ (ae (some ⟨h,0,none⟩) (L+1) j)).heap.size:=by
 have n:h≠f:=by
  rintro rfl;rcases i with a|a
  ·exact g a
  ·omega
 have a:((w.alloc o).alloc k).heap.size=w.heap.size+2:=by simp
 have t:=c.size;have d:=bz w2 f po (ae (some ⟨h,0,none⟩) (L+1) j);have p:bZ (λb=>b=f\/tv.ownBlock=some b) w (w2.setCell ⟨f,po,none⟩ (ae (some ⟨h,0,none⟩) (L+1) j)):=by
  refine⟨?_,?_,?_,?_,?_⟩
  ·exact c.os
  ·exact c.tape
  ·exact c.output
  ·have:=d.size;omega
  ·intro b l e;simp only[not_or]at e;exact(d.block b (by omega) e.1).trans (((c.block b (by omega) (λa=>e.2 a.symm)).trans ((cX (w.alloc o) k none).block b (by simp;omega) (by simp))).trans ((cX w o none).block b l (by simp)))
 refine⟨pH q (row:=some f) ⟨rfl,rfl,rfl,d.size,λb m g=>d.block b m (λa=>g (by rw[a]))⟩ (aj ?_),r _ p,by have:=d.size;omega⟩;simp only[Value.ownBlock];exact λa=>n (aA a)
theorem I3{tv:av}{w w2 w4:ag}{v0 v1 u:av}(B:f<w.heap.size)(y:w.ownsRow base 109 2 tv L xs)(x:tv.ownBlock≠some f)(i:((w.alloc (.cells #[v0,v1] 109)).alloc k).grownBy w2 tv.ownBlock)(g:tv.ownBlock=some h\/h=w.heap.size+2)(r:(w2.setCell ⟨f,po,none⟩ (ae (some ⟨h,0,none⟩) l j)).grownBy w4 (Value.slice (some ⟨h,0,none⟩) l j).ownBlock)(p:w2.cell? ⟨f,po,none⟩=some u)(q:w2.frozen? ⟨f,po,none⟩=false):(w4.cell? ⟨w.heap.size,0,none⟩=some v0/\w4.cell? ⟨w.heap.size,1,none⟩=some v1)/\(w4.frozen? ⟨w.heap.size,0,none⟩=false/\w4.frozen? ⟨w.heap.size,1,none⟩=false)/\w4.cell? ⟨f,po,none⟩=some (ae (some ⟨h,0,none⟩) l j)/\w4.frozen? ⟨f,po,none⟩=false:=by
 have m:∀b,tv.ownBlock=some b->b<w.heap.size:=λb c=>(y.lt b c).2;have c:((w.alloc (.cells #[v0,v1] 109)).alloc k).heap.size=w.heap.size+2:=by simp
 have A:=i.size;have o:=bz w2 f po (ae (some ⟨h,0,none⟩) l j);have C:=o.size;have t:h≠w.heap.size:=by
  rintro rfl;rcases g with c|c
  ·have:=m _ c;omega
  ·omega
 have s:h≠f:=by
  rintro rfl;rcases g with c|c
  ·exact x c
  ·omega
 have e:∀b,b<w2.heap.size->b≠h->w4.heap[b]?=(w2.setCell ⟨f,po,none⟩ (ae (some ⟨h,0,none⟩) l j)).heap[b]? :=λb z v=>r.block b (by omega) (λc=>v (aA c));have d:w4.heap[w.heap.size]?=some (.cells #[v0,v1] 109):=by
  refine(e _ (by omega) (λc=>t c.symm)).trans ((o.block _ (by omega) (by omega)).trans ((i.block _ (by omega) (λc=>by have:=m _ c.symm;omega)).trans (((cX (w.alloc (.cells #[v0,v1] 109)) k none).block _ (by simp) (by simp)).trans (aF w _))))
 have n:=e f (by omega) (λc=>s c.symm);refine⟨⟨by simp[World.cell?,d],by simp[World.cell?,d]⟩,⟨by simp[World.frozen?,d],by simp[World.frozen?,d]⟩,?_,?_⟩
 ·rw[bD n po];simp[go_sem,p]
 ·rw[js (a:=⟨f,po,none⟩) n];simp[go_sem,q]
theorem KN(w:ag)(q o:Nat)(u v:av):((w.setCell ⟨q,o,none⟩ u).setCell ⟨q,o,none⟩ v).heap[q]?=(w.setCell ⟨q,o,none⟩ v).heap[q]? :=by
 simp only[World.setCell,bO,cY];cases w.heap[q]? with
 | none=>rfl
 | some a=>cases a<;>simp
theorem yg{w w':ag}{q:Nat}(a:w'.heap[q]?=w.heap[q]?)(o:Nat)(v:av):(w'.setCell ⟨q,o,none⟩ v).heap[q]?=(w.setCell ⟨q,o,none⟩ v).heap[q]? :=by
 simp only[World.setCell,bO,cY,a]
variable{ws:List Wd}
theorem LK{tv:av}{e:Nat}{w w2 w4:ag}{t:Obj}(R:f<w.heap.size)(S:w.ownsRow base 109 2 tv ws.length (bk ws))(C:tv.ownBlock≠some f)(m:((w.alloc k).alloc t).grownBy w2 tv.ownBlock)(p:tv.ownBlock=some h\/h=w.heap.size+2)(Q:w4.ownsRow base 109 2 (ae (some ⟨l,0,none⟩) (ws.length+1+ps.length) e) (ws.length+1+ps.length) (bk ws++p9 (0,(ps.length:Int))++bk ps))(n:(w2.setCell ⟨f,po,none⟩ (ae (some ⟨h,0,none⟩) (ws.length+1) j)).grownBy w4 (Value.slice (some ⟨h,0,none⟩) (ws.length+1) j).ownBlock)(M:(Value.slice (some ⟨l,0,none⟩) (ws.length+1+ps.length) e).ownBlock=(Value.slice (some ⟨h,0,none⟩) (ws.length+1) j).ownBlock\/(Value.slice (some ⟨l,0,none⟩) (ws.length+1+ps.length) e).ownBlock=some (w2.setCell ⟨f,po,none⟩ (ae (some ⟨h,0,none⟩) (ws.length+1) j)).heap.size):Nm base f po tv ws ps w (((w4.setCell ⟨f,po,none⟩ (ae (some ⟨l,0,none⟩) (ws.length+1+ps.length) e)).setCell ⟨w.heap.size,0,none⟩ a).setCell ⟨w.heap.size,1,none⟩ q) (ae (some ⟨l,0,none⟩) (ws.length+1+ps.length) e):=by
 have P:∀b,tv.ownBlock=some b->b<w.heap.size:=λb c=>(S.lt b c).2;have c:((w.alloc k).alloc t).heap.size=w.heap.size+2:=by simp
 have aa:=m.size;have D:=bz w2 f po (ae (some ⟨h,0,none⟩) (ws.length+1) j);have ad:=D.size;have Z:=n.size;have ab:h≠w.heap.size:=by
  rintro rfl;rcases p with c|c
  ·have:=P _ c;omega
  ·omega
 have O:h≠f:=by
  rintro rfl;rcases p with c|c
  ·exact C c
  ·omega
 have J:l=h\/w.heap.size+2<=l:=by
  rcases M with o|o
  ·exact ai (by simpa [Value.ownBlock]using o)
  ·have X:l=(w2.setCell ⟨f,po,none⟩ (ae (some ⟨h,0,none⟩) (ws.length+1) j)).heap.size:=by
     simp only[Value.ownBlock]at o;exact aA o
   exact aj (by omega)
 have L:l≠w.heap.size:=by omega
 have K:l≠f:=by omega
 have y:∀b,b<w.heap.size->tv.ownBlock≠some b->w2.heap[b]?=w.heap[b]? :=λb g d=>((m.block b (by omega) (λc=>d c.symm)).trans ((cX (w.alloc k) t none).block b (by simp;omega) (by simp))).trans ((cX w k none).block b g (by simp));have z:∀b,b<w2.heap.size->b≠h->w4.heap[b]?=(w2.setCell ⟨f,po,none⟩ (ae (some ⟨h,0,none⟩) (ws.length+1) j)).heap[b]? :=λb g d=>n.block b (by omega) (λc=>d (aA c));have s:=bz w4 f po (ae (some ⟨l,0,none⟩) (ws.length+1+ps.length) e);have E:=bz (w4.setCell ⟨f,po,none⟩ (ae (some ⟨l,0,none⟩) (ws.length+1+ps.length) e)) w.heap.size 0 a;have F:=bz ((w4.setCell ⟨f,po,none⟩ (ae (some ⟨l,0,none⟩) (ws.length+1+ps.length) e)).setCell ⟨w.heap.size,0,none⟩ a) w.heap.size 1 q;have af:=s.size;have ah:=E.size;have ak:=F.size;have r:∀b,b<w4.heap.size->b≠w.heap.size->(((w4.setCell ⟨f,po,none⟩ (ae (some ⟨l,0,none⟩) (ws.length+1+ps.length) e)).setCell ⟨w.heap.size,0,none⟩ a).setCell ⟨w.heap.size,1,none⟩ q).heap[b]?=(w4.setCell ⟨f,po,none⟩ (ae (some ⟨l,0,none⟩) (ws.length+1+ps.length) e)).heap[b]? :=λb g d=>(F.block b (by omega) d).trans (E.block b (by omega) d);refine⟨?_,?_,⟨?_,?_,?_,?_,?_⟩,?_⟩
 ·have I:bk (ws++(0,(ps.length:Int))::ps)=bk ws++p9 (0,(ps.length:Int))++bk ps:=by simp[bk]
  rw[I];obtain⟨V,u⟩:=Q;refine⟨V,?_⟩;rcases u with⟨u,_⟩|⟨Y,cap,G,U,g,A,T⟩
  ·simp at u
  ·injection U with i W H;injection i with i;injection i with i _;subst i H;have B:=(aJ.1 A).1;exact aj ⟨l,e,G,rfl,g,(r l B L).trans ((s.block l B K).trans A),T⟩
 ·refine(r f (by omega) (by omega)).trans ((yg (z f (by omega) (λc=>O c.symm)) po _).trans ((KN w2 f po _ _).trans (yg (y f R C) po _)))
 ·exact n.os.trans m.os
 ·exact n.tape.trans m.tape
 ·exact n.output.trans m.output
 ·omega
 ·intro b g d;simp only[not_or]at d;have N:b≠h:=by
   rintro rfl;rcases p with c|c
   ·exact d.2 c
   ·omega
  exact(r b (by omega) (by omega)).trans ((s.block b (by omega) d.1).trans ((z b (by omega) N).trans ((D.block b (by omega) d.1).trans (y b g d.2))))
 ·intro b x;simp only[Value.ownBlock]at x;obtain rfl:=aA x;rcases J with c|c
  ·rw[c];rcases p with v|v
   ·exact ai v
   ·exact aj (by omega)
  ·exact aj (by omega)
theorem Ay(base a po:Nat)(tv:av)(N:aw)(O L:Nat)(ws ps:List Wd)(m pc:Nat)(pa:aw)(w:ag)(I:tv=ae N L O)(A:Hid (ws.length=L))(r:Hid (ps.length=m))(W:L<=100000)(X:m<=1000)(F:base<=w.heap.size)(c0:w.cell? ⟨a,po,none⟩=some tv)(D:w.frozen? ⟨a,po,none⟩=false)(h:a<w.heap.size)(g:Hid (tv.ownBlock≠some a))(k:Hid (w.ownsRow base 109 2 tv L (bk ws)))(B:Hid (∀w1,bZ (λb=>b=a\/tv.ownBlock=some b) w w1->fm w1 ps pa)):am 148 #[.pointer (some ⟨a,po,none⟩),ae pa m pc] w λe w'=>e=.returned (.agg #[ab 4,ab L])/\∃P,Hid (Nm base a po tv ws ps w w' P):=by
 subst I;obtain⟨J,t,x,y,z⟩:=bW lp;have d:=au (⟨t,x,y,z⟩:_/\_/\_/\_);clear t x y z;go_enter func148,ntmps148
 go_wp2_with (first
  | (at_builtin;refine wpList_append_lies _ rfl _ _ 101 rfl base 109 J _ 2 16 underlying101 d.1 d.2.1 d.2.2.1 d.2.2.2 rfl (by decide) _ L _ rfl ((k.alloc _).alloc _) ⟨w.heap.size+1,0,none⟩ 1 1 (p9 (0,(m:Int))) rfl rfl (by have:=Lc (w.alloc (.cells #[ab 0,ab 0] 109)) (0,(m:Int));simpa using this) (Ng _) (by decide) (by unfold maxLen;omega) (by omega) (by simp;omega) (w.heap.size+2) (by simp) ?_;intro U Q ad p f l u;have c:=au (⟨p,f,l,u⟩:_/\_/\_/\_);obtain⟨C,E,Y⟩:=FS h g f c0 D;have i:=au (LM h F g p f l po B);clear p f l u)
  | (at_builtin;refine pR rfl _ _ rfl (base:=base) (n:=L+1) rfl rfl i.1 i.2.1 r (by omega) i.2.2 ?_;intro aa af q o s;obtain⟨V,R,rfl,_,_⟩:=q.form (by omega);have j:=au (⟨q,o,s⟩:_/\_/\_);obtain⟨⟨K,M⟩,Z,S,T⟩:=I3 h k g c.2.1 c.2.2.1 o C E;clear q o s))
 have G:=A.out;have H:=r.out;subst G H;exact az (v:=.agg #[ab 4,ab ws.length]) (by simp[results,results148,go_sem,K,M]) rfl ⟨rfl,_,LK h k g c.2.1 c.2.2.1 j.1 j.2.1 j.2.2⟩
def NU(room:Int)(w:ag)(e:Ending)(w':ag):Prop:=
    (¬(0<=room/\room<=1000)->e=.returned (.tuple #[.pointer none,ab 1])/\w'=w)/\
    (0<=room/\room<=1000->e=.returned (.tuple #[aH w.heap.size,ab 0])/\HB (cG.own w.heap.size) room (ae none 0 0) (ae none 0 0) (.map none) w'/\w'.heap.size=w.heap.size+1/\ak w w')
theorem MD(room:Int)(w:ag):am 72 #[ab room] w (NU room w):=by
 by_cases a:room<0
 ·have b:decide (room<0)=true:=by simpa using a
  go_enter func72,ntmps72;go_wp2_with fail
  go_ret2
  exact⟨λ_=>⟨rfl,rfl⟩,λc=>by omega⟩
 ·by_cases d:1000<room
  ·have b:decide (room<0)=false:=by simpa using a
   have e:decide (1000<room)=true:=by simpa using d
   go_enter func72,ntmps72;go_wp2_with fail
   go_ret2
   exact⟨λ_=>⟨rfl,rfl⟩,λc=>by omega⟩
  ·have b:decide (room<0)=false:=by simpa using a
   have e:decide (1000<room)=false:=by simpa using d
   go_enter func72,ntmps72;go_wp2_with fail
   go_ret2
   exact⟨λc=>by omega,λ_=>⟨rfl,⟨⟨rfl,ai rfl⟩,aF w _⟩,by simp,(aq _ _).alloc (ao _) _⟩⟩
def f9(ws:List Wd)(i:Int):Bool:=decide (0<=i) && match ws[i.toNat]? with
 | some x=>x.1==0
 | none=>false
theorem jk{w:ag}(d:w.ownsRow base 109 2 (ae (some ⟨g,0,none⟩) L c) L (bk ws))(k:Nat)(x:Wd)(b:ws[k]?=some x):w.cell? ⟨g,k*2,none⟩=some (ab x.1)/\w.cell? ⟨g,k*2+1,none⟩=some (ab x.2):=by
 have a:=d.cells (g:=g) rfl;refine⟨?_,?_⟩
 ·have:=a (k*2+0) (ab x.1) (by rw[ji ws k x b 0 (by omega)];rfl);rw[fu]at this;exact this
 ·have:=a (k*2+1) (ab x.2) (by rw[ji ws k x b 1 (by omega)];rfl);rw[fu]at this;exact this
theorem CZ(base:Nat)(l:aw)(L m:Nat)(ws:List Wd)(i:Int)(w:ag)(d:Hid (ws.length=L))(q:L<=100000)(f:Hid (w.ownsRow base 109 2 (ae l L m) L (bk ws))):am 150 #[ae l L m,ab i] w λe w'=>e=.returned (.bool (f9 ws i))/\w'=w:=by
 by_cases h:0<=i
 ·obtain⟨k,rfl⟩:∃k:Nat,i=k:=⟨i.toNat,by omega⟩;by_cases o:k<L
  ·obtain⟨a,b⟩:∃a,ws[k]?=some a:=⟨ws[k]'(by rw[d.out];exact o),aM _⟩;obtain⟨p,c,j,_,_⟩:=f.out.form (by omega);simp at j;obtain⟨rfl,rfl⟩:=j;obtain⟨t,u⟩:=jk f k a b;have HB:Hid (f9 ws k=(a.1==0)):=by simp[Hid,f9,b]
   have g:decide ((0:Int)<=(k:Int))=true:=by simp
   have n:decide ((k:Int)<(L:Int))=true:=by simp;omega
   have r:(0:Int)<=(k:Int):=by omega
   have s:(k:Int)<(L:Int):=by omega
   clear b;go_enter func150,ntmps150;go_wp2_with fail
   go_ret
   exact⟨fe HB.symm,rfl⟩
  ·have HB:Hid (f9 ws k=false):=by
     have:ws[k]?=none:=eN (by rw[d.out];omega);simp[Hid,f9,this]
   have g:decide ((0:Int)<=(k:Int))=true:=by simp
   have n:decide ((k:Int)<(L:Int))=false:=by simp;omega
   go_enter func150,ntmps150;go_wp2_with fail
   go_ret
   exact⟨fe HB.symm,rfl⟩
 ·have HB:Hid (f9 ws i=false):=by simp[Hid,f9,h]
  have g:decide (0<=i)=false:=by simpa using h
  go_enter func150,ntmps150;go_wp2_with fail
  go_ret
  exact⟨fe HB.symm,rfl⟩
def uX(L:Nat)(i:Int):Bool:=decide (0<=i) && decide (i<L)
theorem Mo(c:cG)(room:Int)(tv:av)(g:aw)(L h:Nat)(mv:av)(i:Int)(w:ag)(d:Hid (HB c room tv (ae g L h) mv w)):am 149 #[.pointer (some ⟨c.b,c.o+2,none⟩),ab i] w λe w'=>e=.returned (.bool (uX L i))/\w'=w:=by
 obtain⟨⟨j,k,l,m⟩,n⟩:=d.cells;by_cases a:0<=i
 ·have HB:Hid (uX L i=decide (i<L)):=by simp[Hid,uX,a]
  have f:decide (0<=i)=true:=by simpa using a
  go_enter func149,ntmps149;go_wp2_with fail
  go_ret
  exact⟨fe HB.symm,rfl⟩
 ·have HB:Hid (uX L i=false):=by simp[Hid,uX,a]
  have f:decide (0<=i)=false:=by simpa using a
  go_enter func149,ntmps149;go_wp2_with fail
  go_ret
  exact⟨fe HB.symm,rfl⟩
theorem OD(l:List ap)(k:Nat)(s:ap)(a:l[k]?=some s):(strCells l)[k]?=some (af s):=by simp[strCells,a]
theorem DI(base:Nat)(a:cG)(room:Int)(tv lv mv:av)(nm:List ap)(i:Nat)(s:ap)(w:ag)(h:Hid (HB a room tv lv mv w))(d:Hid (w.ownsRow base 9 1 lv nm.length (strCells nm)))(f:Hid (nm[i]?=some s))(r:nm.length<=100000)(l:s.size<=2048):am 176 #[.pointer (some ⟨a.b,a.o+2,none⟩),ab i] w λe w'=>e=.returned (af s)/\ak w w':=by
 have x:i<nm.length:=(aX.1 f).1;obtain⟨g,c,rfl,_,_⟩:=d.out.form (by omega);have z:w.cell? ⟨g,i,none⟩=some (af s):=by
  have:=d.cells (g:=g) rfl i (af s) (OD nm i s f);rw[fu]at this;exact this
 obtain⟨⟨m,n,p,q⟩,t⟩:=h.cells;generalize nm.length=j at*;have u:(0:Int)<=(i:Int):=by omega
 have v:(i:Int)<(j:Int):=by omega
 go_enter func176,ntmps176;go_wp2_with fail;refine(dW s _ l).mono ?_;rintro e y ⟨rfl,k⟩;go_wp2_with fail
 go_ret
 exact⟨rfl,k⟩
theorem Bg(a:cG)(room n:Int)(d:aw)(L f:Nat)(lv mv:av)(w:ag)(k:L<=100000)(p:0<=room)(m:room<=1000)(c:Hid (HB a room (ae d L f) lv mv w)):am 111 #[.pointer (some ⟨a.b,a.o,none⟩),ab n] w λe w'=>e=.returned (.bool (decide (n<=room-L)))/\ak w w':=by
 obtain⟨⟨g,h,i,j⟩,l⟩:=c.cells;go_enter func111,ntmps111;go_wp2_with fail
 go_quiet (fail)
 go_wp2_with fail
 go_ret
 exact⟨rfl,⟨rfl,rfl,rfl,ao _,λ_ _=>rfl⟩⟩
theorem tC(ws:List Wd)(k n j:Nat)(g:j<n*2):(bk ((ws.drop k).take n))[j]?=(bk ws)[k*2+j]? :=by
 by_cases f:k+j / 2<ws.length
 ·obtain⟨a,b⟩:∃a,ws[k+j / 2]?=some a:=⟨_,aM f⟩;have e:((ws.drop k).take n)[j / 2]?=some a:=by
   rw[sX (by omega),kP];exact b
  have c:j=j / 2*2+j % 2:=by omega
  have d:k*2+j=(k+j / 2)*2+j % 2:=by omega
  rw[d,ji ws (k+j / 2) a b (j % 2) (by omega)]
  conv=>lhs;rw[c]
  rw[ji _ (j / 2) a e (j % 2) (by omega)]
 ·rw[eN (l:=bk ws) (by rw[cI];omega),eN (by rw[cI,dL,fj];omega)]
def LF(ws:List Wd)(k n g:Nat)(w:ag)(e:Ending)(w':ag):Prop:=w'=w/\∃pa pc,e=.returned (ae (some pa) n pc)/\pa.block=g/\fm w ((ws.drop (k+1)).take n) (some pa)/\∃o,pa=⟨g,o,none⟩
theorem MR{ty:TypeId}{w:ag}(a:w.ownsRow base ty sz (ae (some ⟨g,0,none⟩) L c) L xs):L<=c/\c<=maxLen:=by
 rcases a.2 with⟨a,_⟩|⟨f,cap,e,a,_,_,b,d,_⟩
 ·simp at a
 ·injection a with _ _ a;subst a;exact⟨b,d⟩
theorem xN(base:Nat)(g L b k n:Nat)(ws:List Wd)(w:ag)(r:L<=100000)(c:Hid (w.ownsRow base 109 2 (ae (some ⟨g,0,none⟩) L b) L (bk ws)))(p:Hid (ws[k]?=some (0,(n:Int))))(s:k+1+n<=L):am 178 #[ae (some ⟨g,0,none⟩) L b,ab k] w (LF ws k n g w):=by
 obtain⟨v,x⟩:=jk c k _ p;obtain⟨u,f⟩:=MR c;have e:Hid (∀o,(n=0\/o=(k+1)*2)->fm w ((ws.drop (k+1)).take n) (some ⟨g,o,none⟩)):=by
  rintro o (rfl|rfl)
  ·exact ai (by simp)
  ·refine aj ⟨_,rfl,λa q d=>?_⟩;have l:a<n*2:=by
    have:=(aX.1 d).1;rw[cI,dL]at this;omega
   rw[tC ws (k+1) n a l]at d;have:=c.cells (g:=g) rfl _ q d;rw[fu]at this;have h:(⟨g,(k+1)*2,none⟩:Addr).add a=⟨g,(k+1)*2+a,none⟩:=by
    unfold Addr.add;by_cases i:a=0<;>simp[i]
   rw[h];exact this
 have t:(b:Int)<=9223372036854775807:=by unfold maxLen at f;omega
 clear f;by_cases j:b=k+1
 ·subst j;have m:n=0:=by omega
  subst m;go_enter func178,ntmps178;go_wp2_with fail
  go_ret
  exact⟨rfl,_,_,rfl,rfl,e _ (by simp),_,rfl⟩
 ·go_enter func178,ntmps178;go_wp2_with fail
  go_ret
  exact⟨rfl,_,_,rfl,rfl,e _ (aj rfl),_,rfl⟩
def Pd(s t:ap):Bool:=t.data==s.data
theorem oS(s t:ap):Pd s t=true ↔ t=s:=by
 cases s;cases t;simp[Pd]
def eT(nm:List ap)(s:ap):List ap:=if nm.any (Pd s)then nm else nm++ [s]
def lB(nm:List ap)(s:ap):Nat:=nm.findIdx (Pd s)
theorem zy(nm:List ap)(s:ap):nm.any (Pd s)=true ↔ s∈nm:=by
 rw[List.any_eq_true];constructor
 ·rintro ⟨t,c,a⟩;rw[oS]at a;exact a▸c
 ·exact λb=>⟨s,b,(oS s s).2 rfl⟩
theorem BE{s:ap}(e:nm.Nodup)(b:nm[i]?=some s):lB nm s=i:=by
 have f:=(aX.1 b).1;have a:lB nm s<nm.length:=by
  unfold lB;rw[List.findIdx_lt_length];exact⟨s,aN b,(oS s s).2 rfl⟩
 have d:nm[lB nm s]'a=s:=(oS s _).1 (List.findIdx_getElem (w:=a));have c:nm[lB nm s]?=nm[i]? :=by rw[b,aM a,d]
 exact(List.getElem?_inj a e).1 c
def bQ{a:Type}(f:a->List Wd->List ap->Wd×List Wd×List ap):List a->List Wd->List ap->List Wd×List Wd×List ap
 | [],ws,nm=>([],ws,nm)
 | y::l,ws,nm=>((f y ws nm).1::(bQ f l (f y ws nm).2.1 (f y ws nm).2.2).1,(bQ f l (f y ws nm).2.1 (f y ws nm).2.2).2)
def bi:(n:Nat)->Tm n->List Wd->List ap->Wd×List Wd×List ap
 | 0,_,ws,nm=>((0,0),ws,nm)
 | n+1,x,ws,nm=>
  if x.1.1=2 then ((2,(lB (eT nm x.1.2.2) x.1.2.2:Int)),ws,eT nm x.1.2.2)
  else if x.1.1=4 then
   ((4,((bQ (bi n) x.2.2 ws nm).2.1.length:Int)),(bQ (bi n) x.2.2 ws nm).2.1++(0,(x.2.2.length:Int))::(bQ (bi n) x.2.2 ws nm).1,(bQ (bi n) x.2.2 ws nm).2.2)
  else ((x.1.1,x.1.2.1),ws,nm)
theorem GL(f:b->List Wd->List ap->Wd×List Wd×List ap)(l:List b)(y:b)(ws:List Wd)(nm:List ap):bQ f (l++ [y]) ws nm=((bQ f l ws nm).1++ [(f y (bQ f l ws nm).2.1 (bQ f l ws nm).2.2).1],(f y (bQ f l ws nm).2.1 (bQ f l ws nm).2.2).2):=by
 induction l generalizing ws nm with
 | nil=>simp[bQ]
 | cons a l ih=>simp[bQ,ih]
theorem gT(f:b->List Wd->List ap->Wd×List Wd×List ap)(l:List b)(ws:List Wd)(nm:List ap):(bQ f l ws nm).1.length=l.length:=by
 induction l generalizing ws nm with
 | nil=>simp[bQ]
 | cons a l ih=>simp[bQ,ih]
theorem zx(nm:List ap)(s:ap):(eT nm s).length<=nm.length+1:=by
 unfold eT;split<;>simp
theorem iV:(n:Nat)->(x:Tm n)->(ws:List Wd)->(nm:List ap)->((bi n x ws nm).2.1.length:Int)=ws.length+sz n x/\(bi n x ws nm).2.2.length<=nm.length+(aC n x).length
 | 0,_,_,_=>by simp[bi,sz]
 | n+1,x,ws,nm=>by
  have key:∀(l:List (Tm n))(ws:List Wd)(nm:List ap),((bQ (bi n) l ws nm).2.1.length:Int)+l.length=ws.length+(l.map λy=>1+sz n y).sum/\(bQ (bi n) l ws nm).2.2.length<=nm.length+(l.flatMap λy=>aC n y).length:=by
   intro l
   induction l with
   | nil=>intro ws nm;simp[bQ]
   | cons y l ih=>
    intro ws nm;obtain⟨e,f⟩:=iV n y ws nm;obtain⟨g,h⟩:=ih (bi n y ws nm).2.1 (bi n y ws nm).2.2;simp only[bQ,aU,bN,bK,bw,br];exact⟨by omega,by omega⟩
  obtain⟨i,j⟩:=key x.2.2 ws nm;have k:=zx nm x.1.2.2;have c:=gT (bi n) x.2.2 ws nm;have d:(aC (n+1) x).length=1+(x.2.2.flatMap λy=>aC n y).length:=by simp[aC];omega
  rw[d];by_cases b:x.1.1=2
  ·have a:¬x.1.1=4:=by omega
   simp only[bi,sz,if_pos b,if_neg a];exact⟨by omega,by omega⟩
  ·by_cases a:x.1.1=4
   ·simp only[bi,sz,if_neg b,if_pos a,bw,br,c];exact⟨by omega,by omega⟩
   ·simp only[bi,sz,if_neg b,if_neg a];exact⟨by omega,by omega⟩
def dM(base:Nat)(e:cG)(room:Int)(ws:List Wd)(nm:List ap)(M:aR)(w:ag):Prop:=
 ∃d a c,HB e room d a c w/\w.ownsRow base 109 2 d ws.length (bk ws)/\j8 base nm a c w/\M e.b/\(∀b,d.ownBlock=some b->M b)/\(∀b,a.ownBlock=some b->M b)/\∀b,mapBlock c=some b->M b
theorem ee{v:av}{w w':ag}{S:aR}(c:w.ownsRow base e sz v n xs)(k:bZ S w w')(h:∀b,v.ownBlock=some b->¬S b):w'.ownsRow base e sz v n xs:=by
 refine⟨c.1,?_⟩;rcases c.2 with⟨e,g⟩|⟨a,cap,f,e,i,d,j⟩
 ·exact ai ⟨e,g⟩
 ·exact aj ⟨a,cap,f,e,i,(k.block a (aJ.1 d).1 (h a (by rw[e];rfl))).trans d,j⟩
theorem dM.kept{base:Nat}{d:cG}{room:Int}{ws:List Wd}{nm:List ap}{M S:aR}{w w':ag}(m:dM base d room ws nm M w)(k:bZ S w w')(c:∀b,M b->b<w.heap.size->¬S b):dM base d room ws nm M w':=by
 obtain⟨q,o,p,e,g,f,h,i,j,l⟩:=m;refine⟨q,o,p,e.kept (k.block d.b e.lt (c d.b h e.lt)),ee g k λb a=>c b (i b a) (g.lt b a).2,?_,h,i,j,l⟩;refine f.kept k (λb a=>c b (j b a) (f.1.lt b a).2) λb a=>c b (l b a) ?_;rcases f.2.2 with⟨rfl,_⟩|⟨s,r,rfl,_,n,_⟩
 ·simp[mapBlock]at a
 ·simp only[mapBlock]at a;obtain rfl:=aA a;exact n.lt
theorem dM.mono{M S:aR}{w:ag}(c:dM base d room ws nm M w)(k:∀b,M b->S b):dM base d room ws nm S w:=by
 obtain⟨o,m,n,e,f,g,h,i,j,l⟩:=c;exact⟨o,m,n,e,f,g,k _ h,λb a=>k b (i b a),λb a=>k b (j b a),λb a=>k b (l b a)⟩
def mh(base:Nat)(a:cG)(room:Int)(ws:List Wd)(nm:List ap)(M:aR)(w w':ag):Prop:=dM base a room ws nm (λb=>M b\/w.heap.size<=b) w'/\bZ M w w'
theorem xY{w:ag}{i:TypeId}{s:Nat}{v:av}(k:w.ownsRow base e s v n xs)(l:w.ownsRow f i h a j ys)(o:e≠i):∀b,v.ownBlock=some b->a.ownBlock≠some b:=by
 intro b d g;rcases k.2 with⟨rfl,_⟩|⟨t,cap,q,rfl,_,m,_⟩
 ·simp[Value.ownBlock]at d
 ·rcases l.2 with⟨rfl,_⟩|⟨u,p,r,rfl,_,c,_⟩
  ·simp[Value.ownBlock]at g
  ·simp only[Value.ownBlock]at d g;obtain rfl:=aA d;obtain rfl:=aA g;rw[m]at c;injection c with c;injection c with _ c;exact o c
theorem nH{w:ag}{s:Nat}{v:av}{tv lv mv:av}(h:w.ownsRow base e s v n xs)(f:HB d room tv lv mv w)(g:e≠107/\e≠111):v.ownBlock≠some d.b:=λe=>by
 rcases h.2 with⟨rfl,_⟩|⟨k,cap,j,rfl,_,i,_⟩
 ·simp[Value.ownBlock]at e
 ·simp[Value.ownBlock]at e;subst e;have a:w.heap[d.b]?=_:=f.2;rw[i]at a;injection a with a;injection a with a c;rcases f.1.2 with t1|t1
  ·exact g.1 (c.trans t1)
  ·exact g.2 (c.trans t1)
theorem Fz{w:ag}{s:Nat}{v:av}{lv mv:av}(g:w.ownsRow base e s v n xs)(h:j8 f nm lv mv w):∀b,v.ownBlock=some b->mapBlock mv≠some b:=by
 intro b a c;rcases g.2 with⟨rfl,_⟩|⟨o,cap,m,rfl,_,i,_⟩
 ·simp[Value.ownBlock]at a
 ·rcases h.2.2 with⟨rfl,_⟩|⟨p,k,rfl,_,j,_⟩
  ·simp[mapBlock]at c
  ·simp only[Value.ownBlock,mapBlock]at a c;obtain rfl:=aA a;obtain rfl:=aA c;obtain⟨es,l,d,_⟩:=j;rw[i]at d;cases d
theorem uf{w:ag}{lv mv:av}{tv:av}(g:j8 base nm lv mv w)(f:HB d room tv a q w):mapBlock mv≠some d.b:=λe=>by
 rcases g.2.2 with⟨rfl,_⟩|⟨k,D,rfl,_,i,_⟩
 ·simp[mapBlock]at e
 ·simp only[mapBlock]at e;obtain rfl:=aA e;obtain⟨es,j,h,_⟩:=i;have c:w.heap[d.b]?=_:=f.2;rw[h]at c;cases c
theorem Mr{b:List ap}{s:ap}(f:b.Nodup)(e:b[i]?=some s)(a:b=nm\/b=nm++ [s]):b=eT nm s/\i=lB (eT nm s) s:=by
 have c:b=eT nm s:=by
  unfold eT;by_cases d:s∈nm
  ·rw[if_pos ((zy nm s).2 d)];rcases a with a|a
   ·exact a
   ·rw[a,fz]at f;exact absurd rfl (f.2.2 s d s (by simp))
  ·rw[if_neg (λc=>d ((zy nm s).1 c))];rcases a with a|a
   ·rw[a]at e;exact absurd (aN e) d
   ·exact a
 refine⟨c,?_⟩;rw[<-c];exact(BE f e).symm
theorem ME(base:Nat)(a:cG)(room:Int)(ws:List Wd)(nm:List ap)(M:aR)(s:ap)(w:ag)(r:dM base a room ws nm M w)(v:base<=w.heap.size)(u:nm.length<=100000)(x:s.size<=2048):am 147 #[.pointer (some ⟨a.b,a.o+2,none⟩),af s] w λe w'=>e=.returned (ab (lB (eT nm s) s:Int))/\Hid (mh base a room ws (eT nm s) M w w'):=by
 obtain⟨m,D,F,g,c,f,h,t,i,j⟩:=r;refine(DL base a room m D F nm s w g f v u x).mono ?_;rintro e w' ⟨H,rfl,I,E,G,n⟩;obtain⟨y,z,A,k,l,B,C⟩:=n;obtain⟨p,q⟩:=Mr k.2.1 y z;subst p;refine⟨by rw[q],⟨m,E,G,A,ee c l ?_,k,ai h,λb e=>ai (t b e),?_,?_⟩,l.mono ?_⟩
 ·rintro b e (rfl|d|d)
  ·exact nH c g (by decide) e
  ·exact xY c f.1 (by decide) b e d
  ·exact Fz c f b e d
 ·intro b e;rcases B b e with e|e
  ·exact ai (i b e)
  ·exact aj e
 ·intro b e;rcases C b e with e|e
  ·exact ai (j b e)
  ·exact aj e
 ·rintro b (rfl|e|e)
  ·exact h
  ·exact i b e
  ·exact j b e
theorem PR(base:Nat)(d:cG)(room:Int)(ws:List Wd)(nm:List ap)(M:aR)(ps:List Wd)(m pc:Nat)(pa:aw)(w:ag)(x:dM base d room ws nm M w)(C:base<=w.heap.size)(A:ws.length<=100000)(E:ps.length=m)(B:m<=1000)(t:∀w1,bZ M w w1->fm w1 ps pa):am 148 #[.pointer (some ⟨d.b,d.o+1,none⟩),ae pa m pc] w λe w'=>e=.returned (.agg #[ab 4,ab ws.length])/\Hid (mh base d room (ws++(0,(m:Int))::ps) nm M w w'):=by
 obtain⟨q,J,K,a,f,g,i,j,y,z⟩:=x;obtain⟨⟨L,u,N,O⟩,D⟩:=a.cells;obtain⟨l,n,F⟩:∃l n,q=ae l ws.length n:=by
  rcases f.2 with⟨e,v⟩|⟨Q,c,P,e,_⟩
  ·exact⟨none,0,by rw[e,v]⟩
  ·exact⟨_,c,e⟩
 subst E;refine(Ay base d.b (d.o+1) q l n ws.length ws ps ps.length pc pa w F rfl rfl A B C u (D _) a.lt (nH f a (by decide)) f ?_).mono ?_
 ·intro w1 k;refine t w1 (k.mono ?_);rintro b (rfl|e)
  ·exact i
  ·exact j b e
 ·rintro e w' ⟨rfl,r,s⟩;obtain⟨G,H,p,I⟩:=s;refine⟨rfl,⟨r,J,K,(a.set1 r).kept H,?_,g.kept p ?_ ?_,ai i,?_,λb e=>ai (y b e),λb e=>ai (z b e)⟩,p.mono ?_⟩
  ·have e:(ws++(0,(ps.length:Int))::ps).length=ws.length+1+ps.length:=by simp;omega
   rw[e];exact G
  ·rintro b e (rfl|h)
   ·exact nH g.1 a (by decide) e
   ·exact xY f g.1 (by decide) b h e
  ·rintro b e (rfl|h)
   ·exact uf g a e
   ·exact Fz f g b h e
  ·intro b e;rcases I b e with e|e
   ·exact ai (j b e)
   ·exact aj e
  ·rintro b (rfl|e)
   ·exact i
   ·exact j b e
end Go.Proofs.YtmmahddlcldmiaaGreat

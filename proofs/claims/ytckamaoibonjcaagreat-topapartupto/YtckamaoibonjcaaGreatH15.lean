/- What is proved here: plain facts and contracts that the claimed theorem stands on. No condition but those that each names. -/
import Derived.Test.YtckamaoibonjcaaGreatH14
import Derived.Maps.OwnSet
import Derived.StringKeys
import Derived.Maps.AppendAt
import Derived.Deep.QuietTactic
import Derived.BigQuiet
namespace Go.Proofs.YtckamaoibonjcaaGreat
open Go.RowKit
open Go.RowKit Go.Maps
set_option maxRecDepth 100000
set_option maxHeartbeats 2000000
theorem I9(k h i:Int)(j:ByteArray)(xa:Option Addr)(l xc:Nat)(y0 y1:Int)(y2:ByteArray)(ya:Option Addr)(yl yc:Nat)(nm:ByteArray)(g:Int)(c:Nat)(w:World)(R:Bool->World->Prop)(D:c<w.heap.size)(B:Hid (∃A,w.cell? ⟨c,6,none⟩=some (.bool A)/\w.frozen? ⟨c,6,none⟩=false))(m:Hid (k=1->∀W,ai w W->ak 161 #[.pointer (some ⟨c,0,none⟩),.agg #[ab k,ab h,ab i,ae j,.slice xa l xc,ab y0,ab y1,ae y2,.slice ya yl yc,ae nm,ab g]] W λe w'=>∃t,e=.returned (.bool t)/\Hid (R t w')))(n:Hid (k=2->∀W,ai w W->ak 162 #[.pointer (some ⟨c,0,none⟩),.agg #[ab k,ab h,ab i,ae j,.slice xa l xc,ab y0,ab y1,ae y2,.slice ya yl yc,ae nm,ab g]] W λe w'=>∃t,e=.returned (.bool t)/\Hid (R t w')))(o:Hid (k=3->∀W,ai w W->ak 163 #[.pointer (some ⟨c,0,none⟩),.agg #[ab k,ab h,ab i,ae j,.slice xa l xc,ab y0,ab y1,ae y2,.slice ya yl yc,ae nm,ab g]] W λe w'=>∃t,e=.returned (.bool t)/\Hid (R t w')))(q:Hid (k≠1->k≠2->k≠3->∀W,ai w W->R true (W.setCell ⟨c,6,none⟩ (.bool true)))):ak 138 #[.pointer (some ⟨c,0,none⟩),.agg #[ab k,ab h,ab i,ae j,.slice xa l xc,ab y0,ab y1,ae y2,.slice ya yl yc,ae nm,ab g]] w λe w'=>∃t,e=.returned (.bool t)/\Hid (R t w'):=by
 have C:Hid (∃a b,(a=w.alloc (.cells #[ab k,ab h,ab i,ae j,.slice xa l xc,ab y0,ab y1,ae y2,.slice ya yl yc,ae nm,ab g] 224)/\b=w.heap.size)/\ai w a/\(a.cell? ⟨b,0,none⟩=some (ab k)/\a.cell? ⟨b,1,none⟩=some (ab h)/\a.cell? ⟨b,2,none⟩=some (ab i)/\a.cell? ⟨b,3,none⟩=some (ae j)/\a.cell? ⟨b,4,none⟩=some (.slice xa l xc)/\a.cell? ⟨b,5,none⟩=some (ab y0)/\a.cell? ⟨b,6,none⟩=some (ab y1)/\a.cell? ⟨b,7,none⟩=some (ae y2)/\a.cell? ⟨b,8,none⟩=some (.slice ya yl yc)/\a.cell? ⟨b,9,none⟩=some (ae nm)/\a.cell? ⟨b,10,none⟩=some (ab g))):=by
  have d:=az w (.cells #[ab k,ab h,ab i,ae j,.slice xa l xc,ab y0,ab y1,ae y2,.slice ya yl yc,ae nm,ab g] 224);exact⟨_,_,⟨rfl,rfl⟩,(am _ _).alloc (aj _) _,af d 0,af d 1,af d 2,af d 3,af d 4,af d 5,af d 6,af d 7,af d 8,af d 9,af d 10⟩
 go_enter Tryz.func138,Tryz.ntmps138;obtain⟨A,F,z⟩:=B.out;go_upto_region 1 with fail;obtain⟨a,b,⟨G,E⟩,y,M,N,P,Q,S,T,U,V,X,Y,O⟩:=C.out;rw[<-G,<-E];have s:=ao y;have I:Hid (a.cell? ⟨c,6,none⟩=some (.bool A)/\a.frozen? ⟨c,6,none⟩=false):=by
  refine⟨(y.cell (p:=⟨c,6,none⟩) D).trans F,?_⟩;unfold World.frozen? at z ⊢;rw[y.block c D];exact z
 clear G E y C F z B;by_cases u:k=1
 ·have r:=ao (m.out u a s.out);clear m n o q;subst u;go_wp2_with fail;refine r.out.mono ?_;rintro e H ⟨t,rfl,f⟩;go_wp2_with fail
  go_ret
  exact⟨t,rfl,f.out⟩
 ·by_cases v:k=2
  ·have r:=ao (n.out v a s.out);clear m n o q;subst v;go_wp2_with fail;refine r.out.mono ?_;rintro e H ⟨t,rfl,f⟩;go_wp2_with fail
   go_ret
   exact⟨t,rfl,f.out⟩
  ·by_cases x:k=3
   ·have r:=ao (o.out x a s.out);clear m n o q;subst x;go_wp2_with fail;refine r.out.mono ?_;rintro e H ⟨t,rfl,f⟩;go_wp2_with fail
    go_ret
    exact⟨t,rfl,f.out⟩
   ·have f:=ao (q.out u v x a s.out);obtain⟨Z,aa⟩:=I.out;have J:¬(1:Int)=k:=λe=>u e.symm;have K:¬(2:Int)=k:=λe=>v e.symm;have L:¬(3:Int)=k:=λe=>x e.symm;clear m n o q;go_wp2_with fail
    go_ret
    exact⟨true,rfl,f.out⟩
def Nr{n:Nat}(a:Ac (n+1)):Value:=.agg #[ab a.1,ab a.2.1.1.1.1,ab a.2.1.1.1.2.1,ae a.2.1.1.1.2.2,.slice a.2.1.1.2.1.1 a.2.1.1.2.2.length a.2.1.1.2.1.2,ab a.2.1.2.1.1,ab a.2.1.2.1.2.1,ae a.2.1.2.1.2.2,.slice a.2.1.2.2.1.1 a.2.1.2.2.2.length a.2.1.2.2.1.2,ae a.2.2.1,ab a.2.2.2]
theorem Hg{n:Nat}(l:List (Ac (n+1)))(s:Option Addr)(L C r:Nat)(w:World)(S:Nat->World->Prop)(k:World->Prop)(D:L<=1000000)(z:Hid (l.length=L))(x:Hid (∀(i:Nat)(a:Ac (n+1)) W,l[i]?=some a->S i W->∃b o,s=some ⟨b,o,none⟩/\∀(j:Nat)(u:Value),(fT (n+1) a)[j]?=some u->W.cell? ⟨b,o+i*11+j,none⟩=some u))(HB:Hid (∀i W q,S i W->ai W q->S i q))(A:Hid (∀(i:Nat)(a:Ac (n+1)) W,l[i]?=some a->S i W->ak 138 #[.pointer (some ⟨r,0,none⟩),Nr a] W λe w'=>∃t,e=.returned (.bool t)/\Hid ((t=true->S (i+1) w')/\(t=false->k w'))))(v:Hid (S 0 w)):ak 102 #[.pointer (some ⟨r,0,none⟩),.slice s L C] w λe w'=>∃t,e=.returned (.bool t)/\Hid ((t=true->S L w')/\(t=false->k w')):=by
 go_enter Tryz.func102,Tryz.ntmps102;go_wp2_with fail;go_loopw [9] (λi wr=>∃j:Nat,j<=L/\i=ab j/\Hid (S j wr)) (λi _=>L-(intOf i).toNat)
 case atStart=>exact⟨0,aF _,rfl,v.out⟩
 case round=>
  obtain⟨j,E,rfl,g⟩:=hrel;by_cases B:j<L
  ·obtain⟨a,h⟩:∃a,l[j]?=some a:=⟨l[j]'(by rw[z.out];exact B),aE _⟩;obtain⟨b,o,rfl,c⟩:=x.out j a wr h g.out;have I:wr.cell? ⟨b,o+j*11,none⟩=some (ab a.1):=c 0 _ rfl;have J:=c 1 _ rfl;have M:=c 2 _ rfl;have N:=c 3 _ rfl;have O:=c 4 _ rfl;have P:=c 5 _ rfl;have Q:=c 6 _ rfl;have R:=c 7 _ rfl;have T:=c 8 _ rfl;have U:=c 9 _ rfl;have K:=c 10 _ rfl;have F:(0:Int)<=(j:Int):=by omega
   have G:(j:Int)<(L:Int):=by omega
   have m:=ao λW (d:ai wr W)=>A.out j a W h (HB.out _ _ _ g.out d);unfold Nr at m;have y:Hid (∀o:Obj,ai wr (wr.alloc o)):=λo=>(am _ _).alloc (aj _) o;clear c h;go_wp2_with fail;refine(m.out _ (y.out _)).mono ?_;rintro e H ⟨t,rfl,p⟩;cases t
   ·have f:=ao (p.out.2 rfl);go_wp2_with fail
    go_ret
    exact⟨false,rfl,λd=>(by cases d),λ_=>f.out⟩
   ·have f:=ao (p.out.1 rfl);go_wp2_with fail;go_roundw
    case rel=>exact⟨j+1,by omega,by go_num,f.out⟩
    case measure=>simp[intOf];omega
  ·obtain rfl:j=L:=by omega
   go_wp2_with fail
   go_ret
   exact⟨true,rfl,λ_=>g.out,λd=>(by cases d)⟩
theorem Ab(N:Nat)(s0 s1:Int)(Y:ByteArray)(sa:Option Addr)(sl sc:Nat)(P Q:Int)(R:ByteArray)(ma:Option Addr)(U T:Nat)(l:Option Addr)(m ac:Nat)(o p:Int)(r:ByteArray)(s:Option Addr)(v u:Nat)(X n:Nat)(w:World)(S:World->Prop)(V:Bool->Tm (N+1)->World->Prop)(c:Int->World->Prop)(E:Hid (∀W,ai w W->ak 102 #[.pointer (some ⟨n,0,none⟩),.slice l m ac] W λe w'=>∃t,e=.returned (.bool t)/\Hid ((∀q a,w.heap.size<=q->W.heap[q]?=some a->w'.heap[q]?=some a)/\(t=true->S w')/\(t=false->c 2 w'))))(G:Hid (∀W,S W->ak 103 #[.pointer (some ⟨n,0,none⟩),.agg #[ab o,ab p,ae r,.slice s v u]] W λe w'=>∃(y:Tm (N+1))(t:Bool),e=.returned (.tuple #[.agg #[ab y.1.1,ab y.1.2.1,ae y.1.2.2,.slice y.2.1.1 y.2.2.length y.2.1.2],.bool t])/\Hid (V t y w')))(F:Hid (∀y d g,V false y d->ai d g->c 2 g))(HB:Hid (∀y d g,V true y d->ai d g->ak 104 #[.pointer (some ⟨X,0,none⟩),.agg #[ab y.1.1,ab y.1.2.1,ae y.1.2.2,.slice y.2.1.1 y.2.2.length y.2.1.2]] g λe w'=>∃t,e=.returned (.bool t)/\Hid ((t=false->c 3 w')/\(t=true->∃i,w'.cell? ⟨n,6,none⟩=some (.bool i)/\(i=true->c 1 w')/\(i=false->c 0 w'))))):ak 72 #[.pointer (some ⟨X,0,none⟩),.agg #[ab s0,ab s1,ae Y,.slice sa sl sc,ab P,ab Q,ae R,.slice ma U T,.slice l m ac,ab o,ab p,ae r,.slice s v u],.pointer (some ⟨n,0,none⟩)] w λe w'=>∃f,e=.returned (ab f)/\c f w':=by
 have H:Hid (∃x q a,(x=w.alloc a/\q=w.heap.size/\a=.cells #[ab s0,ab s1,ae Y,.slice sa sl sc,ab P,ab Q,ae R,.slice ma U T,.slice l m ac,ab o,ab p,ae r,.slice s v u] 147)/\ai w x/\x.heap[q]?=some a/\w.heap.size<=q/\∀W:World,W.heap[q]?=some a->W.cell? ⟨q,8,none⟩=some (.slice l m ac)/\W.cell? ⟨q,9,none⟩=some (ab o)/\W.cell? ⟨q,10,none⟩=some (ab p)/\W.cell? ⟨q,11,none⟩=some (ae r)/\W.cell? ⟨q,12,none⟩=some (.slice s v u)):=
  ⟨_,_,_,⟨rfl,rfl,rfl⟩,(am _ _).alloc (aj _) _,az _ _,aj _,λW h=>⟨af h 8,af h 9,af h 10,af h 11,af h 12⟩⟩
 go_enter Tryz.func72,Tryz.ntmps72;go_wp2_with fail;obtain⟨x,q,a,⟨D,L,K⟩,I,M,O,J⟩:=H.out;rw[K]at D;rw[<-D];have Z:=ao I;have ad:=ao J;have ag:=ao M;have ah:=ao O;rw[<-L];clear D L K I J M O H;refine(E.out _ Z.out).mono ?_;rintro e an ⟨t,rfl,j⟩;obtain⟨au,av,ap,aq,ar⟩:=ad.out an (j.out.1 q a ah.out ag.out);cases t
 ·have b:=ao (j.out.2.2 rfl);go_wp2_with fail
  go_ret
  exact⟨2,rfl,b.out⟩
 ·have al:=ao (j.out.2.1 rfl);clear j E;go_wp2_with fail;refine(G.out _ al.out).mono ?_;rintro e z ⟨y,t,rfl,A⟩;cases t
  ·have b:=ao λa=>F.out y z (z.alloc a) A.out ((am _ _).alloc (aj _) a);go_wp2_with fail
   go_ret
   exact⟨2,rfl,b.out _⟩
  ·have aa:=ao λa=>HB.out y z (z.alloc a) A.out ((am _ _).alloc (aj _) a);clear A G F HB;go_wp2_with fail;refine(aa.out _).mono ?_;rintro e ax ⟨t,rfl,k⟩;cases t
   ·have b:=ao (k.out.1 rfl);go_wp2_with fail
    go_ret
    exact⟨3,rfl,b.out⟩
   ·obtain⟨i,aw,C,B⟩:=k.out.2 rfl;cases i
    ·have b:=ao (B rfl);clear C B k;go_wp2_with fail
     go_ret
     exact⟨0,rfl,b.out⟩
    ·have b:=ao (C rfl);clear C B k;go_wp2_with fail
     go_ret
     exact⟨1,rfl,b.out⟩
structure ci where
 b:Nat
 o:Nat
 pre:List Value
 post:List Value
 t:TypeId
def ci.own(b:Nat):ci:=⟨b,0,[],[],103⟩
def HB(a:ci)(room:Int)(tv lv mv:Value)(w:World):Prop:=(a.pre.length=a.o/\(a.t=103\/a.t=107))/\w.heap[a.b]?=some (.cells (a.pre++ .int .i64 room::tv::lv::mv::a.post).toArray a.t)
theorem HB.lt{a:ci}{room:Int}{tv lv mv:Value}{w:World}(c:HB a room tv lv mv w):a.b<w.heap.size:=(aC.1 c.2).1
theorem HB.cells{a:ci}{room:Int}{tv lv mv:Value}{w:World}(c:HB a room tv lv mv w):(w.cell? ⟨a.b,a.o,none⟩=some (.int .i64 room)/\w.cell? ⟨a.b,a.o+1,none⟩=some tv/\w.cell? ⟨a.b,a.o+2,none⟩=some lv/\w.cell? ⟨a.b,a.o+3,none⟩=some mv)/\∀j,w.frozen? ⟨a.b,j,none⟩=false:=by
 obtain⟨⟨d,_⟩,e⟩:=c;refine⟨⟨?_,?_,?_,?_⟩,λj=>?_⟩
 all_goals simp[World.cell?,World.frozen?,e,<-d]
theorem HB.ty{a:ci}{room:Int}{tv lv mv:Value}{w:World}(c:HB a room tv lv mv w):a.t≠9/\a.t≠105:=by
 rcases c.1.2 with b|b<;>rw[b]<;>decide
theorem Cq{l:List Value}{a:ci}{k:Nat}{room:Int}{tv lv mv v:Value}(b:a.pre.length=a.o)(c:l=(.int .i64 room::tv::lv::mv::a.post).set k v):(a.pre++ .int .i64 room::tv::lv::mv::a.post).set (a.o+k) v=a.pre++l:=by
 subst c;rw[<-b,List.set_append,if_neg (by omega),show a.pre.length+k-a.pre.length=k by omega]
theorem HB.set1{a:ci}{room:Int}{tv lv mv:Value}{w:World}(c:HB a room tv lv mv w)(v:Value):HB a room v lv mv (w.setCell ⟨a.b,a.o+1,none⟩ v):=by
 refine⟨c.1,?_⟩;have d:=Cq (k:=1) (room:=room) (tv:=tv) (lv:=lv) (mv:=mv) (v:=v) c.1.1 rfl;simp only[dc,dd]at d;simp[World.setCell,bG,c.2,d]
theorem HB.set2{a:ci}{room:Int}{tv lv mv:Value}{w:World}(c:HB a room tv lv mv w)(v:Value):HB a room tv v mv (w.setCell ⟨a.b,a.o+2,none⟩ v):=by
 refine⟨c.1,?_⟩;have d:=Cq (k:=2) (room:=room) (tv:=tv) (lv:=lv) (mv:=mv) (v:=v) c.1.1 rfl;simp only[dc,dd]at d;simp[World.setCell,bG,c.2,d]
theorem HB.set3{a:ci}{room:Int}{tv lv mv:Value}{w:World}(c:HB a room tv lv mv w)(v:Value):HB a room tv lv v (w.setCell ⟨a.b,a.o+3,none⟩ v):=by
 refine⟨c.1,?_⟩;have d:=Cq (k:=3) (room:=room) (tv:=tv) (lv:=lv) (mv:=mv) (v:=v) c.1.1 rfl;simp only[dc,dd]at d;simp[World.setCell,bG,c.2,d]
theorem HB.kept{a:ci}{room:Int}{tv lv mv:Value}{w w':World}(c:HB a room tv lv mv w)(k:w'.heap[a.b]?=w.heap[a.b]?):HB a room tv lv mv w':=⟨c.1,k.trans c.2⟩
structure bO (S:Nat->Prop) (w w':World):Prop where
 os:w'.os=w.os
 tape:w'.tape=w.tape
 output:w'.output=w.output
 size:w.heap.size<=w'.heap.size
 block:∀b,b<w.heap.size->¬S b->w'.heap[b]?=w.heap[b]?
theorem bO.refl(S:Nat->Prop)(w:World):bO S w w:=⟨rfl,rfl,rfl,aj _,λ_ _ _=>rfl⟩
theorem bO.trans{S T:Nat->Prop}{w w1 w2:World}(a:bO S w w1)(k:bO T w1 w2)(e:∀b,b<w.heap.size->T b->S b):bO S w w2:=
 ⟨k.os.trans a.os,k.tape.trans a.tape,k.output.trans a.output,ax a.size k.size,λb c d=>(k.block b (aL c a.size) (λf=>d (e b c f))).trans (a.block b c d)⟩
theorem bO.mono{S T:Nat->Prop}{w w1:World}(a:bO S w w1)(c:∀b,S b->T b):bO T w w1:=⟨a.os,a.tape,a.output,a.size,λb d e=>a.block b d λk=>e (c b k)⟩
theorem aV{w w':World}(a:Below w.heap.size w w')(S:Nat->Prop):bO S w w':=⟨a.os,a.tape,a.output,a.size,λb c _=>a.block b c⟩
theorem Cz{w w':World}{row:Option Nat}(a:w.grownBy w' row):bO (λb=>row=some b) w w':=⟨a.os,a.tape,a.output,a.size,λb c d=>a.block b c λe=>d e.symm⟩
theorem bi(w:World)(q o:Nat)(v:Value):bO (λb=>b=q) w (w.setCell ⟨q,o,none⟩ v):=
 ⟨rfl,rfl,rfl,by simp[World.setCell],λb _ c=>by
  have:¬q=b:=λa=>c a.symm
  simp[World.setCell,bG,this]⟩
def mapBlock:Value->Option Nat
 | .map (some b)=>some b
 | _=>none
theorem vb:Keyed Tryz.prog 9:=string_keyed Tryz.underlying9
theorem qY(w:World):(zeroValue 3).run Tryz.prog w=.ok (.int .i64 0) w:=by kernel_rfl
def fD(l:List ByteArray):List Value:=l.map .string
def rh(D:DataW Unit)(nm:List ByteArray):Prop:=∀s:ByteArray,(Maps.has D (.string s.data.toList)=true ↔ s∈nm)/\∀i:Nat,nm[i]?=some s->D.atKey (.string s.data.toList) (.lit (.int .i64 0))=.lit (.int .i64 i)
def jy(base:Nat)(nm:List ByteArray)(lv mv:Value)(w:World):Prop:=
 w.ownsRow base 9 1 lv nm.length (fD nm)/\nm.Nodup/\
 ((mv=.map none/\nm=[]/\lv=.slice none 0 0)\/∃a b,mv=.map (some a)/\base<=a/\w.ownsMap Tryz.prog 9 (plainElem Tryz.prog 3) a nm.length b/\rh b nm/\lv.ownBlock≠some a)
theorem jy.kept{base:Nat}{nm:List ByteArray}{lv mv:Value}{w w':World}{S:Nat->Prop}(n:jy base nm lv mv w)(k:bO S w w')(o:∀b,lv.ownBlock=some b->¬S b)(p:∀b,mapBlock mv=some b->¬S b):jy base nm lv mv w':=by
 obtain⟨h,x,f⟩:=n;have v:w'.ownsRow base 9 1 lv nm.length (fD nm):=by
  refine⟨h.1,?_⟩;rcases h.2 with⟨c,m⟩|⟨d,cap,l,c,r,a,e⟩
  ·exact ag ⟨c,m⟩
  ·exact ah ⟨d,cap,l,c,r,(k.block d (aC.1 a).1 (o d (by rw[c];rfl))).trans a,e⟩
 refine⟨v,x,?_⟩;rcases f with f|⟨g,i,rfl,q,s,t,u⟩
 ·exact ag f
 ·refine ah ⟨g,i,rfl,q,?_,t,u⟩;obtain⟨es,j,a,e⟩:=s;exact⟨es,j,(k.block g (aC.1 a).1 (p g rfl)).trans a,e⟩
theorem CO{D:DataW Unit}{nm:List ByteArray}(d:rh D nm){s:ByteArray}{c:Int}(e:s∈nm)(a:D.atKey (.string s.data.toList) (.lit (.int .i64 0))=.lit (.int .i64 c)):∃i:Nat,nm[i]?=some s/\c=i:=by
 obtain⟨i,b⟩:=cJ e;have:=(d s).2 i b;rw[this]at a;simp at a;exact⟨i,b,a.symm⟩
theorem CM(a:ci)(room:Int)(tv lv:Value)(d:Nat)(D:DataW Unit)(nm:List ByteArray)(s:ByteArray)(w:World)(j:Hid (HB a room tv lv (.map (some d)) w))(l:Hid (w.ownsMap Tryz.prog 9 (plainElem Tryz.prog 3) d nm.length D))(f:Hid (rh D nm))(h:Hid (s∈nm))(x:s.size<=2048):Calls Tryz.prog 129 #[.pointer (some ⟨a.b,a.o+2,none⟩),.string s] w λe w'=>∃i:Nat,e=.returned (.int .i64 i)/\Hid (nm[i]?=some s)/\w'=w:=by
 have m:Maps.has D (.string s.data.toList)=true:=((f.out s).1).2 h.out;obtain⟨⟨q,r,t,u⟩,v⟩:=j.out.cells;go_enter Tryz.func129,Tryz.ntmps129;go_wp2_with (at_lookup;refine wpList_lookup_own_ok_int _ rfl _ _ 99 rfl 9 3 .i64 vb Tryz.underlying99 Tryz.underlying3 (qY _) d nm.length D rfl l.out _ _ rfl (lY Tryz.underlying9 (by unfold maxLen;omega)) ?_;intro c g p;have k:=ao (CO f.out h.out g);clear g p;rw[m]);obtain⟨i,n,rfl⟩:=k.out
 go_ret
 exact⟨i,rfl,n,rfl⟩
def qd(base:Nat)(d:ci)(room:Int)(tv lv mv:Value)(nm:List ByteArray)(s:ByteArray)(w w':World)(a c:Value):Prop:=
 HB d room tv a c w'/\jy base (nm++ [s]) a c w'/\bO (λb=>b=d.b\/lv.ownBlock=some b\/mapBlock mv=some b) w w'/\
 (∀b,a.ownBlock=some b->lv.ownBlock=some b\/w.heap.size<=b)/\∀b,mapBlock c=some b->mapBlock mv=some b\/w.heap.size<=b
theorem ul:(Tryz.prog.info? 9).map (λi=>(i.zero,i.size,i.bytes))=some (some (.string .empty),1,16):=by kernel_rfl
theorem Ej(l:List UInt8):WideAt.IsKeyLit (.string l):=by first|trivial|simp[WideAt.IsKeyLit]|decide
theorem AD{base:Nat}{d:ci}{room:Int}{tv lv:Value}{e:Nat}{D:DataW Unit}{nm:List ByteArray}{s:ByteArray}{w w1 w2 w4:World}{o:Obj}{g c:Nat}(m:HB d room tv lv (.map (some e)) w)(Q:base<=e)(R:nm.Nodup)(A:rh D nm)(E:s∉nm)(ad:s.size<=maxLen)(O:lv.ownBlock≠some e)(C:w.ownsRow base 9 1 lv nm.length (fD nm))(r:w.ownsMap Tryz.prog 9 (plainElem Tryz.prog 3) e nm.length D)(n:Below w.heap.size w w1)(S:w2.ownsRow base 9 1 (.slice (some ⟨g,0,none⟩) (nm.length+1) c) (nm.length+1) (fD nm++ [.string s]))(p:(w1.alloc o).grownBy w2 lv.ownBlock)(v:lv.ownBlock=some g\/g=w1.heap.size+1)(P:w4.ownsMap Tryz.prog 9 (plainElem Tryz.prog 3) e (nm.length+1) (D.put (.string s.data.toList) (.lit (.int .i64 nm.length))))(k:(w2.setCell ⟨d.b,d.o+2,none⟩ (.slice (some ⟨g,0,none⟩) (nm.length+1) c)).grownBy w4 (some e)):qd base d room tv lv (.map (some e)) nm s w w4 (.slice (some ⟨g,0,none⟩) (nm.length+1) c) (.map (some e)):=by
 have M:=m.lt;have aa:=r.lt;have ab:=n.size;have es:(w1.alloc o).heap.size=w1.heap.size+1:=by simp
 have Z:=p.size;have T:d.b≠e:=by
  rintro rfl;obtain⟨es,W,x,_⟩:=r;have f:w.heap[d.b]?=_:=m.2;rw[x]at f;cases f
 have B:lv.ownBlock≠some d.b:=λa=>by
  rcases C.2 with⟨rfl,_⟩|⟨Y,cap,X,rfl,_,x,_⟩
  ·simp[Value.ownBlock]at a
  ·simp[Value.ownBlock]at a;subst a;have f:w.heap[d.b]?=_:=m.2;rw[x]at f;injection f with f;injection f with f G;exact m.ty.1 G.symm
 have q:∀b,lv.ownBlock=some b->b<w.heap.size:=λb a=>(C.lt b a).2;have L:g≠d.b:=by
  rintro rfl;rcases v with a|a
  ·exact B a
  ·omega
 have z:g≠e:=by
  rintro rfl;rcases v with a|a
  ·exact O a
  ·omega
 have f:∀b,b<w.heap.size->lv.ownBlock≠some b->w2.heap[b]?=w.heap[b]? :=λb j h=>((p.block b (by omega) (λa=>h a.symm)).trans ((cW w1 o none).block b (by omega) (by simp))).trans (n.block b j);have y:=bi w2 d.b (d.o+2) (.slice (some ⟨g,0,none⟩) (nm.length+1) c);have U:=y.size;have ae:=k.size;have H:HB d room tv lv (.map (some e)) w2:=m.kept (f d.b M B);have I:=H.set2 (.slice (some ⟨g,0,none⟩) (nm.length+1) c);have J:HB d room tv (.slice (some ⟨g,0,none⟩) (nm.length+1) c) (.map (some e)) w4:=I.kept (k.block d.b (by omega) (λa=>T (au a)));refine⟨J,⟨?_,?_,ah ⟨e,_,rfl,Q,by simpa using P,?_,?_⟩⟩,⟨?_,?_,?_,?_,?_⟩,?_,?_⟩
 ·have a:fD (nm++ [s])=fD nm++ [.string s]:=by simp[fD]
  rw[a,bf];have N:w2.grownBy (w2.setCell ⟨d.b,d.o+2,none⟩ (.slice (some ⟨g,0,none⟩) (nm.length+1) c)) (some d.b):=⟨rfl,rfl,rfl,U,λb j h=>y.block b j (λa=>h (by rw[a]))⟩;refine oN (oN S N (ah ?_)) k (ah ?_)
  ·simp only[Value.ownBlock];exact λa=>L (au a)
  ·simp only[Value.ownBlock];exact λa=>z (au a)
 ·rw[eL];refine⟨R,by simp,λV K b j=>?_⟩;simp at j;subst j;exact λa=>E (a▸K)
 ·intro t;by_cases u:t=s
  ·subst u;refine⟨?_,λl i=>?_⟩
   ·rw[has_put_same r.isMap (Ej _)];simp
   ·rw[atKey_put_same r.isMap (Ej _)];have:l=nm.length:=by
     by_cases q:l<nm.length
     ·rw[dg q]at i;exact absurd (aG i) E
     ·have:=(aM.1 i).1;simp at this;omega
    rw[this]
  ·have h:(Lit.string t.data.toList)≠(Lit.string s.data.toList):=λa=>u (by
     injection a with a;cases t;cases s;simp only at a
     rw[lX.1 a])
   refine⟨?_,λl i=>?_⟩
   ·rw[has_put_other h,(A t).1];simp[u]
   ·rw[atKey_put_other h];refine(A t).2 l ?_;by_cases q:l<nm.length
    ·rw[dg q]at i;exact i
    ·have F:=(aM.1 i).1;simp at F;have:l=nm.length:=by omega
     subst this;simp at i;exact absurd i.symm u
 ·simp only[Value.ownBlock];exact λa=>z (au a)
 ·exact(k.os.trans p.os).trans n.os
 ·exact(k.tape.trans p.tape).trans n.tape
 ·exact(k.output.trans p.output).trans n.output
 ·omega
 ·intro b j h;simp only[mapBlock,not_or]at h;exact(k.block b (by omega) (λa=>h.2.2 a.symm)).trans ((y.block b (by omega) h.1).trans (f b j h.2.1))
 ·intro b a;simp only[Value.ownBlock]at a;obtain rfl:=au a;rcases v with a|a
  ·exact ag a
  ·exact ah (by omega)
 ·exact λb a=>ag a
theorem uL(w:World)(s:ByteArray):∀j b,[Value.string s][j]?=some b->(w.alloc (.cells #[.string s] 9)).cell? ((⟨w.heap.size,0,none⟩:Addr).add j)=some b:=by
 intro j b a;rw[eV];cases j with
 | zero=>simp at a;subst a;simp[go_sem]
 | succ j=>simp at a
theorem AC{base:Nat}{c:ci}{room:Int}{tv lv i mv:Value}{nm:List Value}{n:Nat}{w:World}(h:w.ownsRow base 9 1 lv n nm)(d:HB c room tv i mv w):lv.ownBlock≠some c.b:=λe=>by
 rcases h.2 with⟨rfl,_⟩|⟨k,cap,j,rfl,_,g,_⟩
 ·simp[Value.ownBlock]at e
 ·simp[Value.ownBlock]at e;subst e;have a:w.heap[c.b]?=_:=d.2;rw[g]at a;injection a with a;injection a with a f;exact d.ty.1 f.symm
theorem sn{c:ci}{lv v:Value}{w1 w2:World}{o:Obj}(i:c.b<w1.heap.size)(k:lv.ownBlock≠some c.b)(h:(w1.alloc o).grownBy w2 lv.ownBlock)(g:∀j,w1.frozen? ⟨c.b,j,none⟩=false)(f:w1.cell? ⟨c.b,c.o+2,none⟩=some v):w2.cell? ⟨c.b,c.o+2,none⟩=some v/\w2.frozen? ⟨c.b,c.o+2,none⟩=false:=by
 have d:w2.heap[c.b]?=w1.heap[c.b]? :=(h.block c.b (by simp;omega) (λe=>k e.symm)).trans ((cW w1 o none).block c.b i (by simp));exact⟨(bm d _).trans f,(iN (a:=⟨c.b,c.o+2,none⟩) d).trans (g _)⟩
theorem sk{a:ci}{lv v:Value}{w1 w2:World}{o:Obj}(g:a.b<w1.heap.size)(h:lv.ownBlock≠some a.b)(f:(w1.alloc o).grownBy w2 lv.ownBlock)(e:w1.cell? ⟨a.b,a.o+3,none⟩=some v):w2.cell? ⟨a.b,a.o+3,none⟩=some v:=by
 have d:w2.heap[a.b]?=w1.heap[a.b]? :=(f.block a.b (by simp;omega) (λc=>h c.symm)).trans ((cW w1 o none).block a.b g (by simp));exact(bm d _).trans e
theorem wk{c:ci}{d L:Nat}{lv:Value}{D:DataW Unit}{w1 w2:World}{o:Obj}(h:w1.ownsMap Tryz.prog 9 (plainElem Tryz.prog 3) d L D)(i:c.b≠d)(g:lv.ownBlock≠some d)(f:(w1.alloc o).grownBy w2 lv.ownBlock)(v:Value):(w2.setCell ⟨c.b,c.o+2,none⟩ v).ownsMap Tryz.prog 9 (plainElem Tryz.prog 3) d L D:=
 (((h.alloc o).kept f (λe=>g e.symm))).setCell (a:=⟨c.b,c.o+2,none⟩) (λe=>i e.symm) v
theorem CL(base:Nat)(a:ci)(room:Int)(tv lv:Value)(O:Option Addr)(P L:Nat)(d:Nat)(D:DataW Unit)(nm:List ByteArray)(s:ByteArray)(w:World)(ah:lv=.slice O L P)(Q:Hid (nm.length=L))(ax:L<=100000)(f:Hid (HB a room tv lv (.map (some d)) w))(ai:Hid (base<=d))(ay:base<=w.heap.size)(aj:Hid (nm.Nodup))(k:Hid (w.ownsMap Tryz.prog 9 (plainElem Tryz.prog 3) d L D))(u:Hid (rh D nm))(I:Hid (s∉nm))(ak:s.size<=2048)(E:Hid (lv.ownBlock≠some d))(q:Hid (w.ownsRow base 9 1 lv L (fD nm))):Calls Tryz.prog 129 #[.pointer (some ⟨a.b,a.o+2,none⟩),.string s] w λe w'=>e=.returned (.int .i64 L)/\∃an ap,Hid (qd base a room tv lv (.map (some d)) nm s w w' an ap):=by
 subst ah;have af:Maps.has D (.string s.data.toList)=false:=by
  cases h:Maps.has D (.string s.data.toList)
  ·rfl
  ·exact absurd (((u.out s).1).1 h) I.out
 obtain⟨am,C,J,K,M⟩:=bQ ul;have l:=ao (⟨C,J,K,M⟩:_/\_/\_/\_);clear C J K M;obtain⟨⟨U,V,r,W⟩,ab⟩:=f.out.cells;have az:∀(w:World)(m:Option Nat),(binOp .eql 99 (.map m) (.map none)).run Tryz.prog w=.ok (.bool m.isNone) w:=λw m=>run_eql_map_nil w _ _ _ m Tryz.underlying99;go_enter Tryz.func129,Tryz.ntmps129;go_wp2_with (at_lookup;refine wpList_lookup_own_ok_int _ rfl _ _ 99 rfl 9 3 .i64 vb Tryz.underlying99 Tryz.underlying3 (qY _) d L D rfl k.out _ _ rfl (lY Tryz.underlying9 (by unfold maxLen;omega)) ?_;intro c aa al;clear aa al;rw[af]);refine(dF s _ ak).mono ?_;rintro e j ⟨rfl,g⟩;have A:a.b<w.heap.size:=f.out.lt;have p:=ao g;obtain⟨⟨ar,d1,X,Y⟩,ad⟩:=(f.out.kept (g.block a.b A)).cells;have B:a.b<j.heap.size:=aL A g.size;have T:Hid (a.b≠d):=by
  rintro rfl;obtain⟨es,aq,ae,_⟩:=k.out;have x:w.heap[a.b]?=_:=f.out.2;rw[ae]at x;cases x
 have v:Hid ((Value.slice O L P).ownBlock≠some a.b):=AC q.out f.out;have R:Hid (j.ownsMap Tryz.prog 9 (plainElem Tryz.prog 3) d L D):=k.out.kept (cH g none) (by simp);clear g U V r W ab
 go_wp2_with (first
  | (at_builtin;refine wpList_append_lies _ rfl _ _ 98 rfl base 9 am _ 1 16 Tryz.underlying98 l.out.1 l.out.2.1 l.out.2.2.1 l.out.2.2.2 rfl (by decide) _ L _ rfl ((dG q.out p.out).alloc _) ⟨j.heap.size,0,none⟩ 1 1 [.string s] rfl rfl (uL j s) (by intro aA N;simp at N;subst N;rfl) (by decide) (by unfold maxLen;omega) (by omega) (by have:=p.out.size;simp;omega) (j.heap.size+1) (by simp) ?_;intro Z r aB G i y F;have n:=ao (⟨G,i,y,F⟩:_/\_/\_/\_);obtain⟨au,aw⟩:=sn B v.out i ad X;have av:=sk B v.out i Y;have S:=ao (wk R.out T.out E.out i (.slice (some ⟨Z,0,none⟩) (L+1) r));clear G i y F)
  | (at_mapUpdate;refine wpList_mapUpdate_own _ rfl _ _ _ 99 rfl 9 3 vb Tryz.underlying99 (plainElem Tryz.prog 3) d L D rfl S.out (by unfold maxLen;omega) _ _ _ rfl rfl (lY Tryz.underlying9 (by unfold maxLen;omega)) (.lit (.int .i64 L)) [] (plainElem_int Tryz.underlying3 (ib (by omega))) ?_;intro aC H z;have t:=ao (⟨H,z⟩:_/\_);clear H z))
 go_ret
 have ag:=Q.out;subst ag;exact⟨rfl,_,_,AD f.out ai.out aj.out u.out I.out (by unfold maxLen;omega) E.out q.out k.out p.out n.out.1 n.out.2.1 n.out.2.2.1 t.out.1 t.out.2⟩
theorem Cg{base:Nat}{c:ci}{room:Int}{tv lv e f:Value}{s:ByteArray}{w wA w4:World}(g:qd base c room tv lv (.map (some w.heap.size)) [] s wA w4 e f)(k:bO (λb=>b=c.b) w wA)(o:wA.heap.size=w.heap.size+1):qd base c room tv lv (.map none) [] s w w4 e f:=by
 obtain⟨h,i,j,l,m⟩:=g;refine⟨h,i,?_,?_,?_⟩
 ·refine(k.mono λb d=>ag d).trans j λb d n=>?_;rcases n with a|a|a
  ·exact ag a
  ·exact ah (ag a)
  ·simp only[mapBlock]at a;have:=au a;omega
 ·intro b a;rcases l b a with a|a
  ·exact ag a
  ·exact ah (by omega)
 ·intro b a;rcases m b a with a|a
  ·simp only[mapBlock]at a;have:=au a;exact ah (by omega)
  ·exact ah (by omega)
theorem I6:rh (.map []) []:=λs=>⟨by simp[Maps.has],λi a=>by simp at a⟩
theorem ym(base:Nat)(a:ci)(room:Int)(tv lv:Value)(s:ByteArray)(w:World)(X:lv=.slice none 0 0)(k:Hid (HB a room tv lv (.map none) w))(S:base<=w.heap.size)(ab:s.size<=2048):Calls Tryz.prog 129 #[.pointer (some ⟨a.b,a.o+2,none⟩),.string s] w λe w'=>e=.returned (.int .i64 0)/\∃ae af,Hid (qd base a room tv lv (.map none) [] s w w' ae af):=by
 subst X;obtain⟨ad,v,B,C,D⟩:=bQ ul;have h:=ao (⟨v,B,C,D⟩:_/\_/\_/\_);clear v B C D;obtain⟨⟨M,N,l,O⟩,T⟩:=k.out.cells;have V:a.b<w.heap.size:=k.out.lt;have am:∀(w:World)(i:Option Nat),(binOp .eql 99 (.map i) (.map none)).run Tryz.prog w=.ok (.bool i.isNone) w:=λw i=>run_eql_map_nil w _ _ _ i Tryz.underlying99;have W:(Instr.lookup 99 (.map none) (.string s) true).run Tryz.prog w=.ok (.tuple #[.int .i64 0,.bool false]) w:=by
  simpa using Maps.look_nil (w:=w) true vb Tryz.underlying99 (qY _) (lY Tryz.underlying9 (show s.size<=maxLen by unfold maxLen;omega))
 have Y:= @run_makeMap Tryz.prog;go_enter Tryz.func129,Tryz.ntmps129;go_wp2_with fail;generalize F:(w.setCell ⟨a.b,a.o+3,none⟩ (.map (some w.heap.size))).alloc (.map #[] 0)=wA;have c:Hid (HB a room tv (.slice none 0 0) (.map (some w.heap.size)) wA/\wA.ownsMap Tryz.prog 9 (plainElem (H:=Unit) Tryz.prog 3) w.heap.size 0 (.map [])/\bO (λb=>b=a.b) w wA/\wA.heap.size=w.heap.size+1):=by
  subst F;have es:(w.setCell ⟨a.b,a.o+3,none⟩ (.map (some w.heap.size))).heap.size=w.heap.size:=by simp[World.setCell]
  have y:=oM (w.setCell ⟨a.b,a.o+3,none⟩ (.map (some w.heap.size))) Tryz.prog 9 (plainElem (H:=Unit) Tryz.prog 3);rw[es]at y;refine⟨(k.out.set3 (.map (some w.heap.size))).kept ((cW _ _ none).block a.b (by rw[es];exact V) (by simp)),y,⟨rfl,rfl,rfl,by simp[World.setCell],λb q Z=>?_⟩,by simp[World.setCell]⟩;exact((cW _ _ none).block b (by rw[es];exact q) (by simp)).trans ((bi w a.b (a.o+3) (.map (some w.heap.size))).block b q Z)
 clear F M N l O T W Y;refine(dF s _ ab).mono ?_;rintro e f ⟨rfl,d⟩;have u:a.b<wA.heap.size:=c.out.1.lt;have G:=ao d;obtain⟨⟨ag,d1,P,Q⟩,U⟩:=(c.out.1.kept (d.block a.b u)).cells;have t:a.b<f.heap.size:=aL u d.size;have L:Hid (a.b≠w.heap.size):=by unfold Hid;omega
 have n:Hid ((Value.slice none 0 0).ownBlock≠some a.b):=by simp[Hid,Value.ownBlock]
 have J:Hid (f.ownsMap Tryz.prog 9 (plainElem (H:=Unit) Tryz.prog 3) w.heap.size 0 (.map [])):=c.out.2.1.kept (cH d none) (by simp);have I:Hid (base<=f.heap.size):=by have ak:=c.out.2.2.2;have al:=d.size;unfold Hid;omega
 clear d
 go_wp2_with (first
  | (at_builtin;refine wpList_append_lies _ rfl _ _ 98 rfl base 9 ad _ 1 16 Tryz.underlying98 h.out.1 h.out.2.1 h.out.2.2.1 h.out.2.2.2 rfl (by decide) _ 0 [] rfl (ek _ _ _ _) ⟨f.heap.size,0,none⟩ 1 1 [.string s] rfl rfl (uL f s) (by intro an E;simp at E;subst E;rfl) (by decide) (by unfold maxLen;omega) (by omega) (by have:=I.out;simp;omega) (f.heap.size+1) (by simp) ?_;intro R l ap z g p x;have j:=ao (⟨z,g,p,x⟩:_/\_/\_/\_);obtain⟨ah,aj⟩:=sn t n.out g U P;have ai:=sk t n.out g Q;have K:=ao (wk (lv:=.slice none 0 0) J.out L.out (by simp[Value.ownBlock]) g (.slice (some ⟨R,0,none⟩) (0+1) l));clear z g p x)
  | (at_mapUpdate;refine wpList_mapUpdate_own _ rfl _ _ _ 99 rfl 9 3 vb Tryz.underlying99 (plainElem Tryz.prog 3) w.heap.size 0 (.map []) rfl K.out (by unfold maxLen;omega) _ _ _ rfl rfl (lY Tryz.underlying9 (by unfold maxLen;omega)) (.lit (.int .i64 0)) [] (plainElem_int Tryz.underlying3 (ib (by omega))) ?_;intro aq A r;have m:=ao (⟨A,r⟩:_/\_);clear A r))
 go_ret
 have aa:=AD (nm:=[]) c.out.1 S (by simp) I6 (by simp) (show s.size<=maxLen by unfold maxLen;omega) (by simp[Value.ownBlock]) (ek _ _ _ _) c.out.2.1 G.out j.out.1 j.out.2.1 j.out.2.2.1 m.out.1 m.out.2;exact⟨rfl,_,_,Cg aa c.out.2.2.1 c.out.2.2.2⟩
theorem CK(base:Nat)(a:ci)(room:Int)(tv lv mv:Value)(nm:List ByteArray)(s:ByteArray)(w:World)(g:HB a room tv lv mv w)(J:jy base nm lv mv w)(C:base<=w.heap.size)(I:nm.length<=100000)(r:s.size<=2048):Calls Tryz.prog 129 #[.pointer (some ⟨a.b,a.o+2,none⟩),.string s] w λe w'=>∃i:Nat,e=.returned (.int .i64 i)/\∃j d f,Hid (j[i]?=some s/\(j=nm\/j=nm++ [s])/\HB a room tv d f w'/\jy base j d f w'/\bO (λb=>b=a.b\/lv.ownBlock=some b\/mapBlock mv=some b) w w'/\ (∀b,d.ownBlock=some b->lv.ownBlock=some b\/w.heap.size<=b)/\∀b,mapBlock f=some b->mapBlock mv=some b\/w.heap.size<=b):=by
 obtain⟨m,B,H⟩:=J;rcases H with⟨rfl,rfl,n⟩|⟨h,k,rfl,E,p,q,D⟩
 ·refine(ym base a room tv lv s w n g C r).mono ?_;rintro e w' ⟨rfl,d,f,l⟩;obtain⟨t,u,v,x,y⟩:=l.out;exact⟨0,rfl,[s],d,f,rfl,ah rfl,t,u,v,x,y⟩
 ·by_cases F:s∈nm
  ·refine(CM a room tv lv h k nm s w g p q F r).mono ?_;rintro e w' ⟨i,rfl,K,rfl⟩;exact⟨i,rfl,nm,lv,.map (some h),K.out,ag rfl,g,⟨m,B,ah ⟨h,k,rfl,E,p,q,D⟩⟩,bO.refl _ _,λb e=>ag e,λb e=>ag e⟩
  ·obtain⟨z,A,n⟩:∃z A,lv=.slice z nm.length A:=by
     rcases m.2 with⟨e,G⟩|⟨M,c,L,e,_⟩
     ·exact⟨none,0,by rw[e,G]⟩
     ·exact⟨_,c,e⟩
   refine(CL base a room tv lv z A nm.length h k nm s w n rfl I g E C B p q F r D m).mono ?_;rintro e w' ⟨rfl,d,f,l⟩;obtain⟨t,u,v,x,y⟩:=l.out;exact⟨nm.length,rfl,nm++ [s],d,f,by simp,ah rfl,t,u,v,x,y⟩
abbrev Wd:=Int×Int
def ph(x:Wd):List Value:=[ab x.1,ab x.2]
def aU(l:List Wd):List Value:=l.flatMap ph
theorem co(l:List Wd):(aU l).length=l.length*2:=by
 induction l with
 | nil=>rfl
 | cons a l ih=>
  have:aU (a::l)=ph a++aU l:=rfl;rw[this,bf,ih,aZ];have:(ph a).length=2:=rfl;omega
theorem pe(l r:List Wd):aU (l++r)=aU l++aU r:=by simp[aU]
theorem pV(l:List Wd):∀b∈aU l,b.oneCell'=true:=by
 intro b a;simp only[aU,jg]at a;obtain⟨c,_,a⟩:=a;simp[ph]at a;rcases a with rfl|rfl<;>rfl
theorem iE(l:List Wd)(k:Nat)(x:Wd)(a:l[k]?=some x)(j:Nat)(e:j<2):(aU l)[k*2+j]?=(ph x)[j]? :=by
 induction l generalizing k with
 | nil=>simp at a
 | cons b l ih=>
  have c:aU (b::l)=ph b++aU l:=rfl;have d:(ph b).length=2:=rfl;rw[c];cases k with
  | zero=>
   simp at a;subst a;rw[dg (by omega)];simp
  | succ k=>
   rw[dN (by omega),d,show (k+1)*2+j-2=k*2+j by omega];exact ih k (by simpa using a)
theorem kA:(Tryz.prog.info? 105).map (λi=>(i.zero,i.size,i.bytes))=some (some (.agg #[ab 0,ab 0]),2,16):=by kernel_rfl
theorem JR(w:World)(x:Wd):∀j b,(ph x)[j]?=some b->(w.alloc (.cells #[ab x.1,ab x.2] 105)).cell? ((⟨w.heap.size,0,none⟩:Addr).add j)=some b:=by
 intro j b a;rw[eV];have:j<2:=(aM.1 a).1;have c:j=0\/j=1:=by omega
 rcases c with rfl|rfl<;>simp[ph]at a<;>subst a<;>simp[go_sem]
theorem LQ(x:Wd):∀b∈ph x,b.oneCell'=true:=by
 intro b a;simp[ph]at a;rcases a with rfl|rfl<;>rfl
theorem rM{P:Program}(w:World)(t a ty e d:TypeId)(g:P.underlying t=some (.slice e))(h:P.underlying a=some (.slice d))(i:TypeInfo)(f:P.info? e=some i)(b xa:Option Addr)(n c m xc:Nat):(Builtin.append_ #[t,a] ty #[.slice b n c,.slice xa m xc]).run P w=(Builtin.append_ #[t,t] ty #[.slice b n c,.slice xa m xc]).run P w:=by
 simp[Builtin.append_,ch g,ch h,sizeOf,typeInfo,f,Builtin.lenOf]
theorem mZ{P:Program}(w:World)(t c ty e d:TypeId)(i:TypeInfo)(k:P.underlying t=some (.slice e))(l:P.underlying c=some (.slice d))(g:P.info? e=some i)(b xa:Option Addr)(n cap xc:Nat)(j:n<=cap):(Builtin.append_ #[t,c] ty #[.slice b n cap,.slice xa 0 xc]).run P w=.ok (.slice b n cap) w:=by
 have h:∀a:Addr,(loadCells a 0).run P w=.ok #[] w:=λa=>run_loadCells_list (P:=P) w a [] (λm o f=>by simp at f);cases b<;>cases xa<;>simp[Builtin.append_,ch k,ch l,sizeOf,typeInfo,g,Builtin.lenOf,Builtin.firstCells,j,storeCells,h]
def eQ(w:World)(ps:List Wd)(xa:Option Addr):Prop:=ps=[]\/∃ad,xa=some ad/\∀j a,(aU ps)[j]?=some a->w.cell? (ad.add j)=some a
theorem rN{base:Nat}{v:Value}{n m xc:Nat}{xs:List Value}{ps:List Wd}{xa:Option Addr}{w:World}(ty:TypeId)(c:w.ownsRow base 105 2 v n xs)(t:eQ w ps xa)(g:ps.length=m)(z:n+m<=200000)(q:base<=w.heap.size):∃a w',(Builtin.append_ #[97,96] ty #[v,.slice xa m xc]).run Tryz.prog w=.ok a w'/\w'.ownsRow base 105 2 a (n+m) (xs++aU ps)/\w.grownBy w' v.ownBlock/\(a.ownBlock=v.ownBlock\/a.ownBlock=some w.heap.size):=by
 obtain⟨f,d,u,x,y⟩:=bQ kA;rcases t with rfl|⟨ad,rfl,r⟩
 ·obtain rfl:m=0:=g.symm;obtain⟨b,cap,e,s⟩:∃b cap,v=.slice b n cap/\n<=cap:=by
   rcases c.2 with⟨rfl,rfl⟩|⟨i,cap,h,rfl,_,_,j,_⟩
   ·exact⟨none,0,rfl,aj _⟩
   ·exact⟨_,cap,rfl,j⟩
  subst e;refine⟨_,w,mZ w _ _ ty _ _ f Tryz.underlying97 Tryz.underlying96 d b xa n cap xc s,by simpa [aU]using c,gh _ _,ag rfl⟩
 ·obtain⟨b,cap,e⟩:∃b cap,v=.slice b n cap:=by
    rcases c.2 with⟨rfl,rfl⟩|⟨i,cap,h,rfl,_⟩
    ·exact⟨none,0,rfl⟩
    ·exact⟨_,cap,rfl⟩
  subst e;rw[rM w _ _ ty _ _ Tryz.underlying97 Tryz.underlying96 f d];obtain⟨a,w',k,l,o,_,p⟩:=run_append_own_at (P:=Tryz.prog) w base 97 ty 105 f _ 2 16 Tryz.underlying97 d u x y rfl (by decide) _ n xs c ad m xc (aU ps) (by rw[co,g]) r (pV _) (by unfold maxLen;omega) (by omega) q;exact⟨a,w',k,l,o,p⟩
theorem oV{w:World}{c:Array Oper}{d:List Oper}{o:Oper}{a:Act}{Q:Exit->Act->World->Prop}(l:o.guard=none)(s x:Operand)(q:o.op=.call {callee:=.builtin .append,args:= #[s,x],argTypes:= #[97,96]}){base:Nat}{v:Value}{n m xc:Nat}{xs:List Value}{ps:List Wd}{xa:Option Addr}(u:a.eval s=v)(z:a.eval x=.slice xa m xc)(r:w.ownsRow base 105 2 v n xs)(y:eQ w ps xa)(p:ps.length=m)(h:n+m<=200000)(k:base<=w.heap.size)(i:∀b w',w'.ownsRow base 105 2 b (n+m) (xs++aU ps)->w.grownBy w' v.ownBlock->(b.ownBlock=v.ownBlock\/b.ownBlock=some w.heap.size)->wpList Tryz.prog c Q d (a.put o.dst b) w'):wpList Tryz.prog c Q (o::d) a w:=
 wpList_plain l λA j=>by
  obtain⟨b,w',t,e,f,g⟩:=rN (xc:=xc) o.type r y p h k;unfold Oper.wp execOp;simp only[q,resolve,invoke,builtin,Sem.run_bind,Sem.run_pure,mq,mg,aI,bR,u,z,t];exact j _ _ (i b w' e f g)
def LX(base a po:Nat)(tv:Value)(ws ps:List Wd)(w w':World)(c:Value):Prop:=
 w'.ownsRow base 105 2 c (ws.length+1+ps.length) (aU (ws++(0,(ps.length:Int))::ps))/\w'.heap[a]?=(w.setCell ⟨a,po,none⟩ c).heap[a]? /\
 bO (λb=>b=a\/tv.ownBlock=some b) w w'/\∀b,c.ownBlock=some b->(tv.ownBlock=some b\/w.heap.size<=b)
theorem EK{b po:Nat}{v:Value}{w w2:World}{o c:Obj}{row:Option Nat}(i:b<w.heap.size)(j:row≠some b)(f:((w.alloc o).alloc c).grownBy w2 row)(g:w.cell? ⟨b,po,none⟩=some v)(h:w.frozen? ⟨b,po,none⟩=false):w2.cell? ⟨b,po,none⟩=some v/\w2.frozen? ⟨b,po,none⟩=false/\b<w2.heap.size:=by
 have d:((w.alloc o).alloc c).heap.size=w.heap.size+2:=by simp
 have e:w2.heap[b]?=w.heap[b]? :=((f.block b (by omega) (λd=>j d.symm)).trans ((cW (w.alloc o) c none).block b (by simp;omega) (by simp))).trans ((cW w o none).block b i (by simp));have:=f.size;exact⟨(bm e po).trans g,(iN (a:=⟨b,po,none⟩) e).trans h,by omega⟩
theorem Ks{base a:Nat}{tv:Value}{L c e:Nat}{ys:List Value}{ps:List Wd}{pa:Option Addr}{w w2:World}{o j:Obj}(u:a<w.heap.size)(s:base<=w.heap.size)(i:tv.ownBlock≠some a)(q:w2.ownsRow base 105 2 (.slice (some ⟨c,0,none⟩) (L+1) e) (L+1) ys)(f:((w.alloc o).alloc j).grownBy w2 tv.ownBlock)(k:tv.ownBlock=some c\/c=w.heap.size+2)(po:Nat)(r:∀w1,bO (λb=>b=a\/tv.ownBlock=some b) w w1->eQ w1 ps pa):(w2.setCell ⟨a,po,none⟩ (.slice (some ⟨c,0,none⟩) (L+1) e)).ownsRow base 105 2 (.slice (some ⟨c,0,none⟩) (L+1) e) (L+1) ys/\eQ (w2.setCell ⟨a,po,none⟩ (.slice (some ⟨c,0,none⟩) (L+1) e)) ps pa/\base<=(w2.setCell ⟨a,po,none⟩ (.slice (some ⟨c,0,none⟩) (L+1) e)).heap.size:=by
 have n:c≠a:=by
  rintro rfl;rcases k with d|d
  ·exact i d
  ·omega
 have d:((w.alloc o).alloc j).heap.size=w.heap.size+2:=by simp
 have t:=f.size;have g:=bi w2 a po (.slice (some ⟨c,0,none⟩) (L+1) e);have p:bO (λb=>b=a\/tv.ownBlock=some b) w (w2.setCell ⟨a,po,none⟩ (.slice (some ⟨c,0,none⟩) (L+1) e)):=by
  refine⟨?_,?_,?_,?_,?_⟩
  ·exact f.os
  ·exact f.tape
  ·exact f.output
  ·have:=g.size;omega
  ·intro b l h;simp only[not_or]at h;exact(g.block b (by omega) h.1).trans (((f.block b (by omega) (λd=>h.2 d.symm)).trans ((cW (w.alloc o) j none).block b (by simp;omega) (by simp))).trans ((cW w o none).block b l (by simp)))
 refine⟨oN q (row:=some a) ⟨rfl,rfl,rfl,g.size,λb m i=>g.block b m (λd=>i (by rw[d]))⟩ (ah ?_),r _ p,by have:=g.size;omega⟩;simp only[Value.ownBlock];exact λd=>n (au d)
theorem He{base d po:Nat}{tv:Value}{L e f:Nat}{xs:List Value}{w w2 w4:World}{i:Obj}{v0 v1 y:Value}{g:Nat}(B:d<w.heap.size)(x:w.ownsRow base 105 2 tv L xs)(v:tv.ownBlock≠some d)(l:((w.alloc (.cells #[v0,v1] 105)).alloc i).grownBy w2 tv.ownBlock)(k:tv.ownBlock=some e\/e=w.heap.size+2)(r:(w2.setCell ⟨d,po,none⟩ (.slice (some ⟨e,0,none⟩) g f)).grownBy w4 (Value.slice (some ⟨e,0,none⟩) g f).ownBlock)(p:w2.cell? ⟨d,po,none⟩=some y)(q:w2.frozen? ⟨d,po,none⟩=false):(w4.cell? ⟨w.heap.size,0,none⟩=some v0/\w4.cell? ⟨w.heap.size,1,none⟩=some v1)/\(w4.frozen? ⟨w.heap.size,0,none⟩=false/\w4.frozen? ⟨w.heap.size,1,none⟩=false)/\w4.cell? ⟨d,po,none⟩=some (.slice (some ⟨e,0,none⟩) g f)/\w4.frozen? ⟨d,po,none⟩=false:=by
 have m:∀b,tv.ownBlock=some b->b<w.heap.size:=λb c=>(x.lt b c).2;have c:((w.alloc (.cells #[v0,v1] 105)).alloc i).heap.size=w.heap.size+2:=by simp
 have A:=l.size;have o:=bi w2 d po (.slice (some ⟨e,0,none⟩) g f);have C:=o.size;have t:e≠w.heap.size:=by
  rintro rfl;rcases k with c|c
  ·have:=m _ c;omega
  ·omega
 have s:e≠d:=by
  rintro rfl;rcases k with c|c
  ·exact v c
  ·omega
 have j:∀b,b<w2.heap.size->b≠e->w4.heap[b]?=(w2.setCell ⟨d,po,none⟩ (.slice (some ⟨e,0,none⟩) g f)).heap[b]? :=λb z u=>r.block b (by omega) (λc=>u (au c));have h:w4.heap[w.heap.size]?=some (.cells #[v0,v1] 105):=by
  refine(j _ (by omega) (λc=>t c.symm)).trans ((o.block _ (by omega) (by omega)).trans ((l.block _ (by omega) (λc=>by have:=m _ c.symm;omega)).trans (((cW (w.alloc (.cells #[v0,v1] 105)) i none).block _ (by simp) (by simp)).trans (az w _))))
 have n:=j d (by omega) (λc=>s c.symm);refine⟨⟨by simp[World.cell?,h],by simp[World.cell?,h]⟩,⟨by simp[World.frozen?,h],by simp[World.frozen?,h]⟩,?_,?_⟩
 ·rw[bm n po];simp[go_sem,p]
 ·rw[iN (a:=⟨d,po,none⟩) n];simp[go_sem,q]
theorem Jx(w:World)(q o:Nat)(a v:Value):((w.setCell ⟨q,o,none⟩ a).setCell ⟨q,o,none⟩ v).heap[q]?=(w.setCell ⟨q,o,none⟩ v).heap[q]? :=by
 simp only[World.setCell,bG,cM];cases w.heap[q]? with
 | none=>rfl
 | some b=>cases b<;>simp
theorem wT{w w':World}{q:Nat}(a:w'.heap[q]?=w.heap[q]?)(o:Nat)(v:Value):(w'.setCell ⟨q,o,none⟩ v).heap[q]?=(w.setCell ⟨q,o,none⟩ v).heap[q]? :=by
 simp only[World.setCell,bG,cM,a]
theorem Kr{base c po:Nat}{tv:Value}{e h d g:Nat}{ws ps:List Wd}{w w2 w4:World}{o s:Obj}{p t:Value}(R:c<w.heap.size)(S:w.ownsRow base 105 2 tv ws.length (aU ws))(C:tv.ownBlock≠some c)(k:((w.alloc o).alloc s).grownBy w2 tv.ownBlock)(n:tv.ownBlock=some e\/e=w.heap.size+2)(Q:w4.ownsRow base 105 2 (.slice (some ⟨d,0,none⟩) (ws.length+1+ps.length) g) (ws.length+1+ps.length) (aU ws++ph (0,(ps.length:Int))++aU ps))(l:(w2.setCell ⟨c,po,none⟩ (.slice (some ⟨e,0,none⟩) (ws.length+1) h)).grownBy w4 (Value.slice (some ⟨e,0,none⟩) (ws.length+1) h).ownBlock)(M:(Value.slice (some ⟨d,0,none⟩) (ws.length+1+ps.length) g).ownBlock=(Value.slice (some ⟨e,0,none⟩) (ws.length+1) h).ownBlock\/(Value.slice (some ⟨d,0,none⟩) (ws.length+1+ps.length) g).ownBlock=some (w2.setCell ⟨c,po,none⟩ (.slice (some ⟨e,0,none⟩) (ws.length+1) h)).heap.size):LX base c po tv ws ps w (((w4.setCell ⟨c,po,none⟩ (.slice (some ⟨d,0,none⟩) (ws.length+1+ps.length) g)).setCell ⟨w.heap.size,0,none⟩ p).setCell ⟨w.heap.size,1,none⟩ t) (.slice (some ⟨d,0,none⟩) (ws.length+1+ps.length) g):=by
 have P:∀b,tv.ownBlock=some b->b<w.heap.size:=λb a=>(S.lt b a).2;have a:((w.alloc o).alloc s).heap.size=w.heap.size+2:=by simp
 have aa:=k.size;have D:=bi w2 c po (.slice (some ⟨e,0,none⟩) (ws.length+1) h);have ad:=D.size;have Z:=l.size;have ab:e≠w.heap.size:=by
  rintro rfl;rcases n with a|a
  ·have:=P _ a;omega
  ·omega
 have O:e≠c:=by
  rintro rfl;rcases n with a|a
  ·exact C a
  ·omega
 have J:d=e\/w.heap.size+2<=d:=by
  rcases M with m|m
  ·exact ag (by simpa [Value.ownBlock]using m)
  ·have X:d=(w2.setCell ⟨c,po,none⟩ (.slice (some ⟨e,0,none⟩) (ws.length+1) h)).heap.size:=by
     simp only[Value.ownBlock]at m;exact au m
   exact ah (by omega)
 have L:d≠w.heap.size:=by omega
 have K:d≠c:=by omega
 have y:∀b,b<w.heap.size->tv.ownBlock≠some b->w2.heap[b]?=w.heap[b]? :=λb i f=>((k.block b (by omega) (λa=>f a.symm)).trans ((cW (w.alloc o) s none).block b (by simp;omega) (by simp))).trans ((cW w o none).block b i (by simp));have z:∀b,b<w2.heap.size->b≠e->w4.heap[b]?=(w2.setCell ⟨c,po,none⟩ (.slice (some ⟨e,0,none⟩) (ws.length+1) h)).heap[b]? :=λb i f=>l.block b (by omega) (λa=>f (au a));have r:=bi w4 c po (.slice (some ⟨d,0,none⟩) (ws.length+1+ps.length) g);have E:=bi (w4.setCell ⟨c,po,none⟩ (.slice (some ⟨d,0,none⟩) (ws.length+1+ps.length) g)) w.heap.size 0 p;have F:=bi ((w4.setCell ⟨c,po,none⟩ (.slice (some ⟨d,0,none⟩) (ws.length+1+ps.length) g)).setCell ⟨w.heap.size,0,none⟩ p) w.heap.size 1 t;have ae:=r.size;have af:=E.size;have ai:=F.size;have q:∀b,b<w4.heap.size->b≠w.heap.size->(((w4.setCell ⟨c,po,none⟩ (.slice (some ⟨d,0,none⟩) (ws.length+1+ps.length) g)).setCell ⟨w.heap.size,0,none⟩ p).setCell ⟨w.heap.size,1,none⟩ t).heap[b]?=(w4.setCell ⟨c,po,none⟩ (.slice (some ⟨d,0,none⟩) (ws.length+1+ps.length) g)).heap[b]? :=λb i f=>(F.block b (by omega) f).trans (E.block b (by omega) f);refine⟨?_,?_,⟨?_,?_,?_,?_,?_⟩,?_⟩
 ·have I:aU (ws++(0,(ps.length:Int))::ps)=aU ws++ph (0,(ps.length:Int))++aU ps:=by simp[aU]
  rw[I];obtain⟨V,u⟩:=Q;refine⟨V,?_⟩;rcases u with⟨u,_⟩|⟨Y,cap,G,U,i,A,T⟩
  ·simp at u
  ·injection U with j W H;injection j with j;injection j with j _;subst j H;have B:=(aC.1 A).1;exact ah ⟨d,g,G,rfl,i,(q d B L).trans ((r.block d B K).trans A),T⟩
 ·refine(q c (by omega) (by omega)).trans ((wT (z c (by omega) (λa=>O a.symm)) po _).trans ((Jx w2 c po _ _).trans (wT (y c R C) po _)))
 ·exact l.os.trans k.os
 ·exact l.tape.trans k.tape
 ·exact l.output.trans k.output
 ·omega
 ·intro b i f;simp only[not_or]at f;have N:b≠e:=by
   rintro rfl;rcases n with a|a
   ·exact f.2 a
   ·omega
  exact(q b (by omega) (by omega)).trans ((r.block b (by omega) f.1).trans ((z b (by omega) N).trans ((D.block b (by omega) f.1).trans (y b i f.2))))
 ·intro b x;simp only[Value.ownBlock]at x;obtain rfl:=au x;rcases J with a|a
  ·rw[a];rcases n with v|v
   ·exact ag v
   ·exact ah (by omega)
  ·exact ah (by omega)
theorem zj(base a po:Nat)(tv:Value)(N:Option Addr)(O L:Nat)(ws ps:List Wd)(m pc:Nat)(pa:Option Addr)(w:World)(I:tv=.slice N L O)(A:Hid (ws.length=L))(r:Hid (ps.length=m))(W:L<=100000)(X:m<=1000)(F:base<=w.heap.size)(c0:w.cell? ⟨a,po,none⟩=some tv)(D:w.frozen? ⟨a,po,none⟩=false)(h:a<w.heap.size)(g:Hid (tv.ownBlock≠some a))(k:Hid (w.ownsRow base 105 2 tv L (aU ws)))(B:Hid (∀w1,bO (λb=>b=a\/tv.ownBlock=some b) w w1->eQ w1 ps pa)):ak 130 #[.pointer (some ⟨a,po,none⟩),.slice pa m pc] w λe w'=>e=.returned (.agg #[ab 4,ab L])/\∃P,Hid (LX base a po tv ws ps w w' P):=by
 subst I;obtain⟨J,t,x,y,z⟩:=bQ kA;have d:=ao (⟨t,x,y,z⟩:_/\_/\_/\_);clear t x y z;go_enter Tryz.func130,Tryz.ntmps130
 go_wp2_with (first
  | (at_builtin;refine wpList_append_lies _ rfl _ _ 97 rfl base 105 J _ 2 16 Tryz.underlying97 d.out.1 d.out.2.1 d.out.2.2.1 d.out.2.2.2 rfl (by decide) _ L _ rfl ((k.out.alloc _).alloc _) ⟨w.heap.size+1,0,none⟩ 1 1 (ph (0,(m:Int))) rfl rfl (by have:=JR (w.alloc (.cells #[ab 0,ab 0] 105)) (0,(m:Int));simpa using this) (LQ _) (by decide) (by unfold maxLen;omega) (by omega) (by simp;omega) (w.heap.size+2) (by simp) ?_;intro U Q ad p f l u;have c:=ao (⟨p,f,l,u⟩:_/\_/\_/\_);obtain⟨C,E,Y⟩:=EK h g.out f c0 D;have i:=ao (Ks h F g.out p f l po B.out);clear p f l u)
  | (at_builtin;refine oV rfl _ _ rfl (base:=base) (n:=L+1) rfl rfl i.out.1 i.out.2.1 r.out (by omega) i.out.2.2 ?_;intro aa ae q o s;obtain⟨V,R,rfl,_,_⟩:=q.form (by omega);have j:=ao (⟨q,o,s⟩:_/\_/\_);obtain⟨⟨K,M⟩,Z,S,T⟩:=He h k.out g.out c.out.2.1 c.out.2.2.1 o C E;clear q o s))
 have G:=A.out;have H:=r.out;subst G H;exact ar (v:=.agg #[ab 4,ab ws.length]) (by simp[results,Tryz.results130,go_sem,K,M]) rfl ⟨rfl,_,Kr h k.out g.out c.out.2.1 c.out.2.2.1 j.out.1 j.out.2.1 j.out.2.2⟩
def Mw(room:Int)(w:World)(e:Ending)(w':World):Prop:=
    (¬(0<=room/\room<=1000)->e=.returned (.tuple #[.pointer none,ab 1])/\w'=w)/\
    (0<=room/\room<=1000->e=.returned (.tuple #[.pointer (some ⟨w.heap.size,0,none⟩),ab 0])/\HB (ci.own w.heap.size) room (.slice none 0 0) (.slice none 0 0) (.map none) w'/\w'.heap.size=w.heap.size+1/\ai w w')
theorem Le(room:Int)(w:World):ak 65 #[ab room] w (Mw room w):=by
 by_cases a:room<0
 ·have b:decide (room<0)=true:=by simpa using a
  go_enter Tryz.func65,Tryz.ntmps65;go_wp2_with fail
  go_ret2
  exact⟨λ_=>⟨rfl,rfl⟩,λc=>by omega⟩
 ·by_cases d:1000<room
  ·have b:decide (room<0)=false:=by simpa using a
   have e:decide (1000<room)=true:=by simpa using d
   go_enter Tryz.func65,Tryz.ntmps65;go_wp2_with fail
   go_ret2
   exact⟨λ_=>⟨rfl,rfl⟩,λc=>by omega⟩
  ·have b:decide (room<0)=false:=by simpa using a
   have e:decide (1000<room)=false:=by simpa using d
   go_enter Tryz.func65,Tryz.ntmps65;go_wp2_with fail
   go_ret2
   exact⟨λc=>by omega,λ_=>⟨rfl,⟨⟨rfl,ag rfl⟩,az w _⟩,by simp,(am _ _).alloc (aj _) _⟩⟩
def fM(ws:List Wd)(i:Int):Bool:=decide (0<=i) && match ws[i.toNat]? with
 | some x=>x.1==0
 | none=>false
theorem iG{base g c L:Nat}{ws:List Wd}{w:World}(d:w.ownsRow base 105 2 (.slice (some ⟨g,0,none⟩) L c) L (aU ws))(k:Nat)(x:Wd)(b:ws[k]?=some x):w.cell? ⟨g,k*2,none⟩=some (ab x.1)/\w.cell? ⟨g,k*2+1,none⟩=some (ab x.2):=by
 have a:=d.cells (g:=g) rfl;refine⟨?_,?_⟩
 ·have:=a (k*2+0) (ab x.1) (by rw[iE ws k x b 0 (by omega)];rfl);rw[eV]at this;exact this
 ·have:=a (k*2+1) (ab x.2) (by rw[iE ws k x b 1 (by omega)];rfl);rw[eV]at this;exact this
theorem BY(base:Nat)(l:Option Addr)(L m:Nat)(ws:List Wd)(i:Int)(w:World)(d:Hid (ws.length=L))(q:L<=100000)(f:Hid (w.ownsRow base 105 2 (.slice l L m) L (aU ws))):ak 132 #[.slice l L m,ab i] w λe w'=>e=.returned (.bool (fM ws i))/\w'=w:=by
 by_cases h:0<=i
 ·obtain⟨k,rfl⟩:∃k:Nat,i=k:=⟨i.toNat,by omega⟩;by_cases o:k<L
  ·obtain⟨a,b⟩:∃a,ws[k]?=some a:=⟨ws[k]'(by rw[d.out];exact o),aE _⟩;obtain⟨p,c,j,_,_⟩:=f.out.form (by omega);simp at j;obtain⟨rfl,rfl⟩:=j;obtain⟨t,u⟩:=iG f.out k a b;have HB:Hid (fM ws k=(a.1==0)):=by simp[Hid,fM,b]
   have g:decide ((0:Int)<=(k:Int))=true:=by simp
   have n:decide ((k:Int)<(L:Int))=true:=by simp;omega
   have r:(0:Int)<=(k:Int):=by omega
   have s:(k:Int)<(L:Int):=by omega
   clear b;go_enter Tryz.func132,Tryz.ntmps132;go_wp2_with fail
   go_ret
   exact⟨eG HB.out.symm,rfl⟩
  ·have HB:Hid (fM ws k=false):=by
     have:ws[k]?=none:=eg (by rw[d.out];omega);simp[Hid,fM,this]
   have g:decide ((0:Int)<=(k:Int))=true:=by simp
   have n:decide ((k:Int)<(L:Int))=false:=by simp;omega
   go_enter Tryz.func132,Tryz.ntmps132;go_wp2_with fail
   go_ret
   exact⟨eG HB.out.symm,rfl⟩
 ·have HB:Hid (fM ws i=false):=by simp[Hid,fM,h]
  have g:decide (0<=i)=false:=by simpa using h
  go_enter Tryz.func132,Tryz.ntmps132;go_wp2_with fail
  go_ret
  exact⟨eG HB.out.symm,rfl⟩
end Go.Proofs.YtckamaoibonjcaaGreat

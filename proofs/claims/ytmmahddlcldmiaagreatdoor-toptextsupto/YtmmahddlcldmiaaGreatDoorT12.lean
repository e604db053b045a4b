/- Proved here: plain facts and contracts. No condition but what each names. -/
import Derived.Test.YtmmahddlcldmiaaGreatDoorT11
import Derived.Maps.OwnSet
import Derived.StringKeys
import Derived.Maps.AppendAt
import Derived.Deep.QuietTactic
import Derived.BigQuiet
namespace Go.Proofs.YtmmahddlcldmiaaGreatDoor
open Go.RowKit Go.Proofs.Tryz
open Go.RowKit Go.Maps
set_option maxRecDepth 100000
set_option maxHeartbeats 2000000
theorem KH(k h i:Int)(j:ByteArray)(xa:Option Addr)(l xc:Nat)(y0 y1:Int)(y2:ByteArray)(ya:Option Addr)(yl yc:Nat)(nm:ByteArray)(g:Int)(c:Nat)(w:World)(R:Bool->World->Prop)(D:c<w.heap.size)(B:Hid (∃A,w.cell? ⟨c,6,none⟩=some (.bool A)/\w.frozen? ⟨c,6,none⟩=false))(m:Hid (k=1->∀W,aj w W->am 180 #[aB c,.agg #[ab k,ab h,ab i,af j,ae xa l xc,ab y0,ab y1,af y2,ae ya yl yc,af nm,ab g]] W λe w'=>∃t,e=.returned (.bool t)/\Hid (R t w')))(n:Hid (k=2->∀W,aj w W->am 181 #[aB c,.agg #[ab k,ab h,ab i,af j,ae xa l xc,ab y0,ab y1,af y2,ae ya yl yc,af nm,ab g]] W λe w'=>∃t,e=.returned (.bool t)/\Hid (R t w')))(o:Hid (k=3->∀W,aj w W->am 182 #[aB c,.agg #[ab k,ab h,ab i,af j,ae xa l xc,ab y0,ab y1,af y2,ae ya yl yc,af nm,ab g]] W λe w'=>∃t,e=.returned (.bool t)/\Hid (R t w')))(q:Hid (k≠1->k≠2->k≠3->∀W,aj w W->R true (W.setCell ⟨c,6,none⟩ (.bool true)))):am 152 #[aB c,.agg #[ab k,ab h,ab i,af j,ae xa l xc,ab y0,ab y1,af y2,ae ya yl yc,af nm,ab g]] w λe w'=>∃t,e=.returned (.bool t)/\Hid (R t w'):=by
 have C:Hid (∃a b,(a=w.alloc (.cells #[ab k,ab h,ab i,af j,ae xa l xc,ab y0,ab y1,af y2,ae ya yl yc,af nm,ab g] 208)/\b=w.heap.size)/\aj w a/\(a.cell? ⟨b,0,none⟩=some (ab k)/\a.cell? ⟨b,1,none⟩=some (ab h)/\a.cell? ⟨b,2,none⟩=some (ab i)/\a.cell? ⟨b,3,none⟩=some (af j)/\a.cell? ⟨b,4,none⟩=some (ae xa l xc)/\a.cell? ⟨b,5,none⟩=some (ab y0)/\a.cell? ⟨b,6,none⟩=some (ab y1)/\a.cell? ⟨b,7,none⟩=some (af y2)/\a.cell? ⟨b,8,none⟩=some (ae ya yl yc)/\a.cell? ⟨b,9,none⟩=some (af nm)/\a.cell? ⟨b,10,none⟩=some (ab g))):=by
  have d:=aE w (.cells #[ab k,ab h,ab i,af j,ae xa l xc,ab y0,ab y1,af y2,ae ya yl yc,af nm,ab g] 208);exact⟨_,_,⟨rfl,rfl⟩,(ap _ _).alloc (ak _) _,ag d 0,ag d 1,ag d 2,ag d 3,ag d 4,ag d 5,ag d 6,ag d 7,ag d 8,ag d 9,ag d 10⟩
 go_enter func152,ntmps152;obtain⟨A,F,z⟩:=B.out;go_upto_region 1 with fail;obtain⟨a,b,⟨G,E⟩,y,M,N,P,Q,S,T,U,V,X,Y,O⟩:=C.out;rw[<-G,<-E];have s:=aq y;have I:Hid (a.cell? ⟨c,6,none⟩=some (.bool A)/\a.frozen? ⟨c,6,none⟩=false):=by
  refine⟨(y.cell (p:=⟨c,6,none⟩) D).trans F,?_⟩;unfold World.frozen? at z ⊢;rw[y.block c D];exact z
 clear G E y C F z B;by_cases u:k=1
 ·have r:=aq (m u a s);clear m n o q;subst u;go_wp2_with fail;refine r.mono ?_;rintro e H ⟨t,rfl,f⟩;go_wp2_with fail
  go_ret
  exact⟨t,rfl,f⟩
 ·by_cases v:k=2
  ·have r:=aq (n v a s);clear m n o q;subst v;go_wp2_with fail;refine r.mono ?_;rintro e H ⟨t,rfl,f⟩;go_wp2_with fail
   go_ret
   exact⟨t,rfl,f⟩
  ·by_cases x:k=3
   ·have r:=aq (o x a s);clear m n o q;subst x;go_wp2_with fail;refine r.mono ?_;rintro e H ⟨t,rfl,f⟩;go_wp2_with fail
    go_ret
    exact⟨t,rfl,f⟩
   ·have f:=aq (q u v x a s);obtain⟨Z,aa⟩:=I;have J:¬(1:Int)=k:=λe=>u e.symm;have K:¬(2:Int)=k:=λe=>v e.symm;have L:¬(3:Int)=k:=λe=>x e.symm;clear m n o q;go_wp2_with fail
    go_ret
    exact⟨true,rfl,f⟩
def Pb{n:Nat}(a:Ac (n+1)):Value:=.agg #[ab a.1,ab a.2.1.1.1.1,ab a.2.1.1.1.2.1,af a.2.1.1.1.2.2,ae a.2.1.1.2.1.1 a.2.1.1.2.2.length a.2.1.1.2.1.2,ab a.2.1.2.1.1,ab a.2.1.2.1.2.1,af a.2.1.2.1.2.2,ae a.2.1.2.2.1.1 a.2.1.2.2.2.length a.2.1.2.2.1.2,af a.2.2.1,ab a.2.2.2]
theorem Jl{n:Nat}(l:List (Ac (n+1)))(s:Option Addr)(L C r:Nat)(w:World)(S:Nat->World->Prop)(k:World->Prop)(D:L<=1000000)(z:Hid (l.length=L))(x:Hid (∀(i:Nat)(a:Ac (n+1)) W,l[i]?=some a->S i W->∃b o,s=some ⟨b,o,none⟩/\∀(j:Nat)(u:Value),(fZ (n+1) a)[j]?=some u->W.cell? ⟨b,o+i*11+j,none⟩=some u))(HB:Hid (∀i W q,S i W->aj W q->S i q))(A:Hid (∀(i:Nat)(a:Ac (n+1)) W,l[i]?=some a->S i W->am 152 #[aB r,Pb a] W λe w'=>∃t,e=.returned (.bool t)/\Hid ((t=true->S (i+1) w')/\(t=false->k w'))))(v:Hid (S 0 w)):am 120 #[aB r,ae s L C] w λe w'=>∃t,e=.returned (.bool t)/\Hid ((t=true->S L w')/\(t=false->k w')):=by
 go_enter func120,ntmps120;go_wp2_with fail;go_loopw [9] (λi wr=>∃j:Nat,j<=L/\i=ab j/\Hid (S j wr)) (λi _=>L-(intOf i).toNat)
 case atStart=>exact⟨0,aI _,rfl,v⟩
 case round=>
  obtain⟨j,E,rfl,g⟩:=hrel;by_cases B:j<L
  ·obtain⟨a,h⟩:∃a,l[j]?=some a:=⟨l[j]'(by rw[z.out];exact B),aG _⟩;obtain⟨b,o,rfl,c⟩:=x j a wr h g;have I:wr.cell? ⟨b,o+j*11,none⟩=some (ab a.1):=c 0 _ rfl;have J:=c 1 _ rfl;have M:=c 2 _ rfl;have N:=c 3 _ rfl;have O:=c 4 _ rfl;have P:=c 5 _ rfl;have Q:=c 6 _ rfl;have R:=c 7 _ rfl;have T:=c 8 _ rfl;have U:=c 9 _ rfl;have K:=c 10 _ rfl;have F:(0:Int)<=(j:Int):=by omega
   have G:(j:Int)<(L:Int):=by omega
   have m:=aq λW (d:aj wr W)=>A j a W h (HB _ _ _ g d);unfold Pb at m;have y:Hid (∀o:Obj,aj wr (wr.alloc o)):=λo=>(ap _ _).alloc (ak _) o;clear c h;go_wp2_with fail;refine(m _ (y _)).mono ?_;rintro e H ⟨t,rfl,p⟩;cases t
   ·have f:=aq (p.2 rfl);go_wp2_with fail
    go_ret
    exact⟨false,rfl,λd=>(by cases d),λ_=>f.out⟩
   ·have f:=aq (p.1 rfl);go_wp2_with fail;go_roundw
    case rel=>exact⟨j+1,by omega,by go_num,f⟩
    case measure=>simp[intOf];omega
  ·obtain rfl:j=L:=by omega
   go_wp2_with fail
   go_ret
   exact⟨true,rfl,λ_=>g,λd=>(by cases d)⟩
theorem Be(N:Nat)(s0 s1:Int)(Y:ByteArray)(sa:Option Addr)(sl sc:Nat)(P Q:Int)(R:ByteArray)(ma:Option Addr)(U T:Nat)(l:Option Addr)(m ac:Nat)(o p:Int)(r:ByteArray)(s:Option Addr)(v u:Nat)(X n:Nat)(w:World)(S:World->Prop)(V:Bool->Tm (N+1)->World->Prop)(c:Int->World->Prop)(E:Hid (∀W,aj w W->am 120 #[aB n,ae l m ac] W λe w'=>∃t,e=.returned (.bool t)/\Hid ((∀q a,w.heap.size<=q->W.heap[q]?=some a->w'.heap[q]?=some a)/\(t=true->S w')/\(t=false->c 2 w'))))(G:Hid (∀W,S W->am 121 #[aB n,.agg #[ab o,ab p,af r,ae s v u]] W λe w'=>∃(y:Tm (N+1))(t:Bool),e=.returned (.tuple #[.agg #[ab y.1.1,ab y.1.2.1,af y.1.2.2,ae y.2.1.1 y.2.2.length y.2.1.2],.bool t])/\Hid (V t y w')))(F:Hid (∀y d g,V false y d->aj d g->c 2 g))(HB:Hid (∀y d g,V true y d->aj d g->am 122 #[aB X,.agg #[ab y.1.1,ab y.1.2.1,af y.1.2.2,ae y.2.1.1 y.2.2.length y.2.1.2]] g λe w'=>∃t,e=.returned (.bool t)/\Hid ((t=false->c 3 w')/\(t=true->∃i,w'.cell? ⟨n,6,none⟩=some (.bool i)/\(i=true->c 1 w')/\(i=false->c 0 w'))))):am 99 #[aB X,.agg #[ab s0,ab s1,af Y,ae sa sl sc,ab P,ab Q,af R,ae ma U T,ae l m ac,ab o,ab p,af r,ae s v u],aB n] w λe w'=>∃f,e=.returned (ab f)/\c f w':=by
 have H:Hid (∃x q a,(x=w.alloc a/\q=w.heap.size/\a=.cells #[ab s0,ab s1,af Y,ae sa sl sc,ab P,ab Q,af R,ae ma U T,ae l m ac,ab o,ab p,af r,ae s v u] 171)/\aj w x/\x.heap[q]?=some a/\w.heap.size<=q/\∀W:World,W.heap[q]?=some a->W.cell? ⟨q,8,none⟩=some (ae l m ac)/\W.cell? ⟨q,9,none⟩=some (ab o)/\W.cell? ⟨q,10,none⟩=some (ab p)/\W.cell? ⟨q,11,none⟩=some (af r)/\W.cell? ⟨q,12,none⟩=some (ae s v u)):=
  ⟨_,_,_,⟨rfl,rfl,rfl⟩,(ap _ _).alloc (ak _) _,aE _ _,ak _,λW h=>⟨ag h 8,ag h 9,ag h 10,ag h 11,ag h 12⟩⟩
 go_enter func99,ntmps99;go_wp2_with fail;obtain⟨x,q,a,⟨D,L,K⟩,I,M,O,J⟩:=H.out;rw[K]at D;rw[<-D];have Z:=aq I;have ad:=aq J;have ah:=aq M;have ai:=aq O;rw[<-L];clear D L K I J M O H;refine(E _ Z).mono ?_;rintro e an ⟨t,rfl,j⟩;obtain⟨av,aw,ao,ar,au⟩:=ad an (j.1 q a ai ah);cases t
 ·have b:=aq (j.2.2 rfl);go_wp2_with fail
  go_ret
  exact⟨2,rfl,b⟩
 ·have al:=aq (j.2.1 rfl);clear j E;go_wp2_with fail;refine(G _ al).mono ?_;rintro e z ⟨y,t,rfl,A⟩;cases t
  ·have b:=aq λa=>F y z (z.alloc a) A ((ap _ _).alloc (ak _) a);go_wp2_with fail
   go_ret
   exact⟨2,rfl,b _⟩
  ·have aa:=aq λa=>HB y z (z.alloc a) A ((ap _ _).alloc (ak _) a);clear A G F HB;go_wp2_with fail;refine(aa _).mono ?_;rintro e ay ⟨t,rfl,k⟩;cases t
   ·have b:=aq (k.1 rfl);go_wp2_with fail
    go_ret
    exact⟨3,rfl,b⟩
   ·obtain⟨i,ax,C,B⟩:=k.out.2 rfl;cases i
    ·have b:=aq (B rfl);clear C B k;go_wp2_with fail
     go_ret
     exact⟨0,rfl,b⟩
    ·have b:=aq (C rfl);clear C B k;go_wp2_with fail
     go_ret
     exact⟨1,rfl,b⟩
structure cu where
 b:Nat
 o:Nat
 pre:List Value
 post:List Value
 t:TypeId
def cu.own(b:Nat):cu:=⟨b,0,[],[],164⟩
def HB(a:cu)(room:Int)(tv lv mv:Value)(w:World):Prop:=(a.pre.length=a.o/\(a.t=164\/a.t=166))/\w.heap[a.b]?=some (.cells (a.pre++ .int .i64 room::tv::lv::mv::a.post).toArray a.t)
theorem HB.lt{a:cu}{room:Int}{tv lv mv:Value}{w:World}(c:HB a room tv lv mv w):a.b<w.heap.size:=(aF.1 c.2).1
theorem HB.cells{a:cu}{room:Int}{tv lv mv:Value}{w:World}(c:HB a room tv lv mv w):(w.cell? ⟨a.b,a.o,none⟩=some (.int .i64 room)/\w.cell? ⟨a.b,a.o+1,none⟩=some tv/\w.cell? ⟨a.b,a.o+2,none⟩=some lv/\w.cell? ⟨a.b,a.o+3,none⟩=some mv)/\∀j,w.frozen? ⟨a.b,j,none⟩=false:=by
 obtain⟨⟨d,_⟩,e⟩:=c;refine⟨⟨?_,?_,?_,?_⟩,λj=>?_⟩
 all_goals simp[World.cell?,World.frozen?,e,<-d]
theorem HB.ty{a:cu}{room:Int}{tv lv mv:Value}{w:World}(c:HB a room tv lv mv w):a.t≠9/\a.t≠154:=by
 rcases c.1.2 with b|b<;>rw[b]<;>decide
theorem Dq{l:List Value}{a:cu}{k:Nat}{room:Int}{tv lv mv v:Value}(b:a.pre.length=a.o)(c:l=(.int .i64 room::tv::lv::mv::a.post).set k v):(a.pre++ .int .i64 room::tv::lv::mv::a.post).set (a.o+k) v=a.pre++l:=by
 subst c;rw[<-b,List.set_append,if_neg (by omega),show a.pre.length+k-a.pre.length=k by omega]
theorem HB.set1{a:cu}{room:Int}{tv lv mv:Value}{w:World}(c:HB a room tv lv mv w)(v:Value):HB a room v lv mv (w.setCell ⟨a.b,a.o+1,none⟩ v):=by
 refine⟨c.1,?_⟩;have d:=Dq (k:=1) (room:=room) (tv:=tv) (lv:=lv) (mv:=mv) (v:=v) c.1.1 rfl;simp only[di,dj]at d;simp[World.setCell,bN,c.2,d]
theorem HB.set2{a:cu}{room:Int}{tv lv mv:Value}{w:World}(c:HB a room tv lv mv w)(v:Value):HB a room tv v mv (w.setCell ⟨a.b,a.o+2,none⟩ v):=by
 refine⟨c.1,?_⟩;have d:=Dq (k:=2) (room:=room) (tv:=tv) (lv:=lv) (mv:=mv) (v:=v) c.1.1 rfl;simp only[di,dj]at d;simp[World.setCell,bN,c.2,d]
theorem HB.set3{a:cu}{room:Int}{tv lv mv:Value}{w:World}(c:HB a room tv lv mv w)(v:Value):HB a room tv lv v (w.setCell ⟨a.b,a.o+3,none⟩ v):=by
 refine⟨c.1,?_⟩;have d:=Dq (k:=3) (room:=room) (tv:=tv) (lv:=lv) (mv:=mv) (v:=v) c.1.1 rfl;simp only[di,dj]at d;simp[World.setCell,bN,c.2,d]
theorem HB.kept{a:cu}{room:Int}{tv lv mv:Value}{w w':World}(c:HB a room tv lv mv w)(k:w'.heap[a.b]?=w.heap[a.b]?):HB a room tv lv mv w':=⟨c.1,k.trans c.2⟩
structure bV (S:Nat->Prop) (w w':World):Prop where
 os:w'.os=w.os
 tape:w'.tape=w.tape
 output:w'.output=w.output
 size:w.heap.size<=w'.heap.size
 block:∀b,b<w.heap.size->¬S b->w'.heap[b]?=w.heap[b]?
theorem bV.refl(S:Nat->Prop)(w:World):bV S w w:=⟨rfl,rfl,rfl,ak _,λ_ _ _=>rfl⟩
theorem bV.trans{S T:Nat->Prop}{w w1 w2:World}(a:bV S w w1)(k:bV T w1 w2)(e:∀b,b<w.heap.size->T b->S b):bV S w w2:=
 ⟨k.os.trans a.os,k.tape.trans a.tape,k.output.trans a.output,az a.size k.size,λb c d=>(k.block b (aR c a.size) (λf=>d (e b c f))).trans (a.block b c d)⟩
theorem bV.mono{S T:Nat->Prop}{w w1:World}(a:bV S w w1)(c:∀b,S b->T b):bV T w w1:=⟨a.os,a.tape,a.output,a.size,λb d e=>a.block b d λk=>e (c b k)⟩
theorem aY{w w':World}(a:Below w.heap.size w w')(S:Nat->Prop):bV S w w':=⟨a.os,a.tape,a.output,a.size,λb c _=>a.block b c⟩
theorem Dz{w w':World}{row:Option Nat}(a:w.grownBy w' row):bV (λb=>row=some b) w w':=⟨a.os,a.tape,a.output,a.size,λb c d=>a.block b c λe=>d e.symm⟩
theorem bm(w:World)(q o:Nat)(v:Value):bV (λb=>b=q) w (w.setCell ⟨q,o,none⟩ v):=
 ⟨rfl,rfl,rfl,by simp[World.setCell],λb _ c=>by
  have:¬q=b:=λa=>c a.symm
  simp[World.setCell,bN,this]⟩
def mapBlock:Value->Option Nat
 | .map (some b)=>some b
 | _=>none
theorem wa:Keyed Tryz.prog 9:=string_keyed underlying9
theorem rV(w:World):(zeroValue 3).run Tryz.prog w=.ok (.int .i64 0) w:=by kernel_rfl
def strCells(l:List ByteArray):List Value:=l.map .string
def rY(D:DataW Unit)(nm:List ByteArray):Prop:=∀s:ByteArray,(Maps.has D (.string s.data.toList)=true ↔ s∈nm)/\∀i:Nat,nm[i]?=some s->D.atKey (.string s.data.toList) (.lit (.int .i64 0))=.lit (.int .i64 i)
def jU(base:Nat)(nm:List ByteArray)(lv mv:Value)(w:World):Prop:=
 w.ownsRow base 9 1 lv nm.length (strCells nm)/\nm.Nodup/\
 ((mv=.map none/\nm=[]/\lv=.slice none 0 0)\/∃a b,mv=.map (some a)/\base<=a/\w.ownsMap Tryz.prog 9 (plainElem Tryz.prog 3) a nm.length b/\rY b nm/\lv.ownBlock≠some a)
theorem jU.kept{base:Nat}{nm:List ByteArray}{lv mv:Value}{w w':World}{S:Nat->Prop}(n:jU base nm lv mv w)(k:bV S w w')(o:∀b,lv.ownBlock=some b->¬S b)(p:∀b,mapBlock mv=some b->¬S b):jU base nm lv mv w':=by
 obtain⟨h,x,f⟩:=n;have v:w'.ownsRow base 9 1 lv nm.length (strCells nm):=by
  refine⟨h.1,?_⟩;rcases h.2 with⟨c,m⟩|⟨d,cap,l,c,r,a,e⟩
  ·exact ah ⟨c,m⟩
  ·exact ai ⟨d,cap,l,c,r,(k.block d (aF.1 a).1 (o d (by rw[c];rfl))).trans a,e⟩
 refine⟨v,x,?_⟩;rcases f with f|⟨g,i,rfl,q,s,t,u⟩
 ·exact ah f
 ·refine ai ⟨g,i,rfl,q,?_,t,u⟩;obtain⟨es,j,a,e⟩:=s;exact⟨es,j,(k.block g (aF.1 a).1 (p g rfl)).trans a,e⟩
theorem DO{D:DataW Unit}{nm:List ByteArray}(d:rY D nm){s:ByteArray}{c:Int}(e:s∈nm)(a:D.atKey (.string s.data.toList) (.lit (.int .i64 0))=.lit (.int .i64 c)):∃i:Nat,nm[i]?=some s/\c=i:=by
 obtain⟨i,b⟩:=cM e;have:=(d s).2 i b;rw[this]at a;simp at a;exact⟨i,b,a.symm⟩
theorem DM(a:cu)(room:Int)(tv lv:Value)(d:Nat)(D:DataW Unit)(nm:List ByteArray)(s:ByteArray)(w:World)(j:Hid (HB a room tv lv (.map (some d)) w))(l:Hid (w.ownsMap Tryz.prog 9 (plainElem Tryz.prog 3) d nm.length D))(f:Hid (rY D nm))(h:Hid (s∈nm))(x:s.size<=2048):Calls Tryz.prog 128 #[.pointer (some ⟨a.b,a.o+2,none⟩),.string s] w λe w'=>∃i:Nat,e=.returned (.int .i64 i)/\Hid (nm[i]?=some s)/\w'=w:=by
 have m:Maps.has D (.string s.data.toList)=true:=((f s).1).2 h;obtain⟨⟨q,r,t,u⟩,v⟩:=j.cells;go_enter func128,ntmps128;go_wp2_with (at_lookup;refine wpList_lookup_own_ok_int _ rfl _ _ 160 rfl 9 3 .i64 wa underlying160 underlying3 (rV _) d nm.length D rfl l _ _ rfl (mL underlying9 (by unfold maxLen;omega)) ?_;intro c g p;have k:=aq (DO f h g);clear g p;rw[m]);obtain⟨i,n,rfl⟩:=k
 go_ret
 exact⟨i,rfl,n,rfl⟩
def qM(base:Nat)(d:cu)(room:Int)(tv lv mv:Value)(nm:List ByteArray)(s:ByteArray)(w w':World)(a c:Value):Prop:=
 HB d room tv a c w'/\jU base (nm++ [s]) a c w'/\bV (λb=>b=d.b\/lv.ownBlock=some b\/mapBlock mv=some b) w w'/\
 (∀b,a.ownBlock=some b->lv.ownBlock=some b\/w.heap.size<=b)/\∀b,mapBlock c=some b->mapBlock mv=some b\/w.heap.size<=b
theorem vg:(Tryz.prog.info? 9).map (λi=>(i.zero,i.size,i.bytes))=some (some (.string .empty),1,16):=by kernel_rfl
theorem Fu(l:List UInt8):WideAt.IsKeyLit (.string l):=by first|trivial|simp[WideAt.IsKeyLit]|decide
theorem BH{base:Nat}{d:cu}{room:Int}{tv lv:Value}{e:Nat}{D:DataW Unit}{nm:List ByteArray}{s:ByteArray}{w w1 w2 w4:World}{o:Obj}{g c:Nat}(m:HB d room tv lv (.map (some e)) w)(Q:base<=e)(R:nm.Nodup)(A:rY D nm)(E:s∉nm)(ad:s.size<=maxLen)(O:lv.ownBlock≠some e)(C:w.ownsRow base 9 1 lv nm.length (strCells nm))(r:w.ownsMap Tryz.prog 9 (plainElem Tryz.prog 3) e nm.length D)(n:Below w.heap.size w w1)(S:w2.ownsRow base 9 1 (.slice (some ⟨g,0,none⟩) (nm.length+1) c) (nm.length+1) (strCells nm++ [.string s]))(p:(w1.alloc o).grownBy w2 lv.ownBlock)(v:lv.ownBlock=some g\/g=w1.heap.size+1)(P:w4.ownsMap Tryz.prog 9 (plainElem Tryz.prog 3) e (nm.length+1) (D.put (.string s.data.toList) (.lit (.int .i64 nm.length))))(k:(w2.setCell ⟨d.b,d.o+2,none⟩ (.slice (some ⟨g,0,none⟩) (nm.length+1) c)).grownBy w4 (some e)):qM base d room tv lv (.map (some e)) nm s w w4 (.slice (some ⟨g,0,none⟩) (nm.length+1) c) (.map (some e)):=by
 have M:=m.lt;have aa:=r.lt;have ab:=n.size;have es:(w1.alloc o).heap.size=w1.heap.size+1:=by simp
 have Z:=p.size;have T:d.b≠e:=by
  rintro rfl;obtain⟨es,W,x,_⟩:=r;have f:w.heap[d.b]?=_:=m.2;rw[x]at f;cases f
 have B:lv.ownBlock≠some d.b:=λa=>by
  rcases C.2 with⟨rfl,_⟩|⟨Y,cap,X,rfl,_,x,_⟩
  ·simp[Value.ownBlock]at a
  ·simp[Value.ownBlock]at a;subst a;have f:w.heap[d.b]?=_:=m.2;rw[x]at f;injection f with f;injection f with f G;exact m.ty.1 G.symm
 have q:∀b,lv.ownBlock=some b->b<w.heap.size:=λb a=>(C.lt b a).2;have L:g≠d.b:=by
  rintro rfl;rcases v with a|a
  ·exact B a
  ·omega
 have z:g≠e:=by
  rintro rfl;rcases v with a|a
  ·exact O a
  ·omega
 have f:∀b,b<w.heap.size->lv.ownBlock≠some b->w2.heap[b]?=w.heap[b]? :=λb j h=>((p.block b (by omega) (λa=>h a.symm)).trans ((dd w1 o none).block b (by omega) (by simp))).trans (n.block b j);have y:=bm w2 d.b (d.o+2) (.slice (some ⟨g,0,none⟩) (nm.length+1) c);have U:=y.size;have ae:=k.size;have H:HB d room tv lv (.map (some e)) w2:=m.kept (f d.b M B);have I:=H.set2 (.slice (some ⟨g,0,none⟩) (nm.length+1) c);have J:HB d room tv (.slice (some ⟨g,0,none⟩) (nm.length+1) c) (.map (some e)) w4:=I.kept (k.block d.b (by omega) (λa=>T (aw a)));refine⟨J,⟨?_,?_,ai ⟨e,_,rfl,Q,by simpa using P,?_,?_⟩⟩,⟨?_,?_,?_,?_,?_⟩,?_,?_⟩
 ·have a:strCells (nm++ [s])=strCells nm++ [.string s]:=by simp[strCells]
  rw[a,bk];have N:w2.grownBy (w2.setCell ⟨d.b,d.o+2,none⟩ (.slice (some ⟨g,0,none⟩) (nm.length+1) c)) (some d.b):=⟨rfl,rfl,rfl,U,λb j h=>y.block b j (λa=>h (by rw[a]))⟩;refine pA (pA S N (ai ?_)) k (ai ?_)
  ·simp only[Value.ownBlock];exact λa=>L (aw a)
  ·simp only[Value.ownBlock];exact λa=>z (aw a)
 ·rw[fp];refine⟨R,by simp,λV K b j=>?_⟩;simp at j;subst j;exact λa=>E (a▸K)
 ·intro t;by_cases u:t=s
  ·subst u;refine⟨?_,λl i=>?_⟩
   ·rw[has_put_same r.isMap (Fu _)];simp
   ·rw[atKey_put_same r.isMap (Fu _)];have:l=nm.length:=by
     by_cases q:l<nm.length
     ·rw[dm q]at i;exact absurd (aH i) E
     ·have:=(aO.1 i).1;simp at this;omega
    rw[this]
  ·have h:(Lit.string t.data.toList)≠(Lit.string s.data.toList):=λa=>u (by
     injection a with a;cases t;cases s;simp only at a
     rw[iZ.1 a])
   refine⟨?_,λl i=>?_⟩
   ·rw[has_put_other h,(A t).1];simp[u]
   ·rw[atKey_put_other h];refine(A t).2 l ?_;by_cases q:l<nm.length
    ·rw[dm q]at i;exact i
    ·have F:=(aO.1 i).1;simp at F;have:l=nm.length:=by omega
     subst this;simp at i;exact absurd i.symm u
 ·simp only[Value.ownBlock];exact λa=>z (aw a)
 ·exact(k.os.trans p.os).trans n.os
 ·exact(k.tape.trans p.tape).trans n.tape
 ·exact(k.output.trans p.output).trans n.output
 ·omega
 ·intro b j h;simp only[mapBlock,not_or]at h;exact(k.block b (by omega) (λa=>h.2.2 a.symm)).trans ((y.block b (by omega) h.1).trans (f b j h.2.1))
 ·intro b a;simp only[Value.ownBlock]at a;obtain rfl:=aw a;rcases v with a|a
  ·exact ah a
  ·exact ai (by omega)
 ·exact λb a=>ah a
theorem vI(w:World)(s:ByteArray):∀j b,[Value.string s][j]?=some b->(w.alloc (.cells #[.string s] 9)).cell? ((⟨w.heap.size,0,none⟩:Addr).add j)=some b:=by
 intro j b a;rw[fj];cases j with
 | zero=>simp at a;subst a;simp[go_sem]
 | succ j=>simp at a
theorem BG{base:Nat}{c:cu}{room:Int}{tv lv i mv:Value}{nm:List Value}{n:Nat}{w:World}(h:w.ownsRow base 9 1 lv n nm)(d:HB c room tv i mv w):lv.ownBlock≠some c.b:=λe=>by
 rcases h.2 with⟨rfl,_⟩|⟨k,cap,j,rfl,_,g,_⟩
 ·simp[Value.ownBlock]at e
 ·simp[Value.ownBlock]at e;subst e;have a:w.heap[c.b]?=_:=d.2;rw[g]at a;injection a with a;injection a with a f;exact d.ty.1 f.symm
theorem td{c:cu}{lv v:Value}{w1 w2:World}{o:Obj}(i:c.b<w1.heap.size)(k:lv.ownBlock≠some c.b)(h:(w1.alloc o).grownBy w2 lv.ownBlock)(g:∀j,w1.frozen? ⟨c.b,j,none⟩=false)(f:w1.cell? ⟨c.b,c.o+2,none⟩=some v):w2.cell? ⟨c.b,c.o+2,none⟩=some v/\w2.frozen? ⟨c.b,c.o+2,none⟩=false:=by
 have d:w2.heap[c.b]?=w1.heap[c.b]? :=(h.block c.b (by simp;omega) (λe=>k e.symm)).trans ((dd w1 o none).block c.b i (by simp));exact⟨(bt d _).trans f,(jj (a:=⟨c.b,c.o+2,none⟩) d).trans (g _)⟩
theorem tb{a:cu}{lv v:Value}{w1 w2:World}{o:Obj}(g:a.b<w1.heap.size)(h:lv.ownBlock≠some a.b)(f:(w1.alloc o).grownBy w2 lv.ownBlock)(e:w1.cell? ⟨a.b,a.o+3,none⟩=some v):w2.cell? ⟨a.b,a.o+3,none⟩=some v:=by
 have d:w2.heap[a.b]?=w1.heap[a.b]? :=(f.block a.b (by simp;omega) (λc=>h c.symm)).trans ((dd w1 o none).block a.b g (by simp));exact(bt d _).trans e
theorem xJ{c:cu}{d L:Nat}{lv:Value}{D:DataW Unit}{w1 w2:World}{o:Obj}(h:w1.ownsMap Tryz.prog 9 (plainElem Tryz.prog 3) d L D)(i:c.b≠d)(g:lv.ownBlock≠some d)(f:(w1.alloc o).grownBy w2 lv.ownBlock)(v:Value):(w2.setCell ⟨c.b,c.o+2,none⟩ v).ownsMap Tryz.prog 9 (plainElem Tryz.prog 3) d L D:=
 (((h.alloc o).kept f (λe=>g e.symm))).setCell (a:=⟨c.b,c.o+2,none⟩) (λe=>i e.symm) v
theorem DL(base:Nat)(a:cu)(room:Int)(tv lv:Value)(O:Option Addr)(P L:Nat)(d:Nat)(D:DataW Unit)(nm:List ByteArray)(s:ByteArray)(w:World)(af:lv=.slice O L P)(Q:Hid (nm.length=L))(ar:L<=100000)(f:Hid (HB a room tv lv (.map (some d)) w))(ag:Hid (base<=d))(au:base<=w.heap.size)(ah:Hid (nm.Nodup))(k:Hid (w.ownsMap Tryz.prog 9 (plainElem Tryz.prog 3) d L D))(u:Hid (rY D nm))(I:Hid (s∉nm))(ai:s.size<=2048)(E:Hid (lv.ownBlock≠some d))(q:Hid (w.ownsRow base 9 1 lv L (strCells nm))):Calls Tryz.prog 128 #[.pointer (some ⟨a.b,a.o+2,none⟩),.string s] w λe w'=>e=.returned (.int .i64 L)/\∃al am,Hid (qM base a room tv lv (.map (some d)) nm s w w' al am):=by
 subst af;have ad:Maps.has D (.string s.data.toList)=false:=by
  cases h:Maps.has D (.string s.data.toList)
  ·rfl
  ·exact absurd (((u s).1).1 h) I
 obtain⟨ak,C,J,K,M⟩:=bP vg;have l:=aq (⟨C,J,K,M⟩:_/\_/\_/\_);clear C J K M;obtain⟨⟨U,V,r,W⟩,Z⟩:=f.out.cells;have av:∀(w:World)(m:Option Nat),(binOp .eql 160 (.map m) (.map none)).run Tryz.prog w=.ok (.bool m.isNone) w:=λw m=>run_eql_map_nil w _ _ _ m underlying160;go_enter func128,ntmps128;go_wp2_with (at_lookup;refine wpList_lookup_own_ok_int _ rfl _ _ 160 rfl 9 3 .i64 wa underlying160 underlying3 (rV _) d L D rfl k _ _ rfl (mL underlying9 (by unfold maxLen;omega)) ?_;intro c Y aj;clear Y aj;rw[ad]);refine(dR s _ ai).mono ?_;rintro e j ⟨rfl,g⟩;have A:a.b<w.heap.size:=f.lt;have p:=aq g;obtain⟨⟨d0,d1,d2,d3⟩,aa⟩:=(f.kept (g.block a.b A)).cells;have B:a.b<j.heap.size:=aR A g.size;have T:Hid (a.b≠d):=by
  rintro rfl;obtain⟨es,an,ab,_⟩:=k.out;have x:w.heap[a.b]?=_:=f.2;rw[ab]at x;cases x
 have v:Hid ((Value.slice O L P).ownBlock≠some a.b):=BG q f;have R:Hid (j.ownsMap Tryz.prog 9 (plainElem Tryz.prog 3) d L D):=k.kept (cO g none) (by simp);clear g U V r W Z
 go_wp2_with (first
  | (at_builtin;refine wpList_append_lies _ rfl _ _ 159 rfl base 9 ak _ 1 16 underlying159 l.1 l.2.1 l.2.2.1 l.2.2.2 rfl (by decide) _ L _ rfl ((dS q p).alloc _) ⟨j.heap.size,0,none⟩ 1 1 [.string s] rfl rfl (vI j s) (by intro aw N;simp at N;subst N;rfl) (by decide) (by unfold maxLen;omega) (by omega) (by have:=p.size;simp;omega) (j.heap.size+1) (by simp) ?_;intro X r ax G i y F;have n:=aq (⟨G,i,y,F⟩:_/\_/\_/\_);obtain⟨ao,f2⟩:=td B v i aa d2;have ap:=tb B v i d3;have S:=aq (xJ R T E i (.slice (some ⟨X,0,none⟩) (L+1) r));clear G i y F)
  | (at_mapUpdate;refine wpList_mapUpdate_own _ rfl _ _ _ 160 rfl 9 3 wa underlying160 (plainElem Tryz.prog 3) d L D rfl S (by unfold maxLen;omega) _ _ _ rfl rfl (mL underlying9 (by unfold maxLen;omega)) (.lit (.int .i64 L)) [] (plainElem_int underlying3 (iw (by omega))) ?_;intro ay H z;have t:=aq (⟨H,z⟩:_/\_);clear H z))
 go_ret
 have ae:=Q.out;subst ae;exact⟨rfl,_,_,BH f ag ah u I (by unfold maxLen;omega) E q k p n.1 n.2.1 n.2.2.1 t.1 t.2⟩
theorem De{base:Nat}{c:cu}{room:Int}{tv lv e f:Value}{s:ByteArray}{w wA w4:World}(g:qM base c room tv lv (.map (some w.heap.size)) [] s wA w4 e f)(k:bV (λb=>b=c.b) w wA)(o:wA.heap.size=w.heap.size+1):qM base c room tv lv (.map none) [] s w w4 e f:=by
 obtain⟨h,i,j,l,m⟩:=g;refine⟨h,i,?_,?_,?_⟩
 ·refine(k.mono λb d=>ah d).trans j λb d n=>?_;rcases n with a|a|a
  ·exact ah a
  ·exact ai (ah a)
  ·simp only[mapBlock]at a;have:=aw a;omega
 ·intro b a;rcases l b a with a|a
  ·exact ah a
  ·exact ai (by omega)
 ·intro b a;rcases m b a with a|a
  ·simp only[mapBlock]at a;have:=aw a;exact ai (by omega)
  ·exact ai (by omega)
theorem KE:rY (.map []) []:=λs=>⟨by simp[Maps.has],λi a=>by simp at a⟩
theorem zE(base:Nat)(a:cu)(room:Int)(tv lv:Value)(s:ByteArray)(w:World)(V:lv=.slice none 0 0)(k:Hid (HB a room tv lv (.map none) w))(Q:base<=w.heap.size)(Z:s.size<=2048):Calls Tryz.prog 128 #[.pointer (some ⟨a.b,a.o+2,none⟩),.string s] w λe w'=>e=.returned (.int .i64 0)/\∃ab ad,Hid (qM base a room tv lv (.map none) [] s w w' ab ad):=by
 subst V;obtain⟨aa,v,B,C,D⟩:=bP vg;have h:=aq (⟨v,B,C,D⟩:_/\_/\_/\_);clear v B C D;obtain⟨⟨M,N,l,O⟩,R⟩:=k.out.cells;have T:a.b<w.heap.size:=k.lt;have ai:∀(w:World)(i:Option Nat),(binOp .eql 160 (.map i) (.map none)).run Tryz.prog w=.ok (.bool i.isNone) w:=λw i=>run_eql_map_nil w _ _ _ i underlying160;have U:(Instr.lookup 160 (.map none) (.string s) true).run Tryz.prog w=.ok (.tuple #[.int .i64 0,.bool false]) w:=by
  simpa using Maps.look_nil (w:=w) true wa underlying160 (rV _) (mL underlying9 (show s.size<=maxLen by unfold maxLen;omega))
 have W:= @run_makeMap Tryz.prog;go_enter func128,ntmps128;go_wp2_with fail;generalize F:(w.setCell ⟨a.b,a.o+3,none⟩ (.map (some w.heap.size))).alloc (.map #[] 0)=wA;have c:Hid (HB a room tv (.slice none 0 0) (.map (some w.heap.size)) wA/\wA.ownsMap Tryz.prog 9 (plainElem (H:=Unit) Tryz.prog 3) w.heap.size 0 (.map [])/\bV (λb=>b=a.b) w wA/\wA.heap.size=w.heap.size+1):=by
  subst F;have es:(w.setCell ⟨a.b,a.o+3,none⟩ (.map (some w.heap.size))).heap.size=w.heap.size:=by simp[World.setCell]
  have y:=py (w.setCell ⟨a.b,a.o+3,none⟩ (.map (some w.heap.size))) Tryz.prog 9 (plainElem (H:=Unit) Tryz.prog 3);rw[es]at y;refine⟨(k.set3 (.map (some w.heap.size))).kept ((dd _ _ none).block a.b (by rw[es];exact T) (by simp)),y,⟨rfl,rfl,rfl,by simp[World.setCell],λb q X=>?_⟩,by simp[World.setCell]⟩;exact((dd _ _ none).block b (by rw[es];exact q) (by simp)).trans ((bm w a.b (a.o+3) (.map (some w.heap.size))).block b q X)
 clear F M N l O R U W;refine(dR s _ Z).mono ?_;rintro e f ⟨rfl,d⟩;have u:a.b<wA.heap.size:=c.1.lt;have G:=aq d;obtain⟨⟨d0,d1,d2,d3⟩,S⟩:=(c.1.kept (d.block a.b u)).cells;have t:a.b<f.heap.size:=aR u d.size;have L:Hid (a.b≠w.heap.size):=by unfold Hid;omega
 have n:Hid ((Value.slice none 0 0).ownBlock≠some a.b):=by simp[Hid,Value.ownBlock]
 have J:Hid (f.ownsMap Tryz.prog 9 (plainElem (H:=Unit) Tryz.prog 3) w.heap.size 0 (.map [])):=c.2.1.kept (cO d none) (by simp);have I:Hid (base<=f.heap.size):=by have ag:=c.2.2.2;have ah:=d.size;unfold Hid;omega
 clear d
 go_wp2_with (first
  | (at_builtin;refine wpList_append_lies _ rfl _ _ 159 rfl base 9 aa _ 1 16 underlying159 h.1 h.2.1 h.2.2.1 h.2.2.2 rfl (by decide) _ 0 [] rfl (eH _ _ _ _) ⟨f.heap.size,0,none⟩ 1 1 [.string s] rfl rfl (vI f s) (by intro aj E;simp at E;subst E;rfl) (by decide) (by unfold maxLen;omega) (by omega) (by have:=I.out;simp;omega) (f.heap.size+1) (by simp) ?_;intro P l ak z g p x;have j:=aq (⟨z,g,p,x⟩:_/\_/\_/\_);obtain⟨ae,f2⟩:=td t n g S d2;have af:=tb t n g d3;have K:=aq (xJ (lv:=.slice none 0 0) J L (by simp[Value.ownBlock]) g (.slice (some ⟨P,0,none⟩) (0+1) l));clear z g p x)
  | (at_mapUpdate;refine wpList_mapUpdate_own _ rfl _ _ _ 160 rfl 9 3 wa underlying160 (plainElem Tryz.prog 3) w.heap.size 0 (.map []) rfl K (by unfold maxLen;omega) _ _ _ rfl rfl (mL underlying9 (by unfold maxLen;omega)) (.lit (.int .i64 0)) [] (plainElem_int underlying3 (iw (by omega))) ?_;intro al A r;have m:=aq (⟨A,r⟩:_/\_);clear A r))
 go_ret
 have Y:=BH (nm:=[]) c.1 Q (by simp) KE (by simp) (show s.size<=maxLen by unfold maxLen;omega) (by simp[Value.ownBlock]) (eH _ _ _ _) c.2.1 G j.1 j.2.1 j.2.2.1 m.1 m.2;exact⟨rfl,_,_,De Y c.2.2.1 c.2.2.2⟩
theorem DK(base:Nat)(a:cu)(room:Int)(tv lv mv:Value)(nm:List ByteArray)(s:ByteArray)(w:World)(g:HB a room tv lv mv w)(J:jU base nm lv mv w)(C:base<=w.heap.size)(I:nm.length<=100000)(r:s.size<=2048):Calls Tryz.prog 128 #[.pointer (some ⟨a.b,a.o+2,none⟩),.string s] w λe w'=>∃i:Nat,e=.returned (.int .i64 i)/\∃j d f,Hid (j[i]?=some s/\(j=nm\/j=nm++ [s])/\HB a room tv d f w'/\jU base j d f w'/\bV (λb=>b=a.b\/lv.ownBlock=some b\/mapBlock mv=some b) w w'/\ (∀b,d.ownBlock=some b->lv.ownBlock=some b\/w.heap.size<=b)/\∀b,mapBlock f=some b->mapBlock mv=some b\/w.heap.size<=b):=by
 obtain⟨m,B,H⟩:=J;rcases H with⟨rfl,rfl,n⟩|⟨h,k,rfl,E,p,q,D⟩
 ·refine(zE base a room tv lv s w n g C r).mono ?_;rintro e w' ⟨rfl,d,f,l⟩;obtain⟨t,u,v,x,y⟩:=l.out;exact⟨0,rfl,[s],d,f,rfl,ai rfl,t,u,v,x,y⟩
 ·by_cases F:s∈nm
  ·refine(DM a room tv lv h k nm s w g p q F r).mono ?_;rintro e w' ⟨i,rfl,K,rfl⟩;exact⟨i,rfl,nm,lv,.map (some h),K,ah rfl,g,⟨m,B,ai ⟨h,k,rfl,E,p,q,D⟩⟩,bV.refl _ _,λb e=>ah e,λb e=>ah e⟩
  ·obtain⟨z,A,n⟩:∃z A,lv=.slice z nm.length A:=by
     rcases m.2 with⟨e,G⟩|⟨M,c,L,e,_⟩
     ·exact⟨none,0,by rw[e,G]⟩
     ·exact⟨_,c,e⟩
   refine(DL base a room tv lv z A nm.length h k nm s w n rfl I g E C B p q F r D m).mono ?_;rintro e w' ⟨rfl,d,f,l⟩;obtain⟨t,u,v,x,y⟩:=l;exact⟨nm.length,rfl,nm++ [s],d,f,by simp,ai rfl,t,u,v,x,y⟩
abbrev Wd:=Int×Int
def pU(x:Wd):List Value:=[ab x.1,ab x.2]
def aX(l:List Wd):List Value:=l.flatMap pU
theorem cw(l:List Wd):(aX l).length=l.length*2:=by
 induction l with
 | nil=>rfl
 | cons a l ih=>
  have:aX (a::l)=pU a++aX l:=rfl;rw[this,bk,ih,bf];have:(pU a).length=2:=rfl;omega
theorem pS(l r:List Wd):aX (l++r)=aX l++aX r:=by simp[aX]
theorem qF(l:List Wd):∀b∈aX l,b.oneCell'=true:=by
 intro b a;simp only[aX,jG]at a;obtain⟨c,_,a⟩:=a;simp[pU]at a;rcases a with rfl|rfl<;>rfl
theorem iW(l:List Wd)(k:Nat)(x:Wd)(a:l[k]?=some x)(j:Nat)(e:j<2):(aX l)[k*2+j]?=(pU x)[j]? :=by
 induction l generalizing k with
 | nil=>simp at a
 | cons b l ih=>
  have c:aX (b::l)=pU b++aX l:=rfl;have d:(pU b).length=2:=rfl;rw[c];cases k with
  | zero=>
   simp at a;subst a;rw[dm (by omega)];simp
  | succ k=>
   rw[eC (by omega),d,show (k+1)*2+j-2=k*2+j by omega];exact ih k (by simpa using a)
theorem kZ:(Tryz.prog.info? 154).map (λi=>(i.zero,i.size,i.bytes))=some (some (.agg #[ab 0,ab 0]),2,16):=by kernel_rfl
theorem Lw(w:World)(x:Wd):∀j b,(pU x)[j]?=some b->(w.alloc (.cells #[ab x.1,ab x.2] 154)).cell? ((⟨w.heap.size,0,none⟩:Addr).add j)=some b:=by
 intro j b a;rw[fj];have:j<2:=(aO.1 a).1;have c:j=0\/j=1:=by omega
 rcases c with rfl|rfl<;>simp[pU]at a<;>subst a<;>simp[go_sem]
theorem NC(x:Wd):∀b∈pU x,b.oneCell'=true:=by
 intro b a;simp[pU]at a;rcases a with rfl|rfl<;>rfl
theorem sI{P:Program}(w:World)(t a ty e d:TypeId)(g:P.underlying t=some (.slice e))(h:P.underlying a=some (.slice d))(i:TypeInfo)(f:P.info? e=some i)(b xa:Option Addr)(n c m xc:Nat):(Builtin.append_ #[t,a] ty #[ae b n c,ae xa m xc]).run P w=(Builtin.append_ #[t,t] ty #[ae b n c,ae xa m xc]).run P w:=by
 simp[Builtin.append_,cr g,cr h,sizeOf,typeInfo,f,Builtin.lenOf]
theorem nJ{P:Program}(w:World)(t c ty e d:TypeId)(i:TypeInfo)(k:P.underlying t=some (.slice e))(l:P.underlying c=some (.slice d))(g:P.info? e=some i)(b xa:Option Addr)(n cap xc:Nat)(j:n<=cap):(Builtin.append_ #[t,c] ty #[ae b n cap,ae xa 0 xc]).run P w=.ok (ae b n cap) w:=by
 have h:∀a:Addr,(loadCells a 0).run P w=.ok #[] w:=λa=>run_loadCells_list (P:=P) w a [] (λm o f=>by simp at f);cases b<;>cases xa<;>simp[Builtin.append_,cr k,cr l,sizeOf,typeInfo,g,Builtin.lenOf,Builtin.firstCells,j,storeCells,h]
def fe(w:World)(ps:List Wd)(xa:Option Addr):Prop:=ps=[]\/∃ad,xa=some ad/\∀j a,(aX ps)[j]?=some a->w.cell? (ad.add j)=some a
theorem sJ{base:Nat}{v:Value}{n m xc:Nat}{xs:List Value}{ps:List Wd}{xa:Option Addr}{w:World}(ty:TypeId)(c:w.ownsRow base 154 2 v n xs)(t:fe w ps xa)(g:ps.length=m)(z:n+m<=200000)(q:base<=w.heap.size):∃a w',(Builtin.append_ #[158,157] ty #[v,ae xa m xc]).run Tryz.prog w=.ok a w'/\w'.ownsRow base 154 2 a (n+m) (xs++aX ps)/\w.grownBy w' v.ownBlock/\(a.ownBlock=v.ownBlock\/a.ownBlock=some w.heap.size):=by
 obtain⟨f,d,u,x,y⟩:=bP kZ;rcases t with rfl|⟨ad,rfl,r⟩
 ·obtain rfl:m=0:=g.symm;obtain⟨b,cap,e,s⟩:∃b cap,v=ae b n cap/\n<=cap:=by
   rcases c.2 with⟨rfl,rfl⟩|⟨i,cap,h,rfl,_,_,j,_⟩
   ·exact⟨none,0,rfl,ak _⟩
   ·exact⟨_,cap,rfl,j⟩
  subst e;refine⟨_,w,nJ w _ _ ty _ _ f underlying158 underlying157 d b xa n cap xc s,by simpa [aX]using c,gB _ _,ah rfl⟩
 ·obtain⟨b,cap,e⟩:∃b cap,v=ae b n cap:=by
    rcases c.2 with⟨rfl,rfl⟩|⟨i,cap,h,rfl,_⟩
    ·exact⟨none,0,rfl⟩
    ·exact⟨_,cap,rfl⟩
  subst e;rw[sI w _ _ ty _ _ underlying158 underlying157 f d];obtain⟨a,w',k,l,o,_,p⟩:=run_append_own_at (P:=Tryz.prog) w base 158 ty 154 f _ 2 16 underlying158 d u x y rfl (by decide) _ n xs c ad m xc (aX ps) (by rw[cw,g]) r (qF _) (by unfold maxLen;omega) (by omega) q;exact⟨a,w',k,l,o,p⟩
theorem pI{w:World}{c:Array Oper}{rest:List Oper}{o:Oper}{a:Act}{Q:Exit->Act->World->Prop}(k:o.guard=none)(s x:Operand)(p:o.op=.call {callee:=.builtin .append,args:= #[s,x],argTypes:= #[158,157]}){base:Nat}{v:Value}{n m xc:Nat}{xs:List Value}{ps:List Wd}{xa:Option Addr}(t:a.eval s=v)(y:a.eval x=ae xa m xc)(q:w.ownsRow base 154 2 v n xs)(u:fe w ps xa)(l:ps.length=m)(g:n+m<=200000)(j:base<=w.heap.size)(h:∀b w',w'.ownsRow base 154 2 b (n+m) (xs++aX ps)->w.grownBy w' v.ownBlock->(b.ownBlock=v.ownBlock\/b.ownBlock=some w.heap.size)->wpList Tryz.prog c Q rest (a.put o.dst b) w'):wpList Tryz.prog c Q (o::rest) a w:=
 wpList_plain k λz i=>by
  obtain⟨b,w',r,d,e,f⟩:=sJ (xc:=xc) o.type q u l g j;unfold Oper.wp execOp;simp only[p,resolve,invoke,builtin,Sem.run_bind,Sem.run_pure,mY,mP,aM,b8,t,y,r];exact i _ _ (h b w' d e f)
def NI(base a po:Nat)(tv:Value)(ws ps:List Wd)(w w':World)(c:Value):Prop:=
 w'.ownsRow base 154 2 c (ws.length+1+ps.length) (aX (ws++(0,(ps.length:Int))::ps))/\w'.heap[a]?=(w.setCell ⟨a,po,none⟩ c).heap[a]? /\
 bV (λb=>b=a\/tv.ownBlock=some b) w w'/\∀b,c.ownBlock=some b->(tv.ownBlock=some b\/w.heap.size<=b)
theorem FX{b po:Nat}{v:Value}{w w2:World}{o c:Obj}{row:Option Nat}(i:b<w.heap.size)(j:row≠some b)(f:((w.alloc o).alloc c).grownBy w2 row)(g:w.cell? ⟨b,po,none⟩=some v)(h:w.frozen? ⟨b,po,none⟩=false):w2.cell? ⟨b,po,none⟩=some v/\w2.frozen? ⟨b,po,none⟩=false/\b<w2.heap.size:=by
 have d:((w.alloc o).alloc c).heap.size=w.heap.size+2:=by simp
 have e:w2.heap[b]?=w.heap[b]? :=((f.block b (by omega) (λd=>j d.symm)).trans ((dd (w.alloc o) c none).block b (by simp;omega) (by simp))).trans ((dd w o none).block b i (by simp));have:=f.size;exact⟨(bt e po).trans g,(jj (a:=⟨b,po,none⟩) e).trans h,by omega⟩
theorem L9{base a:Nat}{tv:Value}{L c e:Nat}{ys:List Value}{ps:List Wd}{pa:Option Addr}{w w2:World}{o j:Obj}(u:a<w.heap.size)(s:base<=w.heap.size)(i:tv.ownBlock≠some a)(q:w2.ownsRow base 154 2 (ae (some ⟨c,0,none⟩) (L+1) e) (L+1) ys)(f:((w.alloc o).alloc j).grownBy w2 tv.ownBlock)(k:tv.ownBlock=some c\/c=w.heap.size+2)(po:Nat)(r:∀w1,bV (λb=>b=a\/tv.ownBlock=some b) w w1->fe w1 ps pa):(w2.setCell ⟨a,po,none⟩ (ae (some ⟨c,0,none⟩) (L+1) e)).ownsRow base 154 2 (ae (some ⟨c,0,none⟩) (L+1) e) (L+1) ys/\fe (w2.setCell ⟨a,po,none⟩ (ae (some ⟨c,0,none⟩) (L+1) e)) ps pa/\base<=(w2.setCell ⟨a,po,none⟩ (ae (some ⟨c,0,none⟩) (L+1) e)).heap.size:=by
 have n:c≠a:=by
  rintro rfl;rcases k with d|d
  ·exact i d
  ·omega
 have d:((w.alloc o).alloc j).heap.size=w.heap.size+2:=by simp
 have t:=f.size;have g:=bm w2 a po (ae (some ⟨c,0,none⟩) (L+1) e);have p:bV (λb=>b=a\/tv.ownBlock=some b) w (w2.setCell ⟨a,po,none⟩ (ae (some ⟨c,0,none⟩) (L+1) e)):=by
  refine⟨?_,?_,?_,?_,?_⟩
  ·exact f.os
  ·exact f.tape
  ·exact f.output
  ·have:=g.size;omega
  ·intro b l h;simp only[not_or]at h;exact(g.block b (by omega) h.1).trans (((f.block b (by omega) (λd=>h.2 d.symm)).trans ((dd (w.alloc o) j none).block b (by simp;omega) (by simp))).trans ((dd w o none).block b l (by simp)))
 refine⟨pA q (row:=some a) ⟨rfl,rfl,rfl,g.size,λb m i=>g.block b m (λd=>i (by rw[d]))⟩ (ai ?_),r _ p,by have:=g.size;omega⟩;simp only[Value.ownBlock];exact λd=>n (aw d)
theorem Jj{base d po:Nat}{tv:Value}{L e f:Nat}{xs:List Value}{w w2 w4:World}{i:Obj}{v0 v1 y:Value}{g:Nat}(B:d<w.heap.size)(x:w.ownsRow base 154 2 tv L xs)(v:tv.ownBlock≠some d)(l:((w.alloc (.cells #[v0,v1] 154)).alloc i).grownBy w2 tv.ownBlock)(k:tv.ownBlock=some e\/e=w.heap.size+2)(r:(w2.setCell ⟨d,po,none⟩ (ae (some ⟨e,0,none⟩) g f)).grownBy w4 (Value.slice (some ⟨e,0,none⟩) g f).ownBlock)(p:w2.cell? ⟨d,po,none⟩=some y)(q:w2.frozen? ⟨d,po,none⟩=false):(w4.cell? ⟨w.heap.size,0,none⟩=some v0/\w4.cell? ⟨w.heap.size,1,none⟩=some v1)/\(w4.frozen? ⟨w.heap.size,0,none⟩=false/\w4.frozen? ⟨w.heap.size,1,none⟩=false)/\w4.cell? ⟨d,po,none⟩=some (ae (some ⟨e,0,none⟩) g f)/\w4.frozen? ⟨d,po,none⟩=false:=by
 have m:∀b,tv.ownBlock=some b->b<w.heap.size:=λb c=>(x.lt b c).2;have c:((w.alloc (.cells #[v0,v1] 154)).alloc i).heap.size=w.heap.size+2:=by simp
 have A:=l.size;have o:=bm w2 d po (ae (some ⟨e,0,none⟩) g f);have C:=o.size;have t:e≠w.heap.size:=by
  rintro rfl;rcases k with c|c
  ·have:=m _ c;omega
  ·omega
 have s:e≠d:=by
  rintro rfl;rcases k with c|c
  ·exact v c
  ·omega
 have j:∀b,b<w2.heap.size->b≠e->w4.heap[b]?=(w2.setCell ⟨d,po,none⟩ (ae (some ⟨e,0,none⟩) g f)).heap[b]? :=λb z u=>r.block b (by omega) (λc=>u (aw c));have h:w4.heap[w.heap.size]?=some (.cells #[v0,v1] 154):=by
  refine(j _ (by omega) (λc=>t c.symm)).trans ((o.block _ (by omega) (by omega)).trans ((l.block _ (by omega) (λc=>by have:=m _ c.symm;omega)).trans (((dd (w.alloc (.cells #[v0,v1] 154)) i none).block _ (by simp) (by simp)).trans (aE w _))))
 have n:=j d (by omega) (λc=>s c.symm);refine⟨⟨by simp[World.cell?,h],by simp[World.cell?,h]⟩,⟨by simp[World.frozen?,h],by simp[World.frozen?,h]⟩,?_,?_⟩
 ·rw[bt n po];simp[go_sem,p]
 ·rw[jj (a:=⟨d,po,none⟩) n];simp[go_sem,q]
theorem La(w:World)(q o:Nat)(a v:Value):((w.setCell ⟨q,o,none⟩ a).setCell ⟨q,o,none⟩ v).heap[q]?=(w.setCell ⟨q,o,none⟩ v).heap[q]? :=by
 simp only[World.setCell,bN,cF];cases w.heap[q]? with
 | none=>rfl
 | some b=>cases b<;>simp
theorem yj{w w':World}{q:Nat}(a:w'.heap[q]?=w.heap[q]?)(o:Nat)(v:Value):(w'.setCell ⟨q,o,none⟩ v).heap[q]?=(w.setCell ⟨q,o,none⟩ v).heap[q]? :=by
 simp only[World.setCell,bN,cF,a]
theorem L8{base c po:Nat}{tv:Value}{e h d g:Nat}{ws ps:List Wd}{w w2 w4:World}{o s:Obj}{p t:Value}(R:c<w.heap.size)(S:w.ownsRow base 154 2 tv ws.length (aX ws))(C:tv.ownBlock≠some c)(k:((w.alloc o).alloc s).grownBy w2 tv.ownBlock)(n:tv.ownBlock=some e\/e=w.heap.size+2)(Q:w4.ownsRow base 154 2 (ae (some ⟨d,0,none⟩) (ws.length+1+ps.length) g) (ws.length+1+ps.length) (aX ws++pU (0,(ps.length:Int))++aX ps))(l:(w2.setCell ⟨c,po,none⟩ (ae (some ⟨e,0,none⟩) (ws.length+1) h)).grownBy w4 (Value.slice (some ⟨e,0,none⟩) (ws.length+1) h).ownBlock)(M:(Value.slice (some ⟨d,0,none⟩) (ws.length+1+ps.length) g).ownBlock=(Value.slice (some ⟨e,0,none⟩) (ws.length+1) h).ownBlock\/(Value.slice (some ⟨d,0,none⟩) (ws.length+1+ps.length) g).ownBlock=some (w2.setCell ⟨c,po,none⟩ (ae (some ⟨e,0,none⟩) (ws.length+1) h)).heap.size):NI base c po tv ws ps w (((w4.setCell ⟨c,po,none⟩ (ae (some ⟨d,0,none⟩) (ws.length+1+ps.length) g)).setCell ⟨w.heap.size,0,none⟩ p).setCell ⟨w.heap.size,1,none⟩ t) (ae (some ⟨d,0,none⟩) (ws.length+1+ps.length) g):=by
 have P:∀b,tv.ownBlock=some b->b<w.heap.size:=λb a=>(S.lt b a).2;have a:((w.alloc o).alloc s).heap.size=w.heap.size+2:=by simp
 have aa:=k.size;have D:=bm w2 c po (ae (some ⟨e,0,none⟩) (ws.length+1) h);have ad:=D.size;have Z:=l.size;have ab:e≠w.heap.size:=by
  rintro rfl;rcases n with a|a
  ·have:=P _ a;omega
  ·omega
 have O:e≠c:=by
  rintro rfl;rcases n with a|a
  ·exact C a
  ·omega
 have J:d=e\/w.heap.size+2<=d:=by
  rcases M with m|m
  ·exact ah (by simpa [Value.ownBlock]using m)
  ·have X:d=(w2.setCell ⟨c,po,none⟩ (ae (some ⟨e,0,none⟩) (ws.length+1) h)).heap.size:=by
     simp only[Value.ownBlock]at m;exact aw m
   exact ai (by omega)
 have L:d≠w.heap.size:=by omega
 have K:d≠c:=by omega
 have y:∀b,b<w.heap.size->tv.ownBlock≠some b->w2.heap[b]?=w.heap[b]? :=λb i f=>((k.block b (by omega) (λa=>f a.symm)).trans ((dd (w.alloc o) s none).block b (by simp;omega) (by simp))).trans ((dd w o none).block b i (by simp));have z:∀b,b<w2.heap.size->b≠e->w4.heap[b]?=(w2.setCell ⟨c,po,none⟩ (ae (some ⟨e,0,none⟩) (ws.length+1) h)).heap[b]? :=λb i f=>l.block b (by omega) (λa=>f (aw a));have r:=bm w4 c po (ae (some ⟨d,0,none⟩) (ws.length+1+ps.length) g);have E:=bm (w4.setCell ⟨c,po,none⟩ (ae (some ⟨d,0,none⟩) (ws.length+1+ps.length) g)) w.heap.size 0 p;have F:=bm ((w4.setCell ⟨c,po,none⟩ (ae (some ⟨d,0,none⟩) (ws.length+1+ps.length) g)).setCell ⟨w.heap.size,0,none⟩ p) w.heap.size 1 t;have af:=r.size;have ag:=E.size;have aj:=F.size;have q:∀b,b<w4.heap.size->b≠w.heap.size->(((w4.setCell ⟨c,po,none⟩ (ae (some ⟨d,0,none⟩) (ws.length+1+ps.length) g)).setCell ⟨w.heap.size,0,none⟩ p).setCell ⟨w.heap.size,1,none⟩ t).heap[b]?=(w4.setCell ⟨c,po,none⟩ (ae (some ⟨d,0,none⟩) (ws.length+1+ps.length) g)).heap[b]? :=λb i f=>(F.block b (by omega) f).trans (E.block b (by omega) f);refine⟨?_,?_,⟨?_,?_,?_,?_,?_⟩,?_⟩
 ·have I:aX (ws++(0,(ps.length:Int))::ps)=aX ws++pU (0,(ps.length:Int))++aX ps:=by simp[aX]
  rw[I];obtain⟨V,u⟩:=Q;refine⟨V,?_⟩;rcases u with⟨u,_⟩|⟨Y,cap,G,U,i,A,T⟩
  ·simp at u
  ·injection U with j W H;injection j with j;injection j with j _;subst j H;have B:=(aF.1 A).1;exact ai ⟨d,g,G,rfl,i,(q d B L).trans ((r.block d B K).trans A),T⟩
 ·refine(q c (by omega) (by omega)).trans ((yj (z c (by omega) (λa=>O a.symm)) po _).trans ((La w2 c po _ _).trans (yj (y c R C) po _)))
 ·exact l.os.trans k.os
 ·exact l.tape.trans k.tape
 ·exact l.output.trans k.output
 ·omega
 ·intro b i f;simp only[not_or]at f;have N:b≠e:=by
   rintro rfl;rcases n with a|a
   ·exact f.2 a
   ·omega
  exact(q b (by omega) (by omega)).trans ((r.block b (by omega) f.1).trans ((z b (by omega) N).trans ((D.block b (by omega) f.1).trans (y b i f.2))))
 ·intro b x;simp only[Value.ownBlock]at x;obtain rfl:=aw x;rcases J with a|a
  ·rw[a];rcases n with v|v
   ·exact ah v
   ·exact ai (by omega)
  ·exact ai (by omega)
theorem AD(base a po:Nat)(tv:Value)(K:Option Addr)(M L:Nat)(ws ps:List Wd)(m pc:Nat)(pa:Option Addr)(w:World)(G:tv=ae K L M)(A:Hid (ws.length=L))(r:Hid (ps.length=m))(T:L<=100000)(U:m<=1000)(D:base<=w.heap.size)(c0:w.cell? ⟨a,po,none⟩=some tv)(f0:w.frozen? ⟨a,po,none⟩=false)(h:a<w.heap.size)(g:Hid (tv.ownBlock≠some a))(k:Hid (w.ownsRow base 154 2 tv L (aX ws)))(B:Hid (∀w1,bV (λb=>b=a\/tv.ownBlock=some b) w w1->fe w1 ps pa)):am 129 #[.pointer (some ⟨a,po,none⟩),ae pa m pc] w λe w'=>e=.returned (.agg #[ab 4,ab L])/\∃N,Hid (NI base a po tv ws ps w w' N):=by
 subst G;obtain⟨H,t,x,y,z⟩:=bP kZ;have d:=aq (⟨t,x,y,z⟩:_/\_/\_/\_);clear t x y z;go_enter func129,ntmps129
 go_wp2_with (first
  | (at_builtin;refine wpList_append_lies _ rfl _ _ 158 rfl base 154 H _ 2 16 underlying158 d.1 d.2.1 d.2.2.1 d.2.2.2 rfl (by decide) _ L _ rfl ((k.alloc _).alloc _) ⟨w.heap.size+1,0,none⟩ 1 1 (pU (0,(m:Int))) rfl rfl (by have:=Lw (w.alloc (.cells #[ab 0,ab 0] 154)) (0,(m:Int));simpa using this) (NC _) (by decide) (by unfold maxLen;omega) (by omega) (by simp;omega) (w.heap.size+2) (by simp) ?_;intro R O Y p f l u;have c:=aq (⟨p,f,l,u⟩:_/\_/\_/\_);obtain⟨C,f2,V⟩:=FX h g f c0 f0;have i:=aq (L9 h D g p f l po B);clear p f l u)
  | (at_builtin;refine pI rfl _ _ rfl (base:=base) (n:=L+1) rfl rfl i.1 i.2.1 r (by omega) i.2.2 ?_;intro X Z q o s;obtain⟨S,P,rfl,_,_⟩:=q.form (by omega);have j:=aq (⟨q,o,s⟩:_/\_/\_);obtain⟨⟨I,J⟩,W,Q,f4⟩:=Jj h k g c.2.1 c.2.2.1 o C f2;clear q o s))
 have E:=A.out;have F:=r.out;subst E F;exact av (v:=.agg #[ab 4,ab ws.length]) (by simp[results,results129,go_sem,I,J]) rfl ⟨rfl,_,L8 h k g c.2.1 c.2.2.1 j.1 j.2.1 j.2.2⟩
def Od(room:Int)(w:World)(e:Ending)(w':World):Prop:=
    (¬(0<=room/\room<=1000)->e=.returned (.tuple #[.pointer none,ab 1])/\w'=w)/\
    (0<=room/\room<=1000->e=.returned (.tuple #[aB w.heap.size,ab 0])/\HB (cu.own w.heap.size) room (ae none 0 0) (ae none 0 0) (.map none) w'/\w'.heap.size=w.heap.size+1/\aj w w')
theorem MU(room:Int)(w:World):am 78 #[ab room] w (Od room w):=by
 by_cases a:room<0
 ·have b:decide (room<0)=true:=by simpa using a
  go_enter func78,ntmps78;go_wp2_with fail
  go_ret2
  exact⟨λ_=>⟨rfl,rfl⟩,λc=>by omega⟩
 ·by_cases d:1000<room
  ·have b:decide (room<0)=false:=by simpa using a
   have e:decide (1000<room)=true:=by simpa using d
   go_enter func78,ntmps78;go_wp2_with fail
   go_ret2
   exact⟨λ_=>⟨rfl,rfl⟩,λc=>by omega⟩
  ·have b:decide (room<0)=false:=by simpa using a
   have e:decide (1000<room)=false:=by simpa using d
   go_enter func78,ntmps78;go_wp2_with fail
   go_ret2
   exact⟨λc=>by omega,λ_=>⟨rfl,⟨⟨rfl,ah rfl⟩,aE w _⟩,by simp,(ap _ _).alloc (ak _) _⟩⟩
def fU(ws:List Wd)(i:Int):Bool:=decide (0<=i) && match ws[i.toNat]? with
 | some x=>x.1==0
 | none=>false
theorem iY{base g c L:Nat}{ws:List Wd}{w:World}(d:w.ownsRow base 154 2 (ae (some ⟨g,0,none⟩) L c) L (aX ws))(k:Nat)(x:Wd)(b:ws[k]?=some x):w.cell? ⟨g,k*2,none⟩=some (ab x.1)/\w.cell? ⟨g,k*2+1,none⟩=some (ab x.2):=by
 have a:=d.cells (g:=g) rfl;refine⟨?_,?_⟩
 ·have:=a (k*2+0) (ab x.1) (by rw[iW ws k x b 0 (by omega)];rfl);rw[fj]at this;exact this
 ·have:=a (k*2+1) (ab x.2) (by rw[iW ws k x b 1 (by omega)];rfl);rw[fj]at this;exact this
theorem CY(base:Nat)(l:Option Addr)(L m:Nat)(ws:List Wd)(i:Int)(w:World)(d:Hid (ws.length=L))(q:L<=100000)(f:Hid (w.ownsRow base 154 2 (ae l L m) L (aX ws))):am 163 #[ae l L m,ab i] w λe w'=>e=.returned (.bool (fU ws i))/\w'=w:=by
 by_cases h:0<=i
 ·obtain⟨k,rfl⟩:∃k:Nat,i=k:=⟨i.toNat,by omega⟩;by_cases o:k<L
  ·obtain⟨a,b⟩:∃a,ws[k]?=some a:=⟨ws[k]'(by rw[d.out];exact o),aG _⟩;obtain⟨p,c,j,_,_⟩:=f.out.form (by omega);simp at j;obtain⟨rfl,rfl⟩:=j;obtain⟨t,u⟩:=iY f k a b;have HB:Hid (fU ws k=(a.1==0)):=by simp[Hid,fU,b]
   have g:decide ((0:Int)<=(k:Int))=true:=by simp
   have n:decide ((k:Int)<(L:Int))=true:=by simp;omega
   have r:(0:Int)<=(k:Int):=by omega
   have s:(k:Int)<(L:Int):=by omega
   clear b;go_enter func163,ntmps163;go_wp2_with fail
   go_ret
   exact⟨eS HB.symm,rfl⟩
  ·have HB:Hid (fU ws k=false):=by
     have:ws[k]?=none:=eD (by rw[d.out];omega);simp[Hid,fU,this]
   have g:decide ((0:Int)<=(k:Int))=true:=by simp
   have n:decide ((k:Int)<(L:Int))=false:=by simp;omega
   go_enter func163,ntmps163;go_wp2_with fail
   go_ret
   exact⟨eS HB.symm,rfl⟩
 ·have HB:Hid (fU ws i=false):=by simp[Hid,fU,h]
  have g:decide (0<=i)=false:=by simpa using h
  go_enter func163,ntmps163;go_wp2_with fail
  go_ret
  exact⟨eS HB.symm,rfl⟩
def vd(L:Nat)(i:Int):Bool:=decide (0<=i) && decide (i<L)
theorem MF(c:cu)(room:Int)(tv:Value)(g:Option Addr)(L h:Nat)(mv:Value)(i:Int)(w:World)(d:Hid (HB c room tv (ae g L h) mv w)):am 162 #[.pointer (some ⟨c.b,c.o+2,none⟩),ab i] w λe w'=>e=.returned (.bool (vd L i))/\w'=w:=by
 obtain⟨⟨j,k,l,m⟩,n⟩:=d.cells;by_cases a:0<=i
 ·have HB:Hid (vd L i=decide (i<L)):=by simp[Hid,vd,a]
  have f:decide (0<=i)=true:=by simpa using a
  go_enter func162,ntmps162;go_wp2_with fail
  go_ret
  exact⟨eS HB.symm,rfl⟩
 ·have HB:Hid (vd L i=false):=by simp[Hid,vd,a]
  have f:decide (0<=i)=false:=by simpa using a
  go_enter func162,ntmps162;go_wp2_with fail
  go_ret
  exact⟨eS HB.symm,rfl⟩
theorem OX(l:List ByteArray)(k:Nat)(s:ByteArray)(a:l[k]?=some s):(strCells l)[k]?=some (af s):=by simp[strCells,a]
theorem DH(base:Nat)(a:cu)(room:Int)(tv lv mv:Value)(nm:List ByteArray)(i:Nat)(s:ByteArray)(w:World)(h:Hid (HB a room tv lv mv w))(d:Hid (w.ownsRow base 9 1 lv nm.length (strCells nm)))(f:Hid (nm[i]?=some s))(r:nm.length<=100000)(l:s.size<=2048):am 164 #[.pointer (some ⟨a.b,a.o+2,none⟩),ab i] w λe w'=>e=.returned (af s)/\aj w w':=by
 have x:i<nm.length:=(aO.1 f).1;obtain⟨g,c,rfl,_,_⟩:=d.out.form (by omega);have z:w.cell? ⟨g,i,none⟩=some (af s):=by
  have:=d.cells (g:=g) rfl i (af s) (OX nm i s f);rw[fj]at this;exact this
 obtain⟨⟨m,n,p,q⟩,t⟩:=h.cells;generalize nm.length=j at*;have u:(0:Int)<=(i:Int):=by omega
 have v:(i:Int)<(j:Int):=by omega
 go_enter func164,ntmps164;go_wp2_with fail;refine(dR s _ l).mono ?_;rintro e y ⟨rfl,k⟩;go_wp2_with fail
 go_ret
 exact⟨rfl,k⟩
theorem Bm(a:cu)(room n:Int)(d:Option Addr)(L f:Nat)(lv mv:Value)(w:World)(k:L<=100000)(p:0<=room)(m:room<=1000)(c:Hid (HB a room (ae d L f) lv mv w)):am 107 #[.pointer (some ⟨a.b,a.o,none⟩),ab n] w λe w'=>e=.returned (.bool (decide (n<=room-L)))/\aj w w':=by
 obtain⟨⟨g,h,i,j⟩,l⟩:=c.cells;go_enter func107,ntmps107;go_wp2_with fail
 go_quiet (fail)
 go_wp2_with fail
 go_ret
 exact⟨rfl,⟨rfl,rfl,rfl,ak _,λ_ _=>rfl⟩⟩
theorem tr(ws:List Wd)(k n j:Nat)(g:j<n*2):(aX ((ws.drop k).take n))[j]?=(aX ws)[k*2+j]? :=by
 by_cases f:k+j / 2<ws.length
 ·obtain⟨a,b⟩:∃a,ws[k+j / 2]?=some a:=⟨_,aG f⟩;have e:((ws.drop k).take n)[j / 2]?=some a:=by
   rw[sS (by omega),kH];exact b
  have c:j=j / 2*2+j % 2:=by omega
  have d:k*2+j=(k+j / 2)*2+j % 2:=by omega
  rw[d,iW ws (k+j / 2) a b (j % 2) (by omega)]
  conv=>lhs;rw[c]
  rw[iW _ (j / 2) a e (j % 2) (by omega)]
 ·rw[eD (l:=aX ws) (by rw[cw];omega),eD (by rw[cw,dy,eX];omega)]
def LZ(ws:List Wd)(k n g:Nat)(w:World)(e:Ending)(w':World):Prop:=w'=w/\∃pa pc,e=.returned (ae (some pa) n pc)/\pa.block=g/\fe w ((ws.drop (k+1)).take n) (some pa)/\∃o,pa=⟨g,o,none⟩
theorem M9{base g L c:Nat}{xs:List Value}{ty:TypeId}{sz:Nat}{w:World}(a:w.ownsRow base ty sz (ae (some ⟨g,0,none⟩) L c) L xs):L<=c/\c<=maxLen:=by
 rcases a.2 with⟨a,_⟩|⟨f,cap,e,a,_,_,b,d,_⟩
 ·simp at a
 ·injection a with _ _ a;subst a;exact⟨b,d⟩
theorem xQ(base:Nat)(g L b k n:Nat)(ws:List Wd)(w:World)(r:L<=100000)(c:Hid (w.ownsRow base 154 2 (ae (some ⟨g,0,none⟩) L b) L (aX ws)))(p:Hid (ws[k]?=some (0,(n:Int))))(s:k+1+n<=L):am 166 #[ae (some ⟨g,0,none⟩) L b,ab k] w (LZ ws k n g w):=by
 obtain⟨v,x⟩:=iY c k _ p;obtain⟨u,f⟩:=M9 c;have e:Hid (∀o,(n=0\/o=(k+1)*2)->fe w ((ws.drop (k+1)).take n) (some ⟨g,o,none⟩)):=by
  rintro o (rfl|rfl)
  ·exact ah (by simp)
  ·refine ai ⟨_,rfl,λa q d=>?_⟩;have l:a<n*2:=by
    have:=(aO.1 d).1;rw[cw,dy]at this;omega
   rw[tr ws (k+1) n a l]at d;have:=c.cells (g:=g) rfl _ q d;rw[fj]at this;have h:(⟨g,(k+1)*2,none⟩:Addr).add a=⟨g,(k+1)*2+a,none⟩:=by
    unfold Addr.add;by_cases i:a=0<;>simp[i]
   rw[h];exact this
 have t:(b:Int)<=9223372036854775807:=by unfold maxLen at f;omega
 clear f;by_cases j:b=k+1
 ·subst j;have m:n=0:=by omega
  subst m;go_enter func166,ntmps166;go_wp2_with fail
  go_ret
  exact⟨rfl,_,_,rfl,rfl,e _ (by simp),_,rfl⟩
 ·go_enter func166,ntmps166;go_wp2_with fail
  go_ret
  exact⟨rfl,_,_,rfl,rfl,e _ (ai rfl),_,rfl⟩
def Pw(s t:ByteArray):Bool:=t.data==s.data
theorem oP(s t:ByteArray):Pw s t=true ↔ t=s:=by
 cases s;cases t;simp[Pw]
def eK(nm:List ByteArray)(s:ByteArray):List ByteArray:=if nm.any (Pw s)then nm else nm++ [s]
def lh(nm:List ByteArray)(s:ByteArray):Nat:=nm.findIdx (Pw s)
theorem zC(nm:List ByteArray)(s:ByteArray):nm.any (Pw s)=true ↔ s∈nm:=by
 rw[List.any_eq_true];constructor
 ·rintro ⟨t,c,a⟩;rw[oP]at a;exact a▸c
 ·exact λb=>⟨s,b,(oP s s).2 rfl⟩
theorem BI{nm:List ByteArray}{s:ByteArray}(e:nm.Nodup){i:Nat}(b:nm[i]?=some s):lh nm s=i:=by
 have f:=(aO.1 b).1;have a:lh nm s<nm.length:=by
  unfold lh;rw[List.findIdx_lt_length];exact⟨s,aH b,(oP s s).2 rfl⟩
 have d:nm[lh nm s]'a=s:=(oP s _).1 (List.findIdx_getElem (w:=a));have c:nm[lh nm s]?=nm[i]? :=by rw[b,aG a,d]
 exact(List.getElem?_inj a e).1 c
def bM{a:Type}(f:a->List Wd->List ByteArray->Wd×List Wd×List ByteArray):List a->List Wd->List ByteArray->List Wd×List Wd×List ByteArray
 | [],ws,nm=>([],ws,nm)
 | y::l,ws,nm=>((f y ws nm).1::(bM f l (f y ws nm).2.1 (f y ws nm).2.2).1,(bM f l (f y ws nm).2.1 (f y ws nm).2.2).2)
def aV:(n:Nat)->Tm n->List Wd->List ByteArray->Wd×List Wd×List ByteArray
 | 0,_,ws,nm=>((0,0),ws,nm)
 | n+1,x,ws,nm=>
  if x.1.1=2 then ((2,(lh (eK nm x.1.2.2) x.1.2.2:Int)),ws,eK nm x.1.2.2)
  else if x.1.1=4 then
   ((4,((bM (aV n) x.2.2 ws nm).2.1.length:Int)),(bM (aV n) x.2.2 ws nm).2.1++(0,(x.2.2.length:Int))::(bM (aV n) x.2.2 ws nm).1,(bM (aV n) x.2.2 ws nm).2.2)
  else ((x.1.1,x.1.2.1),ws,nm)
theorem GS{a:Type}(f:a->List Wd->List ByteArray->Wd×List Wd×List ByteArray)(l:List a)(y:a)(ws:List Wd)(nm:List ByteArray):bM f (l++ [y]) ws nm=((bM f l ws nm).1++ [(f y (bM f l ws nm).2.1 (bM f l ws nm).2.2).1],(f y (bM f l ws nm).2.1 (bM f l ws nm).2.2).2):=by
 induction l generalizing ws nm with
 | nil=>simp[bM]
 | cons b l ih=>simp[bM,ih]
theorem gM{a:Type}(f:a->List Wd->List ByteArray->Wd×List Wd×List ByteArray)(l:List a)(ws:List Wd)(nm:List ByteArray):(bM f l ws nm).1.length=l.length:=by
 induction l generalizing ws nm with
 | nil=>simp[bM]
 | cons b l ih=>simp[bM,ih]
theorem zB(nm:List ByteArray)(s:ByteArray):(eK nm s).length<=nm.length+1:=by
 unfold eK;split<;>simp
theorem iL:(n:Nat)->(x:Tm n)->(ws:List Wd)->(nm:List ByteArray)->((aV n x ws nm).2.1.length:Int)=ws.length+sz n x/\(aV n x ws nm).2.2.length<=nm.length+(ax n x).length
 | 0,_,_,_=>by simp[aV,sz]
 | n+1,x,ws,nm=>by
  have key:∀(l:List (Tm n))(ws:List Wd)(nm:List ByteArray),((bM (aV n) l ws nm).2.1.length:Int)+l.length=ws.length+(l.map λy=>1+sz n y).sum/\(bM (aV n) l ws nm).2.2.length<=nm.length+(l.flatMap λy=>ax n y).length:=by
   intro l
   induction l with
   | nil=>intro ws nm;simp[bM]
   | cons y l ih=>
    intro ws nm;obtain⟨e,f⟩:=iL n y ws nm;obtain⟨g,h⟩:=ih (aV n y ws nm).2.1 (aV n y ws nm).2.2;simp only[bM,aM,bA,bz,bk,bf];exact⟨by omega,by omega⟩
  obtain⟨i,j⟩:=key x.2.2 ws nm;have k:=zB nm x.1.2.2;have c:=gM (aV n) x.2.2 ws nm;have d:(ax (n+1) x).length=1+(x.2.2.flatMap λy=>ax n y).length:=by simp[ax];omega
  rw[d];by_cases b:x.1.1=2
  ·have a:¬x.1.1=4:=by omega
   simp only[aV,sz,if_pos b,if_neg a];exact⟨by omega,by omega⟩
  ·by_cases a:x.1.1=4
   ·simp only[aV,sz,if_neg b,if_pos a,bk,bf,c];exact⟨by omega,by omega⟩
   ·simp only[aV,sz,if_neg b,if_neg a];exact⟨by omega,by omega⟩
def dK(base:Nat)(e:cu)(room:Int)(ws:List Wd)(nm:List ByteArray)(M:Nat->Prop)(w:World):Prop:=
 ∃d a c,HB e room d a c w/\w.ownsRow base 154 2 d ws.length (aX ws)/\jU base nm a c w/\M e.b/\(∀b,d.ownBlock=some b->M b)/\(∀b,a.ownBlock=some b->M b)/\∀b,mapBlock c=some b->M b
theorem dV{base:Nat}{e:TypeId}{sz:Nat}{v:Value}{n:Nat}{xs:List Value}{w w':World}{S:Nat->Prop}(c:w.ownsRow base e sz v n xs)(k:bV S w w')(h:∀b,v.ownBlock=some b->¬S b):w'.ownsRow base e sz v n xs:=by
 refine⟨c.1,?_⟩;rcases c.2 with⟨e,g⟩|⟨a,cap,f,e,i,d,j⟩
 ·exact ah ⟨e,g⟩
 ·exact ai ⟨a,cap,f,e,i,(k.block a (aF.1 d).1 (h a (by rw[e];rfl))).trans d,j⟩
theorem dK.kept{base:Nat}{d:cu}{room:Int}{ws:List Wd}{nm:List ByteArray}{M S:Nat->Prop}{w w':World}(m:dK base d room ws nm M w)(k:bV S w w')(c:∀b,M b->b<w.heap.size->¬S b):dK base d room ws nm M w':=by
 obtain⟨q,o,p,e,g,f,h,i,j,l⟩:=m;refine⟨q,o,p,e.kept (k.block d.b e.lt (c d.b h e.lt)),dV g k λb a=>c b (i b a) (g.lt b a).2,?_,h,i,j,l⟩;refine f.kept k (λb a=>c b (j b a) (f.1.lt b a).2) λb a=>c b (l b a) ?_;rcases f.2.2 with⟨rfl,_⟩|⟨s,r,rfl,_,n,_⟩
 ·simp[mapBlock]at a
 ·simp only[mapBlock]at a;obtain rfl:=aw a;exact n.lt
theorem dK.mono{base:Nat}{c:cu}{room:Int}{ws:List Wd}{nm:List ByteArray}{M S:Nat->Prop}{w:World}(d:dK base c room ws nm M w)(k:∀b,M b->S b):dK base c room ws nm S w:=by
 obtain⟨o,m,n,e,f,g,h,i,j,l⟩:=d;exact⟨o,m,n,e,f,g,k _ h,λb a=>k b (i b a),λb a=>k b (j b a),λb a=>k b (l b a)⟩
def lU(base:Nat)(a:cu)(room:Int)(ws:List Wd)(nm:List ByteArray)(M:Nat->Prop)(w w':World):Prop:=dK base a room ws nm (λb=>M b\/w.heap.size<=b) w'/\bV M w w'
theorem ye{w:World}{base h:Nat}{e f:TypeId}{s o n m:Nat}{v g:Value}{xs ys:List Value}(i:w.ownsRow base e s v n xs)(j:w.ownsRow h f o g m ys)(l:e≠f):∀b,v.ownBlock=some b->g.ownBlock≠some b:=by
 intro b c d;rcases i.2 with⟨rfl,_⟩|⟨t,cap,q,rfl,_,k,_⟩
 ·simp[Value.ownBlock]at c
 ·rcases j.2 with⟨rfl,_⟩|⟨u,p,r,rfl,_,a,_⟩
  ·simp[Value.ownBlock]at d
  ·simp only[Value.ownBlock]at c d;obtain rfl:=aw c;obtain rfl:=aw d;rw[k]at a;injection a with a;injection a with _ a;exact l a
theorem ny{w:World}{base:Nat}{e:TypeId}{s n:Nat}{v:Value}{xs:List Value}{c:cu}{room:Int}{tv lv mv:Value}(h:w.ownsRow base e s v n xs)(f:HB c room tv lv mv w)(g:e≠164/\e≠166):v.ownBlock≠some c.b:=λe=>by
 rcases h.2 with⟨rfl,_⟩|⟨k,cap,j,rfl,_,i,_⟩
 ·simp[Value.ownBlock]at e
 ·simp[Value.ownBlock]at e;subst e;have a:w.heap[c.b]?=_:=f.2;rw[i]at a;injection a with a;injection a with a d;rcases f.1.2 with t1|t1
  ·exact g.1 (d.trans t1)
  ·exact g.2 (d.trans t1)
theorem FC{w:World}{base:Nat}{e:TypeId}{s n:Nat}{v:Value}{xs:List Value}{nm:List ByteArray}{lv mv:Value}{f:Nat}(g:w.ownsRow base e s v n xs)(h:jU f nm lv mv w):∀b,v.ownBlock=some b->mapBlock mv≠some b:=by
 intro b a c;rcases g.2 with⟨rfl,_⟩|⟨o,cap,m,rfl,_,i,_⟩
 ·simp[Value.ownBlock]at a
 ·rcases h.2.2 with⟨rfl,_⟩|⟨p,k,rfl,_,j,_⟩
  ·simp[mapBlock]at c
  ·simp only[Value.ownBlock,mapBlock]at a c;obtain rfl:=aw a;obtain rfl:=aw c;obtain⟨es,l,d,_⟩:=j;rw[i]at d;cases d
theorem ud{w:World}{nm:List ByteArray}{lv mv:Value}{base:Nat}{a:cu}{room:Int}{tv i j:Value}(f:jU base nm lv mv w)(d:HB a room tv i j w):mapBlock mv≠some a.b:=λe=>by
 rcases f.2.2 with⟨rfl,_⟩|⟨l,D,rfl,_,h,_⟩
 ·simp[mapBlock]at e
 ·simp only[mapBlock]at e;obtain rfl:=aw e;obtain⟨es,k,g,_⟩:=h;have c:w.heap[a.b]?=_:=d.2;rw[g]at c;cases c
theorem MH{nm b:List ByteArray}{s:ByteArray}{i:Nat}(f:b.Nodup)(e:b[i]?=some s)(a:b=nm\/b=nm++ [s]):b=eK nm s/\i=lh (eK nm s) s:=by
 have c:b=eK nm s:=by
  unfold eK;by_cases d:s∈nm
  ·rw[if_pos ((zC nm s).2 d)];rcases a with a|a
   ·exact a
   ·rw[a,fp]at f;exact absurd rfl (f.2.2 s d s (by simp))
  ·rw[if_neg (λc=>d ((zC nm s).1 c))];rcases a with a|a
   ·rw[a]at e;exact absurd (aH e) d
   ·exact a
 refine⟨c,?_⟩;rw[<-c];exact(BI f e).symm
theorem MV(base:Nat)(a:cu)(room:Int)(ws:List Wd)(nm:List ByteArray)(M:Nat->Prop)(s:ByteArray)(w:World)(r:dK base a room ws nm M w)(v:base<=w.heap.size)(u:nm.length<=100000)(x:s.size<=2048):am 128 #[.pointer (some ⟨a.b,a.o+2,none⟩),af s] w λe w'=>e=.returned (ab (lh (eK nm s) s:Int))/\Hid (lU base a room ws (eK nm s) M w w'):=by
 obtain⟨m,D,F,g,c,f,h,t,i,j⟩:=r;refine(DK base a room m D F nm s w g f v u x).mono ?_;rintro e w' ⟨H,rfl,I,E,G,n⟩;obtain⟨y,z,A,k,l,B,C⟩:=n;obtain⟨p,q⟩:=MH k.2.1 y z;subst p;refine⟨by rw[q],⟨m,E,G,A,dV c l ?_,k,ah h,λb e=>ah (t b e),?_,?_⟩,l.mono ?_⟩
 ·rintro b e (rfl|d|d)
  ·exact ny c g (by decide) e
  ·exact ye c f.1 (by decide) b e d
  ·exact FC c f b e d
 ·intro b e;rcases B b e with e|e
  ·exact ah (i b e)
  ·exact ai e
 ·intro b e;rcases C b e with e|e
  ·exact ah (j b e)
  ·exact ai e
 ·rintro b (rfl|e|e)
  ·exact h
  ·exact i b e
  ·exact j b e
theorem P9(base:Nat)(d:cu)(room:Int)(ws:List Wd)(nm:List ByteArray)(M:Nat->Prop)(ps:List Wd)(m pc:Nat)(pa:Option Addr)(w:World)(x:dK base d room ws nm M w)(C:base<=w.heap.size)(A:ws.length<=100000)(E:ps.length=m)(B:m<=1000)(t:∀w1,bV M w w1->fe w1 ps pa):am 129 #[.pointer (some ⟨d.b,d.o+1,none⟩),ae pa m pc] w λe w'=>e=.returned (.agg #[ab 4,ab ws.length])/\Hid (lU base d room (ws++(0,(m:Int))::ps) nm M w w'):=by
 obtain⟨q,J,K,a,f,g,i,j,y,z⟩:=x;obtain⟨⟨L,u,N,O⟩,D⟩:=a.cells;obtain⟨l,n,F⟩:∃l n,q=ae l ws.length n:=by
  rcases f.2 with⟨e,v⟩|⟨Q,c,P,e,_⟩
  ·exact⟨none,0,by rw[e,v]⟩
  ·exact⟨_,c,e⟩
 subst E;refine(AD base d.b (d.o+1) q l n ws.length ws ps ps.length pc pa w F rfl rfl A B C u (D _) a.lt (ny f a (by decide)) f ?_).mono ?_
 ·intro w1 k;refine t w1 (k.mono ?_);rintro b (rfl|e)
  ·exact i
  ·exact j b e
 ·rintro e w' ⟨rfl,r,s⟩;obtain⟨G,H,p,I⟩:=s;refine⟨rfl,⟨r,J,K,(a.set1 r).kept H,?_,g.kept p ?_ ?_,ah i,?_,λb e=>ah (y b e),λb e=>ah (z b e)⟩,p.mono ?_⟩
  ·have e:(ws++(0,(ps.length:Int))::ps).length=ws.length+1+ps.length:=by simp;omega
   rw[e];exact G
  ·rintro b e (rfl|h)
   ·exact ny g.1 a (by decide) e
   ·exact ye f g.1 (by decide) b h e
  ·rintro b e (rfl|h)
   ·exact ud g a e
   ·exact FC f g b h e
  ·intro b e;rcases I b e with e|e
   ·exact ah (j b e)
   ·exact ai e
  ·rintro b (rfl|e)
   ·exact i
   ·exact j b e
theorem dK.inside{base:Nat}{f:cu}{room:Int}{ws:List Wd}{nm:List ByteArray}{M:Nat->Prop}{w:World}(g:dK base f room ws nm M w):dK base f room ws nm (λb=>M b/\b<w.heap.size) w:=by
 obtain⟨o,m,n,d,e,c,h,i,j,k⟩:=g;refine⟨o,m,n,d,e,c,⟨h,d.lt⟩,λb a=>⟨i b a,(e.lt b a).2⟩,λb a=>⟨j b a,(c.1.lt b a).2⟩,λb a=>⟨k b a,?_⟩⟩;rcases c.2.2 with⟨rfl,_⟩|⟨q,p,rfl,_,l,_⟩
 ·simp[mapBlock]at a
 ·simp only[mapBlock]at a;obtain rfl:=aw a;exact l.lt
theorem dK.later{base:Nat}{c:cu}{room:Int}{ws:List Wd}{nm:List ByteArray}{M:Nat->Prop}{w wA:World}(a:dK base c room ws nm M w)(d:aj w wA):dK base c room ws nm (λb=>M b/\b<w.heap.size) wA:=
 a.inside.kept (aY d (λ_=>False)) λ_ _ _ a=>a
theorem Bt{base:Nat}{d:cu}{room:Int}{ws:List Wd}{nm:List ByteArray}{M:Nat->Prop}{w wA w2:World}(a:lU base d room ws nm (λb=>M b/\b<w.heap.size) wA w2)(i:aj w wA)(n:w.heap.size+2<=wA.heap.size)(v0 v1:Value):lU base d room ws nm M w ((w2.setCell ⟨w.heap.size+1,0,none⟩ v0).setCell ⟨w.heap.size+1,1,none⟩ v1):=by
 obtain⟨f,g⟩:=a;have k:=bm w2 (w.heap.size+1) 0 v0;have l:=bm (w2.setCell ⟨w.heap.size+1,0,none⟩ v0) (w.heap.size+1) 1 v1;have e:=k.trans l (λb _ a=>a);refine⟨(f.kept e ?_).mono ?_,?_⟩
 ·rintro b (⟨_,c⟩|c) _ m
  ·omega
  ·omega
 ·rintro b (⟨j,_⟩|c)
  ·exact ah j
  ·exact ai (by omega)
 ·have h:bV (λb=>(M b/\b<w.heap.size)\/b=w.heap.size+1) wA _:=(g.mono (λb a=>ah a)).trans e (λb _ a=>ai a);refine(aY i M).trans h ?_;rintro b c (a|a)
  ·exact a.1
  ·omega
theorem vn{base:Nat}{f:cu}{room:Int}{ws:List Wd}{nm:List ByteArray}{M:Nat->Prop}{w wA w2:World}(d:lU base f room ws nm (λb=>M b/\b<w.heap.size) wA w2):∀b,w.heap.size<=b->b<wA.heap.size->∀o,w2.cell? ⟨b,o,none⟩=wA.cell? ⟨b,o,none⟩/\w2.frozen? ⟨b,o,none⟩=wA.frozen? ⟨b,o,none⟩:=by
 intro b g e o;have c:=d.2.block b e (λd=>by omega);exact⟨bt c o,jj (a:=⟨b,o,none⟩) c⟩
theorem Kk(f:cu)(k d:Int)(s:ByteArray)(a:Option Addr)(l c:Nat)(w:World)(g:¬k=2)(h:¬k=4):am 108 #[.pointer (some ⟨f.b,f.o,none⟩),.agg #[ab k,ab d,af s,ae a l c]] w λe w'=>e=.returned (.agg #[ab k,ab d])/\aj w w':=by
 have i:(k==2)=false:=by simpa using g
 have j:(k==4)=false:=by simpa using h
 go_enter func108,ntmps108;go_wp2_with fail;exact av (v:=.agg #[ab k,ab d]) (by simp[results,results108,go_sem]) rfl ⟨rfl,by go_grown⟩
theorem Kj(base:Nat)(f:cu)(room:Int)(ws:List Wd)(nm:List ByteArray)(M:Nat->Prop)(p:Int)(s:ByteArray)(a:Option Addr)(l c:Nat)(w:World)(t:Hid (dK base f room ws nm M w))(z:base<=w.heap.size)(u:nm.length<=100000)(x:s.size<=2048):am 108 #[.pointer (some ⟨f.b,f.o,none⟩),.agg #[ab 2,ab p,af s,ae a l c]] w λe w'=>e=.returned (.agg #[ab 2,ab (lh (eK nm s) s:Int)])/\Hid (lU base f room ws (eK nm s) M w w'):=by
 generalize n:lh (eK nm s) s=j;go_enter func108,ntmps108;go_wp2_with fail;generalize i:(w.alloc (Obj.cells #[Value.int IntKind.i64 2,Value.int IntKind.i64 p,Value.string s,Value.slice a l c] 28)).alloc (Obj.cells #[Value.int IntKind.i64 0,Value.int IntKind.i64 0] 154)=wA;have d:Hid (aj w wA.drew/\wA.drew.heap.size=w.heap.size+2):=by
  subst i;exact⟨(((ap _ _).alloc (ak _) _).alloc (by simp) _).drew,by simp[World.drew]⟩
 have y:wA.cell? ⟨w.heap.size,2,none⟩=some (af s):=by subst i;simp[go_sem]
 have h:Hid ((wA.cell? ⟨w.heap.size+1,0,none⟩=some (ab 0)/\wA.cell? ⟨w.heap.size+1,1,none⟩=some (ab 0))/\wA.frozen? ⟨w.heap.size+1,0,none⟩=false/\wA.frozen? ⟨w.heap.size+1,1,none⟩=false):=by subst i;simp[Hid,go_sem]
 have q:Hid (am 128 #[.pointer (some ⟨f.b,f.o+2,none⟩),af s] wA.drew λe w'=>e=.returned (ab j)/\Hid (lU base f room ws (eK nm s) (λb=>M b/\b<w.heap.size) wA.drew w')):=by
  have m:=MV base f room ws nm _ s wA.drew (t.later d.1) (by have:=d.2;omega) u x;rw[n]at m;exact m
 clear i n;go_region_held3 (λw'=>w'.cell? ⟨w.heap.size,2,none⟩=some (af s)) (go_keep) ((go_at_call 128;refine q.mono ?_;rintro e B ⟨rfl,k⟩;have g:=aq (vn k);have A:=λo=>(g w.heap.size (ak _) (by have:=d.2;omega) o).1;have d0:=(g (w.heap.size+1) (by omega) (by have:=d.2;omega) 0).1.trans h.1.1;have d1:=(g (w.heap.size+1) (by omega) (by have:=d.2;omega) 1).1.trans h.1.2;have f0:=(g (w.heap.size+1) (by omega) (by have:=d.2;omega) 0).2.trans h.2.1;have f1:=(g (w.heap.size+1) (by omega) (by have:=d.2;omega) 1).2.trans h.2.2));have r:=aq (Bt k d.1 (dz d.2.symm) (ab 2) (ab j));go_wp2_with fail;exact av (v:=.agg #[ab 2,ab j]) (by simp[results,results108,go_sem,d0,d1]) rfl ⟨rfl,r⟩
def I9(x:Wd):Value:=.agg #[ab x.1,ab x.2]
def Pj(n:Nat):Prop:=∀(x:Tm n)(base:Nat)(a:cu)(room:Int)(ws:List Wd)(nm:List ByteArray)(M:Nat->Prop)(w:World),dK base a room ws nm M w->In w.heap.size w n x->cd (λb=>¬M b) n x->base<=w.heap.size->aD ⟨n,x⟩->ws.length+2*(ax n x).length<=99000->nm.length+(ax n x).length<=99000->
 am 108 #[.pointer (some ⟨a.b,a.o,none⟩),df n x] w λe w'=>e=.returned (I9 (aV n x ws nm).1)/\Hid (lU base a room (aV n x ws nm).2.1 (aV n x ws nm).2.2 M w w')
def yH(n:Nat)(p:List (Tm n))(len base:Nat)(c:cu)(room:Int)(ws:List Wd)(nm:List ByteArray)(M:Nat->Prop)(g:Nat)(w a:World)(k:Nat)(wr:World):Prop:=
 wr.ownsRow g 154 2 (ae (some ⟨g,0,none⟩) len len) len (aX ((bM (aV n) (p.take k) ws nm).1++List.replicate (len-k) (0,0)))/\
 dK base c room (bM (aV n) (p.take k) ws nm).2.1 (bM (aV n) (p.take k) ws nm).2.2 (λb=>(M b/\b<w.heap.size)\/a.heap.size<=b) wr/\
 bV (λb=>(M b/\b<w.heap.size)\/b=g) a wr
theorem vx(n:Nat):(madeCells #[ab 0,ab 0] (n*2)).toList=aX (List.replicate n (0,0)):=by
 apply List.ext_getElem?;intro b;by_cases d:b<n*2
 ·obtain⟨k,a,e,rfl⟩:∃k a,a<2/\b=k*2+a:=⟨b / 2,b % 2,Nat.mod_lt _ (by decide),by omega⟩;have f:k<n:=by omega
  rw[iW _ k (0,0) (by simp[f]) a e];have c:(madeCells #[ab 0,ab 0] (n*2))[k*2+a]?=some ((#[ab 0,ab 0]:Array Value)[(k*2+a) % 2]!):=by
   simp[madeCells,d]
  rw[mK,c,show (k*2+a) % 2=a by omega];have:a=0\/a=1:=by omega
  rcases this with rfl|rfl<;>rfl
 ·rw[eD (by simp[size_madeCells];omega),eD (by rw[cw];simp;omega)]
theorem qG:(l:List Wd)->(i:Nat)->(x:Wd)->i<l.length->((aX l).set (i*2) (ab x.1)).set (i*2+1) (ab x.2)=aX (l.set i x)
 | [],i,x,h=>by simp at h
 | y::l,0,x,_=>by simp[aX,pU]
 | y::l,i+1,x,h=>by
  have ih:=qG l i x (by simpa using h);have e:aX (y::l)=pU y++aX l:=rfl;have b:aX ((y::l).set (i+1) x)=pU y++aX (l.set i x):=rfl;have a:(pU y).length=2:=rfl;rw[e,b,<-ih];rw[iq _ _ (by rw[a];omega),iq _ _ (by rw[a];omega),a];rw[show (i+1)*2-2=i*2 by omega,show (i+1)*2+1-2=i*2+1 by omega]
theorem Km{n:Nat}{p:List (Tm n)}{len base:Nat}{i:cu}{room:Int}{ws:List Wd}{nm:List ByteArray}{M:Nat->Prop}{w w0:World}{t0 t1 t2 t3:Value}(d:dK base i room ws nm M w)(c:w0.ownsRow (w.heap.size+2) 154 2 (.slice (some ⟨((w.alloc (.cells #[t0,t1,t2,t3] 28)).alloc (.cells #[ab 0,ab 0] 154)).heap.size,0,none⟩) len len) len (madeCells (Value.agg #[ab 0,ab 0]).cells (len*2)).toList)(a:((w.alloc (.cells #[t0,t1,t2,t3] 28)).alloc (.cells #[ab 0,ab 0] 154)).grownBy w0 none):(yH n p len base i room ws nm M (w.heap.size+2) w w0 0 w0/\aj w w0/\w.heap.size+2<w0.heap.size)/\w0.cell? ⟨w.heap.size,3,none⟩=some t3/\ (w0.cell? ⟨w.heap.size+1,0,none⟩=some (ab 0)/\w0.cell? ⟨w.heap.size+1,1,none⟩=some (ab 0))/\w0.frozen? ⟨w.heap.size+1,0,none⟩=false/\w0.frozen? ⟨w.heap.size+1,1,none⟩=false:=by
 have j:((w.alloc (.cells #[t0,t1,t2,t3] 28)).alloc (.cells #[ab 0,ab 0] 154)).heap.size=w.heap.size+2:=by simp
 rw[j]at c;have m:aj w ((w.alloc (.cells #[t0,t1,t2,t3] 28)).alloc (.cells #[ab 0,ab 0] 154)):=((ap _ _).alloc (ak _) _).alloc (by simp) _;have f:Below (w.heap.size+2) ((w.alloc (.cells #[t0,t1,t2,t3] 28)).alloc (.cells #[ab 0,ab 0] 154)) w0:=⟨a.os,a.tape,a.output,a.size,λb e=>a.block b (by omega) (by simp)⟩;have e:=m.trans (f.mono (by omega));have g:=ar f;have h:=gF f;refine⟨⟨⟨?_,?_,bV.refl _ _⟩,e,(c.lt _ rfl).2⟩,?_,⟨?_,?_⟩,?_,?_⟩
 ·simp only[List.take_zero,bM,mR,Nat.sub_zero];have k:=vx len;have l:(Value.agg #[ab 0,ab 0]).cells= #[ab 0,ab 0]:=rfl;rw[l,k]at c;exact c
 ·simp only[List.take_zero,bM];exact(d.later e).mono λb d=>ah d
 ·rw[g _ _ (by omega)];simp[go_sem]
 ·rw[g _ _ (by omega)];simp[go_sem]
 ·rw[g _ _ (by omega)];simp[go_sem]
 ·rw[h _ _ (by omega)];simp[go_sem]
 ·rw[h _ _ (by omega)];simp[go_sem]
theorem oW{w:World}{base g L c:Nat}{ws:List Wd}(b:w.ownsRow base 154 2 (ae (some ⟨g,0,none⟩) L c) L (aX ws)):∀j,w.frozen? ⟨g,j,none⟩=false:=by
 intro j;rcases b.2 with⟨d,_⟩|⟨l,cap,h,f,m,e,_⟩
 ·simp at d
 ·injection f with a i k;injection a with a;injection a with a _;subst a;simp[World.frozen?,e]
theorem yH.step{n:Nat}{p:List (Tm n)}{len base:Nat}{l:cu}{room:Int}{ws:List Wd}{nm:List ByteArray}{M:Nat->Prop}{g:Nat}{w d:World}{k:Nat}{wr w1 w2:World}(H:yH n p len base l room ws nm M g w d k wr)(G:w.heap.size<=g)(I:g<d.heap.size)(K:k<len)(L:p.length=len){x:Tm n}(A:p[k]?=some x)(i:aj wr w1)(z:lU base l room (aV n x (bM (aV n) (p.take k) ws nm).2.1 (bM (aV n) (p.take k) ws nm).2.2).2.1 (aV n x (bM (aV n) (p.take k) ws nm).2.1 (bM (aV n) (p.take k) ws nm).2.2).2.2 (λb=>((M b/\b<w.heap.size)\/d.heap.size<=b)/\b<wr.heap.size) w1 w2):yH n p len base l room ws nm M g w d (k+1) ((w2.setCell ⟨g,k*2,none⟩ (ab (aV n x (bM (aV n) (p.take k) ws nm).2.1 (bM (aV n) (p.take k) ws nm).2.2).1.1)).setCell ⟨g,k*2+1,none⟩ (ab (aV n x (bM (aV n) (p.take k) ws nm).2.1 (bM (aV n) (p.take k) ws nm).2.2).1.2))/\ (w2.cell? ⟨g,k*2,none⟩=some (ab 0)/\w2.cell? ⟨g,k*2+1,none⟩=some (ab 0))/\w2.frozen? ⟨g,k*2,none⟩=false/\w2.frozen? ⟨g,k*2+1,none⟩=false:=by
 obtain⟨m,E,o⟩:=H;obtain⟨u,q⟩:=z;have J:g<wr.heap.size:=(m.lt g rfl).2;have N:=i.size;have O:=o.size;have r:bM (aV n) (p.take (k+1)) ws nm=((bM (aV n) (p.take k) ws nm).1++ [(aV n x (bM (aV n) (p.take k) ws nm).2.1 (bM (aV n) (p.take k) ws nm).2.2).1],(aV n x (bM (aV n) (p.take k) ws nm).2.1 (bM (aV n) (p.take k) ws nm).2.2).2):=by
  rw[dq,A];exact GS _ _ _ _ _
 have s:(bM (aV n) (p.take k) ws nm).1.length=k:=by rw[gM,dy];omega
 have f:w2.ownsRow g 154 2 (ae (some ⟨g,0,none⟩) len len) len (aX ((bM (aV n) (p.take k) ws nm).1++List.replicate (len-k) (0,0))):=by
  refine dV (dS m i) q λb h=>?_;simp only[Value.ownBlock]at h;obtain rfl:=aw h;omega
 generalize bM (aV n) (p.take k) ws nm=e at*;generalize aV n x e.2.1 e.2.2=c at*;have B:(e.1++List.replicate (len-k) (0,0))[k]?=some ((0,0):Wd):=by
  rw[eC (by omega),s,gU,List.getElem?_replicate];simp;omega
 have C:=bm w2 g (k*2) (ab c.1.1);have D:=bm (w2.setCell ⟨g,k*2,none⟩ (ab c.1.1)) g (k*2+1) (ab c.1.2);have t:=C.trans D (λb _ a=>a);refine⟨⟨?_,?_,?_⟩,iY f k (0,0) B,oW f _,oW f _⟩
 ·rw[r];have j:=jo (jo f (k*2) (ab c.1.1)) (k*2+1) (ab c.1.2);rw[qG _ k c.1 (by simp;omega)]at j;have es:(e.1++List.replicate (len-k) ((0,0):Wd)).set k c.1=(e.1++ [c.1])++List.replicate (len-(k+1)) (0,0):=by
   rw[iq _ _ (by omega)];have:len-k=(len-(k+1))+1:=by omega
   rw[this,List.replicate_succ];simp[s]
  rw[es]at j;exact j
 ·rw[r];refine(u.kept t ?_).mono ?_
  ·rintro b (⟨a,_⟩|a) _ h<;>omega
  ·rintro b (⟨a,_⟩|a)
   ·exact a
   ·exact ai (by omega)
 ·have v:bV (λb=>(M b/\b<w.heap.size)\/b=g) d w1:=o.trans (aY i (λ_=>False)) (λ_ _ a=>a.elim)
  have y:bV (λb=>(M b/\b<w.heap.size)\/b=g) d w2:=v.trans q (λb F a=>by
   rcases a.1 with a|a
   ·exact ah a
   ·omega)
  exact y.trans t (λb _ a=>ai a)
theorem Kn{n:Nat}{p:List (Tm n)}{len base:Nat}{q:cu}{room:Int}{ws:List Wd}{nm:List ByteArray}{M:Nat->Prop}{g:Nat}{w d:World}{k:Nat}{wr:World}(H:yH n p len base q room ws nm M g w d k wr)(t:w.heap.size<g)(u:g<d.heap.size)(h:aj w d){b o:Nat}(i:b<w.heap.size)(m:¬M b){x:Tm n}(l:dB w b o n x)(e:In w.heap.size w n x)(f:cd (λb=>¬M b) n x):dB wr b o n x/\In w.heap.size wr n x/\cd (λb=>¬(((M b/\b<w.heap.size)\/d.heap.size<=b)/\b<wr.heap.size)) n x:=by
 have j:∀a,¬M a/\a<w.heap.size->wr.heap[a]?=d.heap[a]? :=λa r=>H.2.2.block a (by omega) (by rintro (c|c);exact r.1 c.1;omega);refine⟨(l.below h i).block (j b ⟨m,i⟩),In.off j (In.offB f e) (e.below h),(In.offB f e).mono ?_⟩;rintro a ⟨s,v⟩ ⟨c|c,_⟩
 ·exact s c.1
 ·omega
theorem Kl{n:Nat}{p:List (Tm n)}{len base:Nat}{f:cu}{room:Int}{ws:List Wd}{nm:List ByteArray}{M:Nat->Prop}{g:Nat}{w e:World}{wr:World}(H:yH n p len base f room ws nm M g w e len wr)(E:p.length=len)(C:g=w.heap.size+2)(D:g<e.heap.size)(m:aj w e):dK base f room (bM (aV n) p ws nm).2.1 (bM (aV n) p ws nm).2.2 (λb=>((M b/\b<w.heap.size)\/e.heap.size<=b)) wr/\(∀w1,bV (λb=>((M b/\b<w.heap.size)\/e.heap.size<=b)) wr w1->fe w1 (bM (aV n) p ws nm).1 (some ⟨g,0,none⟩))/\ (∀o,wr.cell? ⟨w.heap.size+1,o,none⟩=e.cell? ⟨w.heap.size+1,o,none⟩/\wr.frozen? ⟨w.heap.size+1,o,none⟩=e.frozen? ⟨w.heap.size+1,o,none⟩)/\ ∀k j w2,lU base f room k j (λb=>((M b/\b<w.heap.size)\/e.heap.size<=b)) wr w2-> (∀o,w2.cell? ⟨w.heap.size+1,o,none⟩=wr.cell? ⟨w.heap.size+1,o,none⟩/\w2.frozen? ⟨w.heap.size+1,o,none⟩=wr.frozen? ⟨w.heap.size+1,o,none⟩)/\ ∀v0 v1,lU base f room k j M w ((w2.setCell ⟨w.heap.size+1,0,none⟩ v0).setCell ⟨w.heap.size+1,1,none⟩ v1):=by
 obtain⟨h,l,i⟩:=H;rw[bu (by omega)]at h l;rw[gU,mT,dY]at h;have F:=i.size;refine⟨l,λw1 x=>ai ⟨_,rfl,λy B v=>?_⟩,λo=>?_,λk j w2 q=>⟨λo=>?_,λv0 v1=>?_⟩⟩
 ·have:=(dV h x (λb d=>by
    simp only[Value.ownBlock]at d;obtain rfl:=aw d
    omega)).cells (g:=g) rfl y B v
  exact this
 ·have d:=i.block (w.heap.size+1) (by omega) (by omega);exact⟨bt d o,jj (a:=⟨w.heap.size+1,o,none⟩) d⟩
 ·have d:=q.2.block (w.heap.size+1) (by omega) (by omega);exact⟨bt d o,jj (a:=⟨w.heap.size+1,o,none⟩) d⟩
 ·obtain⟨t,u⟩:=q;have z:=bm w2 (w.heap.size+1) 0 v0;have A:=bm (w2.setCell ⟨w.heap.size+1,0,none⟩ v0) (w.heap.size+1) 1 v1;have s:=z.trans A (λb _ c=>c);refine⟨(t.kept s ?_).mono ?_,?_⟩
  ·rintro b (c|c) _ d<;>omega
  ·rintro b ((c|c)|c)
   ·exact ah c.1
   ·exact ai (by omega)
   ·exact ai (by omega)
  ·refine(((aY m M).trans i ?_).trans u ?_).trans s ?_
   ·rintro b r (c|c)
    ·exact c.1
    ·omega
   ·rintro b r (c|c)
    ·exact c.1
    ·have:=m.size;omega
   ·intro b r c;omega
theorem vp(n:Nat)(l:List (Tm n))(ws:List Wd)(nm:List ByteArray):(bM (aV n) l ws nm).2.1.length<=ws.length+2*(l.flatMap λy=>ax n y).length/\(bM (aV n) l ws nm).2.2.length<=nm.length+(l.flatMap λy=>ax n y).length:=by
 induction l generalizing ws nm with
 | nil=>simp[bM]
 | cons y l ih=>
  obtain⟨a,b⟩:=iL n y ws nm;obtain⟨d,e⟩:=ih (aV n y ws nm).2.1 (aV n y ws nm).2.2;have c:=(eT n y).2;simp only[bM,bz,bk];exact⟨by omega,by omega⟩
theorem Bw(n:Nat)(p:List (Tm n))(k:Nat)(x:Tm n)(d:p[k]?=some x):((p.take k).flatMap λy=>ax n y).length+(ax n x).length<=(p.flatMap λy=>ax n y).length:=by
 have b:=aO.1 d;obtain⟨c,rfl⟩:=b;have a:p=p.take k++p[k]::p.drop (k+1):=by
  rw[<-eA c,ir]
 conv=>rhs;rw[a]
 simp only[kG,bz,bk];omega
theorem MO(n:Nat)(ih:Pj n)(base:Nat)(d:cu)(room:Int)(ws:List Wd)(nm:List ByteArray)(M:Nat->Prop)(ag:Int)(s:ByteArray)(a:Option Addr)(len pc:Nat)(p:List (Tm n))(C:Hid (p.length=len))(w:World)(Z:Hid (dK base d room ws nm M w))(aB:len<=8)(au:base<=w.heap.size)(F:Hid (p=[]\/∃b o,a=some ⟨b,o,none⟩/\b<w.heap.size/\¬M b/\∀(i:Nat)(y:Tm n),p[i]?=some y->dB w b (o+i*4) n y/\In w.heap.size w n y/\cd (λb=>¬M b) n y))(R:Hid (∀y∈p,aD ⟨n,y⟩))(G:Hid (ws.length+2*(p.flatMap λy=>ax n y).length<=99000))(O:Hid (nm.length+(p.flatMap λy=>ax n y).length<=99000)):am 108 #[.pointer (some ⟨d.b,d.o,none⟩),.agg #[ab 4,ab ag,af s,ae a len pc]] w λe w'=>e=.returned (I9 (4,((bM (aV n) p ws nm).2.1.length:Int)))/\Hid (lU base d room ((bM (aV n) p ws nm).2.1++(0,(len:Int))::(bM (aV n) p ws nm).1) (bM (aV n) p ws nm).2.2 M w w'):=by
 obtain⟨ad,K,S,T,U⟩:=bP kZ;go_enter func108,ntmps108;go_wp2_with (at_make;refine kO _ rfl _ _ 157 rfl (w.heap.size+2) 154 ad _ 2 underlying157 K S T _ _ _ _ len rfl rfl rfl rfl (by rw[U];omega) (by unfold maxLen;omega) (by simp) ?_;intro x P J;have l:=aq (Km (p:=p) Z P J);have ao:=l.2.1;clear P J);clear K S T U;obtain⟨c,B⟩:∃c,w.heap.size+1+1=c:=⟨_,rfl⟩;have H:Hid (yH n p len base d room ws nm M c w x 0 x):=by subst B;exact l.1.1
 have E:c<x.heap.size:=by subst B;exact l.1.2.2
 rw[B];go_loopw [28] (λi wr=>∃k:Nat,k<=len/\i=ab k/\Hid (yH n p len base d room ws nm M c w x k wr)) (λi _=>len-(intOf i).toNat)
 case atStart=>exact⟨0,by omega,rfl,H⟩
 case round=>
  clear H;obtain⟨k,ay,rfl,g⟩:=hrel;by_cases L:k<len
  ·obtain⟨f,m⟩:∃f,p[k]?=some f:=⟨p[k]'(by rw[C.out];exact L),aG _⟩;obtain⟨b,o,rfl,aa,N,Q⟩:∃b o,a=some ⟨b,o,none⟩/\b<w.heap.size/\¬M b/\∀(i:Nat)(y:Tm n),p[i]?=some y->dB w b (o+i*4) n y/\In w.heap.size w n y/\cd (λb=>¬M b) n y:=by
    rcases F.out with e|e
    ·rw[e]at m;simp at m
    ·exact e
   obtain⟨V,W,X⟩:=Q k f m;obtain⟨y1,y2,Y⟩:=Kn g (by omega) E l.1.2.1 aa N V W X;have aw:c<wr.heap.size:=(g.1.lt c rfl).2;have aI:=g.2.2.size;cases n with
   | zero=>exact y1.elim
   | succ n=>
   obtain⟨u,q⟩:∃u:Wd,Hid (∀D,aj wr D->am 108 #[.pointer (some ⟨d.b,d.o,none⟩),.agg #[ab f.1.1,ab f.1.2.1,af f.1.2.2,ae f.2.1.1 f.2.2.length f.2.1.2]] D λe h=>e=.returned (.agg #[ab u.1,ab u.2])/\
       Hid (yH (n+1) p len base d room ws nm M c w x (k+1) ((h.setCell ⟨c,k*2,none⟩ (ab u.1)).setCell ⟨c,k*2+1,none⟩ (ab u.2))/\
        (h.cell? ⟨c,k*2,none⟩=some (ab 0)/\h.cell? ⟨c,k*2+1,none⟩=some (ab 0))/\h.frozen? ⟨c,k*2,none⟩=false/\h.frozen? ⟨c,k*2+1,none⟩=false)):=by
    refine⟨(aV (n+1) f (bM (aV (n+1)) (p.take k) ws nm).2.1 (bM (aV (n+1)) (p.take k) ws nm).2.2).1,λD A=>?_⟩;have aJ:=vp (n+1) (p.take k) ws nm;have aK:=Bw (n+1) p k f m;have aF:=G.out;have aC:=O.out;have aE:=A.size;refine(ih f base d room _ _ _ D (g.2.1.later A) ((y2.below (A.mono (by omega))).mono (by omega)) Y (by omega) (R f (aH m)) (by omega) (by omega)).mono ?_;rintro e h ⟨rfl,z⟩;exact⟨rfl,g.step (by omega) E L C m A z⟩
   obtain⟨ah,ai,al,an⟩:=y1;clear ih g F Q V W X y2 Y m N G O R;generalize f.2.2.length=aL at*;have az:(0:Int)<=(k:Int):=by omega
   have aA:(k:Int)<(len:Int):=by omega
   have ar:b<wr.heap.size:=by omega
   go_wp2_with fail;refine(q _ ((ap _ _).alloc (ak _) _)).mono ?_;rintro e h ⟨rfl,I⟩;obtain⟨⟨d0,d1⟩,f0,f1⟩:=I.out.2;clear q ah ai al an;go_wp2_with fail;go_roundw
   case rel=>exact⟨k+1,by omega,by go_num,I.1⟩
   case measure=>simp[intOf];omega
  ·obtain rfl:k=len:=by omega
   have j:=aq (Kl g C B.symm E l.1.2.1)
   have q:Hid (am 129 #[.pointer (some ⟨d.b,d.o+1,none⟩),ae (some ⟨c,0,none⟩) k k] wr λe w'=>e=.returned (.agg #[ab 4,ab (bM (aV n) p ws nm).2.1.length])/\Hid (lU base d room ((bM (aV n) p ws nm).2.1++(0,(k:Int))::(bM (aV n) p ws nm).1) (bM (aV n) p ws nm).2.2 _ wr w')):=
    P9 base d room (bM (aV n) p ws nm).2.1 (bM (aV n) p ws nm).2.2 _ (bM (aV n) p ws nm).1 k k (some ⟨c,0,none⟩) wr j.1 (by have:=g.2.2.size;omega) (by have:=(vp n p ws nm).1;have:=G.out;omega) (by rw[gM];exact C) (by omega) j.2.1
   have t:=l.2.2;clear g l ih F;go_wp2_with fail;refine q.mono ?_;rintro e h ⟨rfl,z⟩;have r:=aq (j.2.2.2 _ _ h z);have d0:=((r.1 0).1.trans (j.2.2.1 0).1).trans t.1.1;have d1:=((r.1 1).1.trans (j.2.2.1 1).1).trans t.1.2;have f0:=((r.1 0).2.trans (j.2.2.1 0).2).trans t.2.1;have f1:=((r.1 1).2.trans (j.2.2.1 1).2).trans t.2.2;clear q j z t;go_wp2_with fail;exact av (v:=.agg #[ab 4,ab ((bM (aV n) p ws nm).2.1.length:Int)]) (by simp[results,results108,go_sem,d0,d1]) rfl ⟨rfl,r.2 _ _⟩
theorem GR{base:Nat}{c:cu}{room:Int}{ws:List Wd}{nm:List ByteArray}{M:Nat->Prop}{w w':World}(a:dK base c room ws nm M w)(b:aj w w'):lU base c room ws nm M w w':=
 ⟨(a.later b).mono λ_ a=>ah a.1,aY b M⟩
theorem MN(n:Nat):Pj n:=by
 induction n with
 | zero=>intro a t p room d c s q _ w;exact w.elim
 | succ n ih=>
  intro a t p room d c s q u w k y A O J;have H:=w;obtain⟨⟨Q,R,N,M,L⟩,h⟩:=H;have z:=A (bw n a) (by simp[ax,bw]);have F:a.2.2.length<=8:=mj (bw n a) z;have G:a.1.2.2.size<=2048:=by have:=sx (bw n a) z;simp only[bw]at this;omega
  have K:(ax (n+1) a).length=1+(a.2.2.flatMap λf=>ax n f).length:=by simp[ax];omega
  by_cases g:a.1.1=2
  ·have e:aV (n+1) a d c=((2,(lh (eK c a.1.2.2) a.1.2.2:Int)),d,eK c a.1.2.2):=by simp only[aV,if_pos g]
   rw[e];have j:=Kj t p room d c s a.1.2.1 a.1.2.2 a.2.1.1 a.2.2.length a.2.1.2 q u y (by omega) G;rw[<-g]at j;refine j.mono ?_;rintro e B ⟨rfl,r⟩;exact⟨by rw[g];rfl,r⟩
  ·by_cases i:a.1.1=4
   ·have e:aV (n+1) a d c=((4,((bM (aV n) a.2.2 d c).2.1.length:Int)),(bM (aV n) a.2.2 d c).2.1++(0,(a.2.2.length:Int))::(bM (aV n) a.2.2 d c).1,(bM (aV n) a.2.2 d c).2.2):=by simp only[aV,if_neg g,if_pos i]
    rw[e];have j:=MO n ih t p room d c s a.1.2.1 a.1.2.2 a.2.1.1 a.2.2.length a.2.1.2 a.2.2 rfl q u F y ?_ (λf l=>aU n a f A l) (by unfold Hid;omega) (by unfold Hid;omega)
    ·rw[<-i]at j;refine j.mono ?_;rintro e B ⟨rfl,r⟩;exact⟨by rw[i],r⟩
    ·rcases h with h|⟨b,o,e,v,h⟩
     ·exact ah h
     ·rcases k with k|⟨I,P,m,E,k⟩
      ·exact ah k
      ·rw[e]at m;injection m with m;injection m with C D;subst C D;exact ai ⟨b,o,e,v,E,λx f l=>⟨(h x f l).1,(h x f l).2,k x f l⟩⟩
   ·have e:aV (n+1) a d c=((a.1.1,a.1.2.1),d,c):=by simp only[aV,if_neg g,if_neg i]
    rw[e];refine(Kk p a.1.1 a.1.2.1 a.1.2.2 a.2.1.1 a.2.2.length a.2.1.2 q g i).mono ?_;rintro e B ⟨rfl,v⟩;exact⟨rfl,GR u v⟩
end Go.Proofs.YtmmahddlcldmiaaGreatDoor
